import PyProof.Rows.All
import Wide.All
import OpenK.AllK
import Wide.FinOn
import HandS.ForMost
import HandS.IsInst
import HandS.TupAny
import HandS.Deep
import HandS.Flt
import HandS.CallLocal
import HandS.More
import HandS.Nested
import HandS.ClsMeth
import KE.RegKSuper
import HandS.SortInts
import PySem.Challenge.RW_weavepull_k06_two_lines_pulled
set_option Elab.async false
set_option linter.all false
set_option maxRecDepth 100000
set_option maxHeartbeats 4000000
namespace Wv
open PySem PySem.Spec PyProof.Rows L2
/-! ### what the top has -/
structure At (K : PySem.W.Frag) (mg : Str → Option Value) (x : Str) (st : Stmt) (ps : List Str) where
  f : Addr
  fd : FuncData
  F : Fun K x x st f fd
  b : Binds K fd ps []
  g : mg x = some (.ref f)
structure IntAt (mg : Str → Option Value) (x : Str) (n : Int) where
  t : Tok
  g : mg x = some (.int n t)
structure StrAt (mg : Str → Option Value) (x : Str) (n : Str) where
  t : Tok
  g : mg x = some (.str n t)
theorem dec_vint {a b : Int} : decide (V.int a = V.int b) = decide (a = b) := by
  by_cases h : a = b
  · subst h; rw [decide_eq_true rfl, decide_eq_true rfl]
  · rw [decide_eq_false h, decide_eq_false]
    intro z
    injection z with z
    exact h z
theorem dv_f {a b : Int} (h : ¬ a = b) : decide (V.int a = V.int b) = false := by rw [dec_vint]; exact decide_eq_false h
theorem dv_t {a b : Int} (h : a = b) : decide (V.int a = V.int b) = true := by rw [dec_vint]; exact decide_eq_true h
theorem isProp {p : Prop} (h : p) : p := h
theorem posOf {x : Int} (h : (0 : Int) < x) : (0 : Int) < x := h
/-! ### a word that the walk does not open -/
inductive Hold (p : Prop) : Prop where
  | mk (h : p)
  | no (h : False)
theorem Hold.out {p : Prop} : Hold p → p
  | .mk h => h
  | .no h => h.elim
/-! ### tests whose answer is known -/
theorem ite_f {b : Bool} {A B : Prop} (h : b = false) (q : B) : if b = true then A else B := by
  subst h; exact iteF q
theorem ite_t {b : Bool} {A B : Prop} (h : b = true) (q : A) : if b = true then A else B := by
  subst h; exact iteT q
theorem ite_d {c : Prop} [Decidable c] {A B : Prop} (h1 : c → A) (h2 : ¬ c → B) : if decide c = true then A else B := by
  by_cases h : c
  · exact ite_t (decide_eq_true h) (h1 h)
  · exact ite_f (decide_eq_false h) (h2 h)
theorem ite_nd {c : Prop} [Decidable c] {A B : Prop} (h1 : ¬ c → A) (h2 : c → B) : if (!decide c) = true then A else B := by
  by_cases h : c
  · exact ite_f (by rw [decide_eq_true h]; rfl) (h2 h)
  · exact ite_t (by rw [decide_eq_false h]; rfl) (h1 h)
/-! ### data that never changes -/
mutual
inductive Im (K : PySem.W.Frag) (H : Hp) : V → PyData → Prop
  | non : Im K H .non .none
  | bl (b : Bool) : Im K H (.bl b) (.bool b)
  | int (i : Int) : Im K H (.int i) (.int i)
  | str (x : Str) : Im K H (.str x) (.str x)
  | tup {a : Addr} {xs : List V} {ds : List PyData} : SqT K H a xs → Ims K H xs ds → Im K H (.ref a) (.tuple ds)
inductive Ims (K : PySem.W.Frag) (H : Hp) : List V → List PyData → Prop
  | nil : Ims K H [] []
  | cons {v : V} {vs : List V} {d : PyData} {ds : List PyData} : Im K H v d → Ims K H vs ds → Ims K H (v :: vs) (d :: ds)
end
/-- the script: a list that nobody writes -/
def Fz (K : PySem.W.Frag) (H : Hp) (a : Addr) (xs : List V) : Prop :=
  (∃ o, H a = some (.frz o (.lst xs))) ∨
    ∃ (o : Obj) (its : Array Value) (n : Nat), K.lookup a = some o ∧ o.cls = .type "list" ∧ o.dict = none ∧ o.data = .seq its n ∧ its.size ≤ sizeLine ∧ Vals xs its.toList
theorem Fz.seq {K : PySem.W.Frag} {H : Hp} {a : Addr} {xs : List V} (h : Fz K H a xs) : SqL K H a xs := by
  rcases h with h | h
  · exact .inl (.inr h)
  · exact .inr h
theorem fz_of {K : PySem.W.Frag} {H : Hp} {a : Addr} {xs : List V} (O : Only H) (h : SqL K H a xs) : Fz K H a xs := by
  rcases h with (h | h) | h
  · rcases O a with z | ⟨o, ys, z⟩
    · rw [z] at h; cases h
    · rw [z] at h; cases h
  · exact .inl h
  · exact .inr h
/-- what never changes stays: tuples, the script -/
structure TK (K : PySem.W.Frag) (H H' : Hp) : Prop where
  t : ∀ a xs, SqT K H a xs → SqT K H' a xs
  f : ∀ a xs, Fz K H a xs → Fz K H' a xs
/-- all but what stands at D is kept -/
def But (D : Addr) (H H' : Hp) : Prop := ∀ b o, b ≠ D → H b = some o → H' b = some o
section
variable {K : PySem.W.Frag} {H H' H1 H2 : Hp}
theorem TK.refl : TK K H H := ⟨fun _ _ h => h, fun _ _ h => h⟩
theorem TK.trans (a : TK K H H1) (b : TK K H1 H2) : TK K H H2 := ⟨fun x y h => b.t x y (a.t x y h), fun x y h => b.f x y (a.f x y h)⟩
theorem same_tk (s : Same H H') : TK K H H' := by
  refine ⟨fun a xs h => ?_, fun a xs h => ?_⟩
  · rcases h with (h | ⟨o, h⟩) | h
    · exact .inl (.inl (s _ _ h))
    · exact .inl (.inr ⟨o, s _ _ h⟩)
    · exact .inr h
  · rcases h with ⟨o, h⟩ | h
    · exact .inl ⟨o, s _ _ h⟩
    · exact .inr h
theorem But.refl {D : Addr} : But D H H := fun _ _ _ h => h
theorem But.trans {D : Addr} (a : But D H H1) (b : But D H1 H2) : But D H H2 := fun c o hc h => b c o hc (a c o hc h)
theorem same_but {D : Addr} (s : Same H H') : But D H H' := fun b o _ h => s b o h
/-- what a write may change -/
def wr : HO → Bool
  | .tup _ => false
  | .frz _ _ => false
  | _ => true
theorem But.tkW {D : Addr} {u : HO} (hD : H D = some u) (hu : wr u = true) (s : But D H H') : TK K H H' := by
  refine ⟨fun a ys h => ?_, fun a ys h => ?_⟩
  · rcases h with (h | ⟨o, h⟩) | h
    · exact .inl (.inl (s _ _ (ne_of h hD (by intro z; subst z; cases hu)) h))
    · exact .inl (.inr ⟨o, s _ _ (ne_of h hD (by intro z; subst z; cases hu)) h⟩)
    · exact .inr h
  · rcases h with ⟨o, h⟩ | h
    · exact .inl ⟨o, s _ _ (ne_of h hD (by intro z; subst z; cases hu)) h⟩
    · exact .inr h
theorem But.tk {D : Addr} {xs : List V} (hD : H D = some (.lst xs)) (s : But D H H') : TK K H H' := s.tkW hD rfl
/-- a new object -/
theorem same_new {p : Addr} {o : HO} (h : H p = none) : Same H (upd H p o) := fun b u q => by rw [upd_ne (ne_of_none q h)]; exact q
theorem But.new {D p : Addr} {o : HO} (s : But D H H1) (hD : H1 D ≠ none) (h : H1 p = none) : But D H (upd H1 p o) := fun b u hb q => by
  rw [upd_ne (ne_of_none (s b u hb q) h)]
  exact s b u hb q
/-- a write to what was not there at the beginning, or to D -/
theorem But.put {D p : Addr} {o : HO} (s : But D H H1) (h : p = D ∨ H p = none) : But D H (upd H1 p o) := fun b u hb q => by
  have : b ≠ p := by
    rcases h with rfl | h
    · exact hb
    · exact ne_of_none q h
  rw [upd_ne this]
  exact s b u hb q
theorem same_put {p : Addr} {o : HO} (s : Same H H1) (h : H p = none) : Same H (upd H1 p o) := fun b u q => by
  rw [upd_ne (ne_of_none q h)]
  exact s b u q
theorem But.free {D p : Addr} (s : But D H H1) (hp : p ≠ D) (h : H1 p = none) : H p = none := by
  cases q : H p with
  | none => rfl
  | some o =>
    rw [s p o hp q] at h
    cases h
theorem upd_same' {p : Addr} {o : HO} : (upd H p o) p = some o := upd_same
/-- a new object: go on with a heap that is only known to hold it -/
theorem alloc {p : Addr} {o : HO} {G : Hp → Prop} (h : H p = none) (k : ∀ H', Same H H' → H' p = some o → G H') : G (upd H p o) := k _ (same_new h) upd_same
theorem put {p : Addr} {o : HO} {G : Hp → Prop} (k : ∀ H', But p H H' → H' p = some o → G H') : G (upd H p o) :=
  k _ (fun b u hb q => by rw [upd_ne hb]; exact q) upd_same
end
theorem sql_id {K : PySem.W.Frag} {H : Hp} {a : Addr} {xs : List V} (h : SqL K H a xs) : SqL K H a xs := h
theorem sqt_id {K : PySem.W.Frag} {H : Hp} {a : Addr} {xs : List V} (h : SqT K H a xs) : SqT K H a xs := h
theorem big {n : Nat} (h : n < 1000000) : n < sizeLine := Nat.lt_of_lt_of_le h (by decide)
theorem sz {n : Nat} (h : n ≤ 1000) : n ≤ sizeLine := Nat.le_of_lt (small1000 h)
section
variable {K : PySem.W.Frag} {H H' : Hp}
mutual
theorem Im.up (t : TK K H H') : ∀ (d : PyData) (v : V), Im K H v d → Im K H' v d
  | .none, _, h => by cases h; exact .non
  | .bool b, _, h => by cases h; exact .bl b
  | .int i, _, h => by cases h; exact .int i
  | .str x, _, h => by cases h; exact .str x
  | .list _, _, h => by cases h
  | .tuple ds, _, h => by
    cases h with
    | tup hs ha => exact .tup (t.t _ _ hs) (Ims.up t ds _ ha)
  | .dict _, _, h => by cases h
theorem Ims.up (t : TK K H H') : ∀ (ds : List PyData) (vs : List V), Ims K H vs ds → Ims K H' vs ds
  | [], _, h => by cases h; exact .nil
  | d :: ds, _, h => by
    cases h with
    | cons h1 h2 => exact .cons (Im.up t d _ h1) (Ims.up t ds _ h2)
end
mutual
theorem Im.dp : ∀ (d : PyData) (v : V), Im K H v d → Dp K H v d
  | .none, _, h => by cases h; exact .non
  | .bool b, _, h => by cases h; exact .bl b
  | .int i, _, h => by cases h; exact .int i
  | .str x, _, h => by cases h; exact .str x
  | .list _, _, h => by cases h
  | .tuple ds, _, h => by
    cases h with
    | tup hs ha => exact .tup hs (Ims.dp ds _ ha)
  | .dict _, _, h => by cases h
theorem Ims.dp : ∀ (ds : List PyData) (vs : List V), Ims K H vs ds → DpAll K H vs ds
  | [], _, h => by cases h; exact .nil
  | d :: ds, _, h => by
    cases h with
    | cons h1 h2 => exact .cons (Im.dp d _ h1) (Ims.dp ds _ h2)
end
theorem Im.u {d : PyData} {v : V} (h : Im K H v d) (t : TK K H H') : Im K H' v d := Im.up t d v h
theorem Ims.u {d : List PyData} {v : List V} (h : Ims K H v d) (t : TK K H H') : Ims K H' v d := Ims.up t d v h
theorem Ims.len : ∀ {vs : List V} {ds : List PyData}, Ims K H vs ds → vs.length = ds.length
  | _, _, .nil => rfl
  | _, _, .cons _ t => congrArg Nat.succ (Ims.len t)
theorem Ims.get : ∀ {vs : List V} {ds : List PyData} {i : Nat} {v : V}, Ims K H vs ds → vs[i]? = some v → ∃ d, ds[i]? = some d ∧ Im K H v d
  | _, _, i, _, .nil, e => by simp at e
  | _, _, 0, v, .cons r _, e => by simp at e; subst e; exact ⟨_, rfl, r⟩
  | _, _, i + 1, v, .cons _ t, e => by
    obtain ⟨d, h1, h2⟩ := Ims.get (i := i) (v := v) t (by simpa using e)
    exact ⟨d, by simpa using h1, h2⟩
theorem Ims.got : ∀ {vs : List V} {ds : List PyData} {i : Nat} {d : PyData}, Ims K H vs ds → ds[i]? = some d → ∃ v, vs[i]? = some v ∧ Im K H v d
  | _, _, i, _, .nil, e => by simp at e
  | _, _, 0, v, .cons r _, e => by simp at e; subst e; exact ⟨_, rfl, r⟩
  | _, _, i + 1, v, .cons _ t, e => by
    obtain ⟨d, h1, h2⟩ := Ims.got (i := i) (d := v) t (by simpa using e)
    exact ⟨d, by simpa using h1, h2⟩
theorem Ims.snoc : ∀ {vs : List V} {ds : List PyData} {v : V} {d : PyData}, Ims K H vs ds → Im K H v d → Ims K H (vs ++ [v]) (ds ++ [d])
  | _, _, _, _, .nil, h => .cons h .nil
  | _, _, _, _, .cons r t, h => .cons r (Ims.snoc t h)
theorem Im.i {v : V} {i : Int} (h : Im K H v (.int i)) : v = .int i := by cases h; rfl
theorem Im.s {v : V} {i : Str} (h : Im K H v (.str i)) : v = .str i := by cases h; rfl
theorem Im.t {v : V} {ds : List PyData} (h : Im K H v (.tuple ds)) : ∃ a xs, v = .ref a ∧ SqT K H a xs ∧ Ims K H xs ds := by
  cases h with
  | tup h1 h2 => exact ⟨_, _, rfl, h1, h2⟩
theorem Im.t1 {v : V} {d : PyData} (h : Im K H v (.tuple [d])) : ∃ a x, v = .ref a ∧ SqT K H a [x] ∧ Im K H x d := by
  cases h with
  | tup h1 h2 =>
    cases h2 with
    | cons a b => cases b; exact ⟨_, _, rfl, h1, a⟩
theorem Im.t2 {v : V} {d e : PyData} (h : Im K H v (.tuple [d, e])) : ∃ a x y, v = .ref a ∧ SqT K H a [x, y] ∧ Im K H x d ∧ Im K H y e := by
  cases h with
  | tup h1 h2 =>
    cases h2 with
    | cons a b =>
      cases b with
      | cons c b => cases b; exact ⟨_, _, _, rfl, h1, a, c⟩
theorem Im.t3 {v : V} {d e f : PyData} (h : Im K H v (.tuple [d, e, f])) : ∃ a x y z, v = .ref a ∧ SqT K H a [x, y, z] ∧ Im K H x d ∧ Im K H y e ∧ Im K H z f := by
  cases h with
  | tup h1 h2 =>
    cases h2 with
    | cons a b =>
      cases b with
      | cons c b =>
        cases b with
        | cons g b => cases b; exact ⟨_, _, _, _, rfl, h1, a, c, g⟩
theorem Ims.ints : ∀ (ns : List Int), Ims K H (ns.map V.int) (ns.map PyData.int)
  | [] => .nil
  | n :: ns => .cons (.int n) (Ims.ints ns)
theorem Ims.of_ints : ∀ (ns : List Int) {vs : List V}, Ims K H vs (ns.map PyData.int) → vs = ns.map V.int
  | [], _, h => by cases h; rfl
  | n :: ns, _, h => by
    cases h with
    | cons a b => cases a; rw [Ims.of_ints ns b]; rfl
end
/-! ### a list that a def grows -/
section
variable {K : PySem.W.Frag} {H H' : Hp} {l : Addr} {ds : List PyData}
def Acc (K : PySem.W.Frag) (H : Hp) (l : Addr) (ds : List PyData) : Prop := ∃ vs, H l = some (.lst vs) ∧ Ims K H vs ds
theorem Acc.at (h : Acc K H l ds) : ∃ xs, H l = some (.lst xs) := ⟨_, h.choose_spec.1⟩
theorem Acc.keep (h : Acc K H l ds) (t : TK K H H') (e : ∀ xs, H l = some (.lst xs) → H' l = some (.lst xs)) : Acc K H' l ds := by
  obtain ⟨vs, e1, i⟩ := h
  exact ⟨vs, e _ e1, i.u t⟩
theorem Acc.same (h : Acc K H l ds) (s : Same H H') : Acc K H' l ds := h.keep (same_tk s) fun _ e => s _ _ e
theorem Acc.but {D : Addr} (h : Acc K H l ds) (s : But D H H') (t : TK K H H') (ne : l ≠ D) : Acc K H' l ds := h.keep t fun _ e => s _ _ ne e
theorem Acc.seq (h : Acc K H l ds) : ∃ vs, SqL K H l vs ∧ Ims K H vs ds := by
  obtain ⟨vs, e1, i⟩ := h
  exact ⟨vs, SqL.of e1, i⟩
theorem acc_nil {p : Addr} (h : H p = some (.lst [])) : Acc K H p [] := ⟨[], h, .nil⟩
theorem acc_ty (h : Acc K H l ds) : tyV K "list" (.ref l) H := by
  obtain ⟨xs, e, i⟩ := h
  exact Or.inl ⟨rfl, _, SqL.of e⟩
end
section
variable {K : PySem.W.Frag} {H H' : Hp} {l : Addr} {ds : List PyData}
theorem Acc.push {y : V} {d : PyData} (h : Acc K H l ds) (hy : Im K H y d) (hl : ds.length < 1000000) :
    ∃ acc, H l = some (.lst acc) ∧ acc.length < sizeLine ∧ But l H (upd H l (.lst (acc ++ [y]))) ∧ TK K H (upd H l (.lst (acc ++ [y]))) ∧ Acc K (upd H l (.lst (acc ++ [y]))) l (ds ++ [d]) := by
  obtain ⟨vs, e, i⟩ := h
  have b : But l H (upd H l (.lst (vs ++ [y]))) := fun b u hb z => by rw [upd_ne hb]; exact z
  have t : TK K H (upd H l (.lst (vs ++ [y]))) := b.tk e
  exact ⟨vs, e, big (by rw [i.len]; omega), b, t, ⟨_, upd_same, (i.u t).snoc (hy.u t)⟩⟩
end
/-! ### rules whose readings speak of data, and whose new heaps are letters -/
section
variable {X : Cx} {e : Expr} {es : List Expr} {t : TA} {pos : Pos}
theorem pe_imp {t1 t2 : TE} (h : PE X e t1) (k : ∀ σ H Q, t2 σ H Q → t1 σ H Q) : PE X e t2 := ⟨fun pins s σ H Q I q => h.run pins s σ H Q I (k _ _ _ q)⟩
theorem pa_cut (h : PA X es t) : PA X es (fun σ H R => ∃ R0, t σ H R0 ∧ ∀ xs H1, R0 xs H1 → R xs H1) := by
  refine ⟨fun pos pins s σ H Q I q => ?_⟩
  obtain ⟨R0, h1, h2⟩ := q
  refine thn (h.run pos pins s σ H R0 I h1) fun us s1 q => ?_
  obtain ⟨vs, H', I', r, q⟩ := q
  exact ⟨vs, H', I', r, h2 _ _ q⟩
theorem CallR.imp {f : Value} {r r' : List V → Hp → VK → Prop} (h : CallR X f r) (k : ∀ xs H Q, r' xs H Q → r xs H Q) : CallR X f r' :=
  fun pins s σ H xs us Q I rv q => h pins s σ H xs us Q I rv (k _ _ _ q)
theorem OpR.imp {f : Value → Value → Sem Value} {r r' : R2} (h : OpR X f r) (k : ∀ x y H Q, r' x y H Q → r x y H Q) : OpR X f r' :=
  fun pins s σ H x y v u Q I rx ry q => h pins s σ H x y v u Q I rx ry (k _ _ _ _ q)
theorem MtR.imp {id : String} {r r' : V → List V → Hp → VK → Prop} (h : MtR X id r) (k : ∀ x xs H Q, r' x xs H Q → r x xs H Q) : MtR X id r' :=
  fun pins s σ H x xs v us Q I rx rs q => h pins s σ H x xs v us Q I rx rs (k _ _ _ _ q)
theorem IxR.imp {r r' : R2} (h : IxR X r) (k : ∀ x y H Q, r' x y H Q → r x y H Q) : IxR X r' :=
  fun value slice pins s σ H x y v u Q I rx ry q hs => h value slice pins s σ H x y v u Q I rx ry (k _ _ _ _ q) hs
theorem PSet.imp {r r' : TSet} (h : PSet X r) (k : ∀ o i v H Q, r' o i v H Q → r o i v H Q) : PSet X r' :=
  fun pins s σ H o i v ov iv u Q I ro ri rv q => h pins s σ H o i v ov iv u Q I ro ri rv (k _ _ _ _ _ q)
/-- (a, b) -/
def rTd (K : PySem.W.Frag) (xs : List V) (H : Hp) (Q : VK) : Prop := ∃ ds, Ims K H xs ds ∧ ds.length ≤ 1000 ∧ ∀ p H', Same H H' → TK K H H' → Im K H' (.ref p) (.tuple ds) → Q (.ref p) H'
/-- [a, b] -/
def rLd (K : PySem.W.Frag) (xs : List V) (H : Hp) (Q : VK) : Prop := ∃ ds, Ims K H xs ds ∧ ds.length ≤ 1000 ∧ ∀ p H', H p = none → Same H H' → TK K H H' → Acc K H' p ds → Q (.ref p) H'
/-- [a, b], whatever they are -/
def rLr (K : PySem.W.Frag) (xs : List V) (H : Hp) (Q : VK) : Prop := xs.length ≤ 1000 ∧ ∀ p H', H p = none → Same H H' → TK K H H' → H' p = some (.lst xs) → Q (.ref p) H'
def rTr (K : PySem.W.Frag) (xs : List V) (H : Hp) (Q : VK) : Prop := xs.length ≤ 1000 ∧ ∀ p H', H p = none → Same H H' → TK K H H' → H' p = some (.tup xs) → Q (.ref p) H'
theorem pe_td {x1 : Nat} (h : PA X es t) : PE X (.Tuple es x1 pos) (fun σ H Q => t σ H fun xs H1 => rTd X.K xs H1 Q) := pe_imp (pe_tup (pa_cut h)) fun σ H Q q => ⟨_, q, fun xs H1 r => by
  obtain ⟨ds, i, hl, k⟩ := r
  refine ⟨sz (by rw [i.len]; exact hl), fun p hp => ?_⟩
  have s := same_new (o := HO.tup xs) hp
  exact k p _ s (same_tk s) (.tup (SqT.of upd_same) (i.u (same_tk s)))⟩
theorem pe_tr {x1 : Nat} (h : PA X es t) : PE X (.Tuple es x1 pos) (fun σ H Q => t σ H fun xs H1 => rTr X.K xs H1 Q) := pe_imp (pe_tup (pa_cut h)) fun σ H Q q => ⟨_, q, fun xs H1 r => by
  obtain ⟨hl, k⟩ := r
  refine ⟨sz hl, fun p hp => ?_⟩
  have s := same_new (o := HO.tup xs) hp
  exact k p _ hp s (same_tk s) upd_same⟩
theorem pe_ld (h : PA X es t) : PE X (.List es pos) (fun σ H Q => t σ H fun xs H1 => rLd X.K xs H1 Q) := pe_imp (pe_lst (pa_cut h)) fun σ H Q q => ⟨_, q, fun xs H1 r => by
  obtain ⟨ds, i, hl, k⟩ := r
  refine ⟨sz (by rw [i.len]; exact hl), fun p hp => ?_⟩
  have s := same_new (o := HO.lst xs) hp
  exact k p _ hp s (same_tk s) ⟨xs, upd_same, i.u (same_tk s)⟩⟩
theorem pe_lr (h : PA X es t) : PE X (.List es pos) (fun σ H Q => t σ H fun xs H1 => rLr X.K xs H1 Q) := pe_imp (pe_lst (pa_cut h)) fun σ H Q q => ⟨_, q, fun xs H1 r => by
  obtain ⟨hl, k⟩ := r
  refine ⟨sz hl, fun p hp => ?_⟩
  have s := same_new (o := HO.lst xs) hp
  exact k p _ hp s (same_tk s) upd_same⟩
theorem pe_tdK {K : PySem.W.Frag} {x1 : Nat} (hK : X.K = K) (h : PA X es t) : PE X (.Tuple es x1 pos) (fun σ H Q => t σ H fun xs H1 => rTd K xs H1 Q) := by subst hK; exact pe_td h
theorem pe_trK {K : PySem.W.Frag} {x1 : Nat} (hK : X.K = K) (h : PA X es t) : PE X (.Tuple es x1 pos) (fun σ H Q => t σ H fun xs H1 => rTr K xs H1 Q) := by subst hK; exact pe_tr h
theorem pe_ldK {K : PySem.W.Frag} (hK : X.K = K) (h : PA X es t) : PE X (.List es pos) (fun σ H Q => t σ H fun xs H1 => rLd K xs H1 Q) := by subst hK; exact pe_ld h
theorem pe_lrK {K : PySem.W.Frag} (hK : X.K = K) (h : PA X es t) : PE X (.List es pos) (fun σ H Q => t σ H fun xs H1 => rLr K xs H1 Q) := by subst hK; exact pe_lr h
/-- l.append(x) of data -/
def rAppA (K : PySem.W.Frag) : V → List V → Hp → VK → Prop := fun x vs H Q => ∃ l y ds d, x = .ref l ∧ vs = [y] ∧ Acc K H l ds ∧ Im K H y d ∧ ds.length < 1000000 ∧ ∀ H', But l H H' → TK K H H' → Acc K H' l (ds ++ [d]) → Q .non H'
theorem mt_appA : MtR X "list.append" (rAppA X.K) := MtR.imp mt_append fun x vs H Q q => by
  obtain ⟨l, y, ds, d, rfl, rfl, ⟨xs, e, i⟩, hy, hl, k⟩ := q
  have b : But l H (upd H l (.lst (xs ++ [y]))) := fun b u hb z => by rw [upd_ne hb]; exact z
  have t : TK X.K H (upd H l (.lst (xs ++ [y]))) := b.tk e
  exact ⟨l, xs, y, rfl, rfl, e, big (by rw [i.len]; omega), k _ b t ⟨_, upd_same, (i.u t).snoc (hy.u t)⟩⟩
/-- l.append(x) of anything -/
def rAppR (K : PySem.W.Frag) : V → List V → Hp → VK → Prop := fun x vs H Q => ∃ l y xs, x = .ref l ∧ vs = [y] ∧ H l = some (.lst xs) ∧ xs.length < 100000 ∧ ∀ H', But l H H' → TK K H H' → H' l = some (.lst (xs ++ [y])) → Q .non H'
theorem mt_appR : MtR X "list.append" (rAppR X.K) := MtR.imp mt_append fun x vs H Q q => by
  obtain ⟨l, y, xs, rfl, rfl, e, hl, k⟩ := q
  have b : But l H (upd H l (.lst (xs ++ [y]))) := fun b u hb z => by rw [upd_ne hb]; exact z
  exact ⟨l, xs, y, rfl, rfl, e, Nat.lt_trans hl (by decide), k _ b (b.tk e) upd_same⟩
/-- tuple(l) of data -/
def rTupleA (K : PySem.W.Frag) : List V → Hp → VK → Prop := fun xs H Q => ∃ l ds, xs = [.ref l] ∧ Acc K H l ds ∧ ∀ p H', Same H H' → TK K H H' → Im K H' (.ref p) (.tuple ds) → Q (.ref p) H'
theorem call_tupleA : CallR X (.type "tuple") (rTupleA X.K) := CallR.imp call_tuple_of fun xs H Q q => by
  obtain ⟨l, ds, rfl, ⟨vs, e, i⟩, k⟩ := q
  refine ⟨l, vs, rfl, .inl ⟨SqL.of e, fun p hp => ?_⟩⟩
  have s := same_new (o := HO.tup vs) hp
  exact k p _ s (same_tk s) (.tup (SqT.of upd_same) (i.u (same_tk s)))
/-- list(l) of data -/
def rListA (K : PySem.W.Frag) : List V → Hp → VK → Prop := fun xs H Q => ∃ l ds, xs = [.ref l] ∧ Acc K H l ds ∧ ∀ p H', H p = none → Same H H' → TK K H H' → Acc K H' p ds → Q (.ref p) H'
theorem call_listA : CallR X (.type "list") (rListA X.K) := CallR.imp call_list_of fun xs H Q q => by
  obtain ⟨l, ds, rfl, ⟨vs, e, i⟩, k⟩ := q
  refine ⟨l, vs, rfl, .inl (SqL.of e), fun p hp => ?_⟩
  have s := same_new (o := HO.lst vs) hp
  exact k p _ hp s (same_tk s) ⟨vs, upd_same, i.u (same_tk s)⟩
/-- t[i], l[i] of data -/
def rIxD (K : PySem.W.Frag) : R2 := fun x y H Q => ∃ (ds : List PyData) (i : Int) (j : Nat) (d : PyData), Im K H x (.tuple ds) ∧ y = .int i ∧ i = (j : Int) ∧ ds[j]? = some d ∧ ∀ v, Im K H v d → Q v H
theorem ix_tupD : IxR X (rIxD X.K) := IxR.imp ix_tup fun x y H Q q => by
  obtain ⟨ds, i, j, d, im, rfl, hi, hd, k⟩ := q
  obtain ⟨a, xs, rfl, ht, hs⟩ := im.t
  obtain ⟨v, hv, iv⟩ := hs.got hd
  exact ⟨a, xs, i, v, rfl, rfl, ht, at_of hi hv, k v iv⟩
def rIxA (K : PySem.W.Frag) : R2 := fun x y H Q => ∃ (l : Addr) (ds : List PyData) (i : Int) (j : Nat) (d : PyData), x = .ref l ∧ Acc K H l ds ∧ y = .int i ∧ i = (j : Int) ∧ ds[j]? = some d ∧ ∀ v, Im K H v d → Q v H
theorem ix_listA : IxR X (rIxA X.K) := IxR.imp ix_list fun x y H Q q => by
  obtain ⟨l, ds, i, j, d, rfl, ⟨vs, e, im⟩, rfl, hi, hd, k⟩ := q
  obtain ⟨v, hv, iv⟩ := im.got hd
  exact ⟨l, vs, i, v, rfl, rfl, SqL.of e, at_of hi hv, k v iv⟩
/-- [x, y][int(b)] of data -/
def rSelA (K : PySem.W.Frag) : R2 := fun x y H Q => ∃ (l : Addr) (d e : PyData) (b : Bool), x = .ref l ∧ Acc K H l [d, e] ∧ y = .int (if b = true then 1 else 0) ∧ ∀ v, Im K H v (if b = true then e else d) → Q v H
theorem ix_selA : IxR X (rSelA X.K) := IxR.imp ix_list fun x y H Q q => by
  obtain ⟨l, d, e, b, rfl, ⟨vs, q1, im⟩, rfl, k⟩ := q
  cases b with
  | true =>
    obtain ⟨v, hv, iv⟩ := im.got (i := 1) rfl
    exact ⟨l, vs, 1, v, rfl, rfl, SqL.of q1, at_of (j := 1) rfl hv, k v iv⟩
  | false =>
    obtain ⟨v, hv, iv⟩ := im.got (i := 0) rfl
    exact ⟨l, vs, 0, v, rfl, rfl, SqL.of q1, at_of (j := 0) rfl hv, k v iv⟩
/-- the same of anything -/
def rSelR (K : PySem.W.Frag) : R2 := fun x y H Q => ∃ (l : Addr) (d e : V) (b : Bool), x = .ref l ∧ H l = some (.lst [d, e]) ∧ y = .int (if b = true then 1 else 0) ∧ Q (if b = true then e else d) H
theorem ix_selR : IxR X (rSelR X.K) := IxR.imp ix_list fun x y H Q q => by
  obtain ⟨l, d, e, b, rfl, q1, rfl, k⟩ := q
  refine ⟨l, [d, e], _, if b = true then e else d, rfl, rfl, SqL.of q1, ?_, k⟩
  cases b <;> rfl
/-- l[i] = v -/
def rSetN (K : PySem.W.Frag) : TSet := fun o i v H Q => ∃ (p : Addr) (xs ys : List V) (k : Int) (j : Nat), o = .ref p ∧ i = .int k ∧ H p = some (.lst xs) ∧ ixN xs.length k = some j ∧ xs.set j v = ys ∧ ∀ H', But p H H' → TK K H H' → H' p = some (.lst ys) → Q H'
theorem set_listN : PSet X (rSetN X.K) := PSet.imp set_list fun o i v H Q q => by
  obtain ⟨p, xs, ys, k, j, rfl, rfl, e, hj, rfl, q⟩ := q
  have b : But p H (upd H p (.lst (xs.set j v))) := fun b u hb z => by rw [upd_ne hb]; exact z
  exact ⟨p, xs, k, j, rfl, rfl, e, hj, q _ b (b.tk e) upd_same⟩
/-- k[0], k[1] .. of a text or of data -/
def rIxK (K : PySem.W.Frag) : R2 := fun x y H Q => (∃ (z : Str) (c : Nat), x = .str z ∧ y = .int 0 ∧ z.length ≤ sizeLine ∧ z.cps.toList[0]? = some c ∧ Q (.str ⟨#[c]⟩) H) ∨ rIxD K x y H Q
theorem ix_kd : IxR X (rIxK X.K) := IxR.imp (ix_str.or ix_tupD) fun x y H Q q => by
  rcases q with ⟨z, c, rfl, rfl, h1, h2, q⟩ | q
  · exact .inl ⟨z, 0, c, rfl, rfl, h1, (atI_nat h2 : atI z.cps.toList ((0 : Nat) : Int) = some c), q⟩
  · exact .inr q
def rMax2 : List V → Hp → VK → Prop := fun xs H Q => ∃ i j, xs = [.int i, .int j] ∧ Q (.int (max i j)) H
def rMin2 : List V → Hp → VK → Prop := fun xs H Q => ∃ i j, xs = [.int i, .int j] ∧ Q (.int (min i j)) H
theorem call_max2N (hc : X.calm = true) : CallR X (.builtin "max") rMax2 := CallR.imp (call_max2 hc) fun xs H Q q => by
  obtain ⟨i, j, rfl, q⟩ := q
  refine ⟨i, j, rfl, ?_⟩
  have e : (if j > i then j else i) = max i j := by split <;> omega
  rw [e]
  exact q
theorem call_min2N (hc : X.calm = true) : CallR X (.builtin "min") rMin2 := CallR.imp (call_min2 hc) fun xs H Q q => by
  obtain ⟨i, j, rfl, q⟩ := q
  refine ⟨i, j, rfl, ?_⟩
  have e : (if j < i then j else i) = min i j := by split <;> omega
  rw [e]
  exact q
/-- len of data -/
def rLenT (K : PySem.W.Frag) : List V → Hp → VK → Prop := fun xs H Q => ∃ v ds, xs = [v] ∧ Im K H v (.tuple ds) ∧ Q (.int ds.length) H
theorem call_lenT : CallR X (.builtin "len") (rLenT X.K) := CallR.imp call_len_seq fun xs H Q q => by
  obtain ⟨v, ds, rfl, i, k⟩ := q
  obtain ⟨a, vs, rfl, ht, hs⟩ := i.t
  exact ⟨a, vs, rfl, .inr ht, by rw [hs.len]; exact k⟩
def rLenA (K : PySem.W.Frag) : List V → Hp → VK → Prop := fun xs H Q => ∃ l ds, xs = [.ref l] ∧ Acc K H l ds ∧ Q (.int ds.length) H
theorem call_lenA : CallR X (.builtin "len") (rLenA X.K) := CallR.imp call_len_seq fun xs H Q q => by
  obtain ⟨l, ds, rfl, ⟨vs, e, i⟩, k⟩ := q
  exact ⟨l, vs, rfl, .inl (SqL.of e), by rw [i.len]; exact k⟩
end
/-! ### cuts: what holds behind a statement -/
section
variable {X : Cx} {st : Stmt} {t : TS} {e : Expr} {te : TE}
def tCut (t : TS) : TS := fun D σ H => ∃ R : L2.St → Hp → Prop, t { D with nx := R } σ H ∧ ∀ σ' H', R σ' H' → D.nx σ' H'
theorem ps_cut (h : PS X st t) : PS X st (tCut t) := by
  refine ⟨fun pins s σ H D I hw => ?_⟩
  obtain ⟨R, h1, h2⟩ := hw
  refine thn (h.run pins s σ H { D with nx := R } I h1) fun f s1 q => ?_
  cases f with
  | next =>
    obtain ⟨σ', H', I', q⟩ := q
    exact ⟨σ', H', I', h2 _ _ q⟩
  | ret v => exact q
  | brk => exact q
  | cont => exact q
def tCutE (t : TE) : TE := fun σ H Q => ∃ R : VK, t σ H R ∧ ∀ v H', R v H' → Q v H'
theorem pe_cut (h : PE X e te) : PE X e (tCutE te) := by
  refine ⟨fun pins s σ H Q I hw => ?_⟩
  obtain ⟨R, h1, h2⟩ := hw
  refine thn (h.run pins s σ H R I h1) fun u s1 q => ?_
  obtain ⟨v, H', I', r, q⟩ := q
  exact ⟨v, H', I', r, h2 _ _ q⟩
end
/-! ### sum of a tuple of ints -/
section
variable {X : Cx}
def rSumT (K : PySem.W.Frag) : List V → Hp → VK → Prop := fun vs H Q => ∃ (a : Addr) (ns : List Int), vs = [V.ref a] ∧ SqT K H a (ns.map V.int) ∧ Q (.int ns.sum) H
theorem iter_intTup {A : Around} {E : Value → Shared → Prop} {prog : Program} {w : World} {s : Shared} {l : Addr} {xs : Array (Int × Tok)} {Q : Value → Shared → Prop} (hl : s.heap.IsTuple l (intItems xs))
    (h : ∀ s₂ : Shared, s₂ = { s with heap := s.heap.push { cls := .type "tuple_iterator", data := .fields #[.ref l, .int 0 0] } } →
      (s₂.heap.IsTupleIter s.heap.objs.size l 0 ∧ s₂.heap.IsTuple l (intItems xs)) → (∀ b ∈ [s.heap.objs.size, l], b < s₂.heap.objs.size) → l ≠ s.heap.objs.size → Q (.ref s.heap.objs.size) s₂) :
    wpAny (model prog w) A (pyIter (.ref l)) Q E s := by
  have hlt : l < s.heap.objs.size := by obtain ⟨_, e, _⟩ := hl; exact Heap.lt_size e
  refine wpAny_pyIter_tuple hl (h _ rfl ⟨⟨_, Heap.get?_push_size _ rfl, rfl, rfl⟩, hl.push _⟩ (fun b hb => ?_) (Nat.ne_of_lt hlt))
  show b < (s.heap.push _).objs.size
  rw [Heap.size_push]
  rcases List.mem_cons.mp hb with rfl | hb
  · exact Nat.lt_succ_self _
  · rcases List.mem_cons.mp hb with rfl | hb
    · exact Nat.lt_succ_of_lt hlt
    · cases hb
theorem sum_intTupG {A : Around} {E : Value → Shared → Prop} {prog : Program} {w : World} {s : Shared} {l : Addr} {xs : Array (Int × Tok)} {Q : Value → Shared → Prop} (hh : A.handled = none) (hl : s.heap.IsTuple l (intItems xs))
    (h : ∀ h' tk t', (∀ b o, s.heap.get? b = some o → h'.get? b = some o) → Q (.int (preSum (numAt xs) xs.size) t') { s with heap := h', toks := tk }) :
    wpAny (model prog w) A (call (.builtin "sum") [.ref l]) Q E s := by
  refine call_sum_walkG (iter_intTup hl fun s₂ e st hfp hlI => ?_)
  subst e
  refine ⟨_, _, _, _, _, _, numAt xs, rfl, Walks.tuple (A := A.in1) hh _ l hlI (intItems xs), st, hfp, (fun _ _ => intItems_at), fun h' tk t' hk => ?_⟩
  have hk' : ∀ b o, s.heap.get? b = some o → h'.get? b = some o := fun b o e => by
    refine hk b o (fun hmem => ?_) (Heap.get?_push_of_some _ e)
    rcases List.mem_cons.mp hmem with e1 | hmem
    · exact absurd (e1 ▸ Heap.lt_size e) (Nat.lt_irrefl _)
    · cases hmem
  have := h h' tk t' hk'
  simpa [intItems] using this
theorem sum_rawT {A : Around} {E : Value → Shared → Prop} {prog : Program} {w : World} {s : Shared} {l : Addr} {its : List Value} {ns : List Int} {Q : Value → Shared → Prop} (hh : A.handled = none) (hl : s.heap.IsTuple l its.toArray) (hi : IntsAre its ns)
    (h : ∀ h' tk t', (∀ b o, s.heap.get? b = some o → h'.get? b = some o) → Q (.int ns.sum t') { s with heap := h', toks := tk }) : wpAny (model prog w) A (call (.builtin "sum") [.ref l]) Q E s := by
  obtain ⟨xs, e⟩ := hi.allInts.items
  have hn : numsOf (intItems xs).toList = ns := by rw [← e]; exact hi.numsOf
  rw [nums_intItems] at hn
  rw [e] at hl
  refine sum_intTupG hh hl fun h' tk t' hk => ?_
  have := h h' tk t' hk
  rw [preSum_eq, List.take_of_length_le (by simp), hn]; exact this
theorem cr_sumT (hc : X.calm = true) : CallR X (.builtin "sum") (rSumT X.K) := by
  intro pins s σ H vs us Q I r h
  obtain ⟨a, ns, rfl, hs, q⟩ := h
  obtain ⟨its, rv, hl, _⟩ := I.tuple hs
  rw [Vals.ref1 r]
  exact sum_rawT (I.ok.hd hc) hl rv.ints fun h' tk t' hk => ⟨.int _, H, I.kept hk, ⟨_, rfl⟩, q⟩
end
open PySem PySem.Spec PyProof.Rows L2
/-! ### the draws -/
/-- the dice at D: the script, how many were read, the mixed number, the rest of a great one -/
def IsDice (K : PySem.W.Frag) (H : Hp) (D : Addr) : Prop :=
  ∃ (a : Addr) (ns : List Int) (p m r : Int), H D = some (.lst [.ref a, .int p, .int m, .int r]) ∧ Fz K H a (ns.map V.int) ∧ ns.length ≤ 63 ∧ 0 ≤ p ∧ 0 ≤ m ∧ m < 2147483647 ∧ 0 ≤ r
section
variable {K : PySem.W.Frag} {H H' H1 H2 : Hp} {D a : Addr}
theorem IsDice.at (h : IsDice K H D) : ∃ xs, H D = some (.lst xs) := by
  obtain ⟨a, ns, p, m, r, e, _⟩ := h
  exact ⟨_, e⟩
theorem IsDice.ne (h : IsDice K H D) : H D ≠ none := by
  obtain ⟨xs, e⟩ := h.at
  rw [e]
  intro z
  cases z
theorem But.dtk (s : But D H H') (h : IsDice K H D) : TK K H H' := by
  obtain ⟨xs, e⟩ := h.at
  exact s.tk e
theorem IsDice.keep (h : IsDice K H D) (t : TK K H H') (e : ∀ xs, H D = some (.lst xs) → H' D = some (.lst xs)) : IsDice K H' D := by
  obtain ⟨a, ns, p, m, r, e1, h1, h2⟩ := h
  exact ⟨a, ns, p, m, r, e _ e1, t.f _ _ h1, h2⟩
theorem IsDice.same (h : IsDice K H D) (s : Same H H') : IsDice K H' D := h.keep (same_tk s) fun _ e => s _ _ e
/-- a list of one's own changes -/
theorem IsDice.but {l : Addr} {xs : List V} (h : IsDice K H D) (hl : H l = some (.lst xs)) (ne : D ≠ l) (s : But l H H') : IsDice K H' D := h.keep (s.tk hl) fun _ e => s _ _ ne e
theorem IsDice.ne_new {p : Addr} (h : IsDice K H D) (hp : H p = none) : D ≠ p := by
  obtain ⟨xs, e⟩ := h.at
  exact ne_of_none e hp
end
/-! ### kinds, deeds, tests -/
inductive Kd where
  | num | pair (a b : Kd) | row (a : Kd)
  deriving DecidableEq
def Kd.d : Kd → PyData
  | .num => .str "number"
  | .pair a b => .tuple [.str "pair", a.d, b.d]
  | .row a => .tuple [.str "row", a.d]
inductive Deed where
  | add (n : Int) | times (n : Int) | minus | first | second | both | sum | many
  deriving DecidableEq
def Deed.d : Deed → PyData
  | .add n => .tuple [.str "add", .int n]
  | .times n => .tuple [.str "times", .int n]
  | .minus => .tuple [.str "minus"]
  | .first => .tuple [.str "first"]
  | .second => .tuple [.str "second"]
  | .both => .tuple [.str "both"]
  | .sum => .tuple [.str "sum"]
  | .many => .tuple [.str "many"]
inductive Tst where
  | below (n : Int) | over (n : Int) | rest (m r : Int)
  deriving DecidableEq
def Tst.d : Tst → PyData
  | .below n => .tuple [.str "below", .int n]
  | .over n => .tuple [.str "over", .int n]
  | .rest m r => .tuple [.str "rest", .int m, .int r]
def Num (n : Int) : Prop := 0 ≤ n ∧ n < 1000003
def Deed.Ok : Deed → Prop
  | .add n => Num n
  | .times n => Num n
  | _ => True
def Tst.Ok : Tst → Prop
  | .below n => Num n
  | .over n => Num n
  | .rest m r => Num m ∧ 0 ≤ r ∧ r < m
/-- an item of a kind -/
inductive Has : Kd → PyData → Prop
  | num {n : Int} (h : Num n) : Has .num (.int n)
  | pair {a b : Kd} {x y : PyData} (h1 : Has a x) (h2 : Has b y) : Has (.pair a b) (.tuple [x, y])
  | row {a : Kd} {xs : List PyData} (h : ∀ x ∈ xs, Has a x) (hl : xs.length ≤ 1000002) : Has (.row a) (.tuple xs)
def toI : PyData → Int
  | .int i => i
  | _ => 0
def doneD : Deed → PyData → PyData
  | .add n, .int i => .int ((i + n) % 1000003)
  | .times n, .int i => .int (i * n % 1000003)
  | .minus, .int i => .int (-i % 1000003)
  | .first, .tuple [a, _] => a
  | .second, .tuple [_, b] => b
  | .both, x => .tuple [x, x]
  | .sum, .tuple xs => .int ((xs.map toI).sum % 1000003)
  | .many, .tuple xs => .int xs.length
  | _, x => x
def kindD : Deed → Kd → Option Kd
  | .add _, .num => some .num
  | .times _, .num => some .num
  | .minus, .num => some .num
  | .first, .pair a _ => some a
  | .second, .pair _ b => some b
  | .both, k => some (.pair k k)
  | .sum, .row .num => some .num
  | .many, .row _ => some .num
  | _, _ => none
def doneAll (ds : List Deed) (x : PyData) : PyData := ds.foldl (fun x d => doneD d x) x
def kindAll : List Deed → Kd → Option Kd
  | [], k => some k
  | d :: ds, k => (kindD d k).bind (kindAll ds)
theorem kindAll_snoc : ∀ {ds : List Deed} {k k1 : Kd} {d : Deed}, kindAll ds k = some k1 → kindAll (ds ++ [d]) k = kindD d k1
  | [], k, k1, d, h => by
    cases h
    show (kindD d k).bind some = _
    cases kindD d k <;> rfl
  | e :: ds, k, k1, d, h => by
    show (kindD e k).bind (kindAll (ds ++ [d])) = _
    have h : (kindD e k).bind (kindAll ds) = some k1 := h
    cases q : kindD e k with
    | none => rw [q] at h; cases h
    | some z => rw [q] at h; exact kindAll_snoc (ds := ds) h
theorem kindAll_take {ds : List Deed} {k k' : Kd} (h : kindAll ds k = some k') : ∀ i, ∃ k1, kindAll (ds.take i) k = some k1 ∧ kindAll (ds.drop i) k1 = some k' := by
  induction ds generalizing k with
  | nil => intro i; exact ⟨k, by simp [kindAll], by simpa using h⟩
  | cons d ds ih =>
    intro i
    cases i with
    | zero => exact ⟨k, rfl, h⟩
    | succ i =>
      have h : (kindD d k).bind (kindAll ds) = some k' := h
      cases q : kindD d k with
      | none => rw [q] at h; cases h
      | some z =>
        rw [q] at h
        obtain ⟨k1, h1, h2⟩ := ih h i
        refine ⟨k1, ?_, h2⟩
        show (kindD d k).bind (kindAll (ds.take i)) = _
        rw [q]
        exact h1
theorem take_succ {α : Type} {l : List α} {i : Nat} {x : α} (h : l[i]? = some x) : l.take (i + 1) = l.take i ++ [x] := by
  rw [List.take_add_one, h]
  rfl
theorem drop_at {α : Type} {l : List α} {i : Nat} {x : α} (h : l[i]? = some x) : l.drop i = x :: l.drop (i + 1) := by
  obtain ⟨hi, rfl⟩ := List.getElem?_eq_some_iff.mp h
  exact List.drop_eq_getElem_cons hi
theorem Has.int {d : PyData} (h : Has .num d) : ∃ n, d = .int n ∧ Num n := by
  cases h with
  | num h => exact ⟨_, rfl, h⟩
theorem Has.two {a b : Kd} {d : PyData} (h : Has (.pair a b) d) : ∃ x y, d = .tuple [x, y] ∧ Has a x ∧ Has b y := by
  cases h with
  | pair h1 h2 => exact ⟨_, _, rfl, h1, h2⟩
theorem Has.ints : ∀ {xs : List PyData}, (∀ x ∈ xs, Has .num x) → xs = (xs.map toI).map PyData.int
  | [], _ => rfl
  | x :: xs, h => by
    obtain ⟨n, rfl, _⟩ := (h x List.mem_cons_self).int
    rw [List.map_cons, List.map_cons, ← Has.ints fun y hy => h y (List.mem_cons_of_mem _ hy)]
    rfl
theorem doneD_has {d : Deed} {k k' : Kd} {x : PyData} (ok : d.Ok) (h : Has k x) (e : kindD d k = some k') : Has k' (doneD d x) := by
  have md : ∀ z : Int, Num (z % 1000003) := fun z => ⟨Int.emod_nonneg _ (by decide), Int.emod_lt_of_pos _ (by decide)⟩
  cases d with
  | both => cases e; exact .pair h h
  | add n =>
    cases k with
    | num => cases e; obtain ⟨i, rfl, _⟩ := h.int; exact .num (md _)
    | _ => cases e
  | times n =>
    cases k with
    | num => cases e; obtain ⟨i, rfl, _⟩ := h.int; exact .num (md _)
    | _ => cases e
  | minus =>
    cases k with
    | num => cases e; obtain ⟨i, rfl, _⟩ := h.int; exact .num (md _)
    | _ => cases e
  | first =>
    cases k with
    | pair a b => cases e; obtain ⟨x, y, rfl, h1, h2⟩ := h.two; exact h1
    | _ => cases e
  | second =>
    cases k with
    | pair a b => cases e; obtain ⟨x, y, rfl, h1, h2⟩ := h.two; exact h2
    | _ => cases e
  | sum =>
    cases k with
    | row a =>
      cases a with
      | num =>
        cases e
        cases h with
        | row h hl => exact .num (md _)
      | _ => cases e
    | _ => cases e
  | many =>
    cases k with
    | row a =>
      cases e
      cases h with
      | row h hl => exact .num ⟨Int.natCast_nonneg _, by show ((_ : Nat) : Int) < _; omega⟩
    | _ => cases e
/-- one turn of a loop over the deeds -/
theorem done_turn {ds : List Deed} {k k' : Kd} {x : PyData} {i : Nat} {d : Deed} (hx : Has k x) (hk : kindAll ds k = some k') (hd : ds[i]? = some d) (ok : ∀ e ∈ ds, e.Ok) :
    (∃ k1 k2, Has k1 (doneAll (ds.take i) x) ∧ kindD d k1 = some k2) ∧ doneAll (ds.take (i + 1)) x = doneD d (doneAll (ds.take i) x) := by
  have eq : ∀ (j : Nat) (e : Deed), ds[j]? = some e → doneAll (ds.take (j + 1)) x = doneD e (doneAll (ds.take j) x) := fun j e he => by
    rw [take_succ he]
    unfold doneAll
    rw [List.foldl_append]
    rfl
  have step : ∀ j, j ≤ ds.length → ∃ k1, kindAll (ds.take j) k = some k1 ∧ kindAll (ds.drop j) k1 = some k' ∧ Has k1 (doneAll (ds.take j) x) := by
    intro j
    induction j with
    | zero => intro _; exact ⟨k, rfl, hk, hx⟩
    | succ j ih =>
      intro hj
      obtain ⟨k1, a1, a2, a3⟩ := ih (by omega)
      have hj' : ds[j]? = some ds[j] := List.getElem?_eq_getElem (by omega)
      rw [drop_at hj'] at a2
      have a2 : (kindD ds[j] k1).bind (kindAll (ds.drop (j + 1))) = some k' := a2
      cases q : kindD ds[j] k1 with
      | none => rw [q] at a2; cases a2
      | some z =>
        rw [q] at a2
        refine ⟨z, ?_, a2, ?_⟩
        · rw [take_succ hj', kindAll_snoc a1, q]
        · rw [eq j _ hj']
          exact doneD_has (ok _ (List.mem_of_getElem? hj')) a3 q
  obtain ⟨hi, rfl⟩ := List.getElem?_eq_some_iff.mp hd
  obtain ⟨k1, a1, a2, a3⟩ := step i (by omega)
  rw [drop_at hd] at a2
  have a2 : (kindD ds[i] k1).bind (kindAll (ds.drop (i + 1))) = some k' := a2
  refine ⟨⟨k1, ?_⟩, eq i _ hd⟩
  cases q : kindD ds[i] k1 with
  | none => rw [q] at a2; cases a2
  | some z => exact ⟨z, a3, rfl⟩
def Kd.dp : Kd → Nat
  | .num => 0
  | .pair a b => max a.dp b.dp + 1
  | .row a => a.dp + 1
theorem Kd.can : ∀ k : Kd, k.d.canLay0 = true
  | .num => by decide +kernel
  | .pair a b => by
    have h1 := Kd.can a
    have h2 := Kd.can b
    simp only [Kd.d, PyData.canLay0, PyData.canLayAll0, h1, h2, Bool.and_true]
    decide +kernel
  | .row a => by
    have h1 := Kd.can a
    simp only [Kd.d, PyData.canLay0, PyData.canLayAll0, h1, Bool.and_true]
    decide +kernel
theorem Kd.depth : ∀ k : Kd, k.d.depth = k.dp
  | .num => rfl
  | .pair a b => by
    simp only [Kd.d, PyData.depth, PyData.depthAll, Kd.depth a, Kd.depth b, Kd.dp]
    omega
  | .row a => by
    simp only [Kd.d, PyData.depth, PyData.depthAll, Kd.depth a, Kd.dp]
    omega
theorem Kd.shaped {k : Kd} (h : k.dp ≤ 20) : SeqAt.shaped k.d = true := by
  unfold SeqAt.shaped
  rw [Kd.can, Kd.depth, Bool.true_and]
  exact decide_eq_true (by omega)
theorem Kd.eqv : ∀ a b : Kd, PyData.eqv a.d b.d = decide (a = b)
  | .num, .num => by decide +kernel
  | .num, .pair a b => by simp [Kd.d, PyData.eqv]
  | .num, .row a => by simp [Kd.d, PyData.eqv]
  | .pair a b, .num => by simp [Kd.d, PyData.eqv]
  | .row a, .num => by simp [Kd.d, PyData.eqv]
  | .pair a b, .row c => by
    have : (("pair" : Str) == ("row" : Str)) = false := by decide +kernel
    simp [Kd.d, PyData.eqv, PyData.eqvAll, this]
  | .row c, .pair a b => by
    have : (("row" : Str) == ("pair" : Str)) = false := by decide +kernel
    simp [Kd.d, PyData.eqv, PyData.eqvAll, this]
  | .pair a b, .pair c d => by
    simp [Kd.d, PyData.eqv, PyData.eqvAll, Kd.eqv a c, Kd.eqv b d]
  | .row a, .row c => by
    simp [Kd.d, PyData.eqv, PyData.eqvAll, Kd.eqv a c]
def holdsT : Tst → Int → Bool
  | .below n, i => decide (i < n)
  | .over n, i => decide (n < i)
  | .rest m r, i => decide (i % m = r)
def Wd := Fin 4
inductive Fw where
  | add | times | least | most
  deriving DecidableEq
def Fw.s : Fw → Str
  | .add => "add"
  | .times => "times"
  | .least => "least"
  | .most => "most"
def foldF : Fw → Int → Int → Int
  | .add, a, b => (a + b) % 1000003
  | .times, a, b => a * b % 1000003
  | .least, a, b => min a b
  | .most, a, b => max a b
def simpleD : Deed → Bool
  | .add _ => true
  | .times _ => true
  | .minus => true
  | _ => false
theorem simple_kind {d : Deed} (h : simpleD d = true) : kindD d .num = some .num := by
  cases d <;> first | rfl | cases h
theorem simples_kind : ∀ {es : List Deed}, (∀ e ∈ es, simpleD e = true) → kindAll es .num = some .num
  | [], _ => rfl
  | e :: es, h => by
    show (kindD e .num).bind (kindAll es) = some .num
    rw [simple_kind (h e List.mem_cons_self)]
    exact simples_kind fun x hx => h x (List.mem_cons_of_mem _ hx)
/-- deeds as they are drawn for a kind -/
structure DrawnD (k : Kd) (ds : List Deed) (k' : Kd) : Prop where
  l1 : 1 ≤ ds.length
  l2 : ds.length ≤ 64
  ok : ∀ t ∈ ds, t.Ok
  kk : kindAll ds k = some k'
  dp : k'.dp ≤ k.dp + 1
  dn : k ≠ .num → k'.dp ≤ k.dp
  mid : ∀ i k1, kindAll (ds.take i) k = some k1 → k1.dp ≤ k.dp + 1
  num : k = .num → ∃ (es : List Deed) (b : Bool), ds = es ++ (if b then [.both] else []) ∧ 1 ≤ es.length ∧ es.length ≤ 63 ∧ ∀ e ∈ es, simpleD e = true
theorem drawn_num {es : List Deed} (b : Bool) (h1 : 1 ≤ es.length) (h2 : es.length ≤ 63) (ok : ∀ t ∈ es, t.Ok) (si : ∀ e ∈ es, simpleD e = true) :
    DrawnD .num (es ++ (if b then [.both] else [])) (if b then .pair .num .num else .num) := by
  have hk : kindAll (es ++ (if b then [Deed.both] else [])) .num = some (if b then .pair .num .num else .num) := by
    cases b with
    | true => exact (kindAll_snoc (simples_kind si)).trans rfl
    | false => simp only [if_neg Bool.false_ne_true, List.append_nil]; exact simples_kind si
  refine ⟨by rw [List.length_append]; omega, ?_, fun t ht => ?_, hk, ?_, fun z => absurd rfl z, fun i k1 h => ?_, fun _ => ⟨es, b, rfl, h1, h2, si⟩⟩
  · rw [List.length_append]
    cases b <;> simp <;> omega
  · rcases List.mem_append.mp ht with ht | ht
    · exact ok t ht
    · cases b with
      | true => rw [List.mem_singleton.mp ht]; exact trivial
      | false => cases ht
  · cases b <;> decide
  · by_cases hi : i ≤ es.length
    · rw [List.take_append_of_le_length hi, simples_kind fun e he => si e (List.mem_of_mem_take he)] at h
      cases h
      decide
    · have : (es ++ (if b then [Deed.both] else [])).take i = es ++ (if b then [Deed.both] else []) := by
        apply List.take_of_length_le
        rw [List.length_append]
        cases b <;> simp <;> omega
      rw [this, hk] at h
      cases h
      cases b <;> decide
theorem mid_one {k k' : Kd} {d : Deed} (h : kindD d k = some k') (hd : k'.dp ≤ k.dp + 1) : ∀ i k1, kindAll ([d].take i) k = some k1 → k1.dp ≤ k.dp + 1 := by
  intro i k1 e
  cases i with
  | zero => cases e; omega
  | succ i =>
    have e : (kindD d k).bind (kindAll ([].take i)) = some k1 := e
    rw [h, List.take_nil] at e
    cases e
    exact hd
theorem mid_two {k k' k2 : Kd} {d e : Deed} (h : kindD d k = some k') (h2 : kindD e k' = some k2) (hd : k'.dp ≤ k.dp + 1) (hd2 : k2.dp ≤ k.dp + 1) : ∀ i k1, kindAll ([d, e].take i) k = some k1 → k1.dp ≤ k.dp + 1 := by
  intro i k1 q
  cases i with
  | zero => cases q; omega
  | succ i =>
    have q : (kindD d k).bind (kindAll ([e].take i)) = some k1 := q
    rw [h] at q
    cases i with
    | zero => cases q; exact hd
    | succ i =>
      have q : (kindD e k').bind (kindAll ([].take i)) = some k1 := q
      rw [h2, List.take_nil] at q
      cases q
      exact hd2
/-! ### the tactic words: one answer at a time -/
open PySem PySem.Spec PyProof.Rows L2
/-! ### what _law_like compares -/
mutual
def lk : PyData → Bool
  | .none => true
  | .int _ => true
  | .str _ => true
  | .tuple xs => decide (xs.length ≤ 100000000) && lks xs
  | .list xs => decide (xs.length ≤ 100000000) && lks xs
  | .bool _ => false
  | .dict _ => false
def lks : List PyData → Bool
  | [] => true
  | x :: xs => lk x && lks xs
end
theorem lks_get : ∀ {ds : List PyData} {i : Nat} {d : PyData}, lks ds = true → ds[i]? = some d → lk d = true
  | [], _, _, _, e => by simp at e
  | x :: xs, 0, d, h, e => by
    have h : (lk x && lks xs) = true := h
    rw [Bool.and_eq_true] at h
    simp at e
    rw [← e]
    exact h.1
  | x :: xs, i + 1, d, h, e => by
    have h : (lk x && lks xs) = true := h
    rw [Bool.and_eq_true] at h
    exact lks_get (ds := xs) (i := i) h.2 (by simpa using e)
theorem depth_get : ∀ {ds : List PyData} {i : Nat} {d : PyData}, ds[i]? = some d → d.depth ≤ PyData.depthAll ds
  | [], _, _, e => by simp at e
  | x :: xs, 0, d, e => by
    simp at e
    rw [← e]
    show _ ≤ max _ _
    omega
  | x :: xs, i + 1, d, e => by
    have := depth_get (ds := xs) (i := i) (d := d) (by simpa using e)
    show _ ≤ max _ _
    omega
theorem lks_all : ∀ {xs : List PyData}, (∀ x ∈ xs, lk x = true) → lks xs = true
  | [], _ => rfl
  | x :: xs, h => by
    show (lk x && lks xs) = true
    rw [h x List.mem_cons_self, lks_all fun y hy => h y (List.mem_cons_of_mem _ hy)]
    rfl
theorem depth_all {n : Nat} : ∀ {xs : List PyData}, (∀ x ∈ xs, x.depth ≤ n) → PyData.depthAll xs ≤ n
  | [], _ => Nat.zero_le _
  | x :: xs, h => by
    have h1 := h x List.mem_cons_self
    have h2 := depth_all (xs := xs) fun y hy => h y (List.mem_cons_of_mem _ hy)
    show max _ _ ≤ _
    omega
theorem lk_tuple {xs : List PyData} (h : ∀ x ∈ xs, lk x = true) (hl : xs.length ≤ 100000000) : lk (.tuple xs) = true := by
  show (decide (xs.length ≤ 100000000) && lks xs) = true
  rw [decide_eq_true hl, lks_all h]
  rfl
theorem lk_list {xs : List PyData} (h : ∀ x ∈ xs, lk x = true) (hl : xs.length ≤ 100000000) : lk (.list xs) = true := by
  show (decide (xs.length ≤ 100000000) && lks xs) = true
  rw [decide_eq_true hl, lks_all h]
  rfl
theorem Has_lk {k : Kd} {x : PyData} (h : Has k x) : lk x = true := by
  induction h with
  | num h => rfl
  | pair h1 h2 a b => exact lk_tuple (fun x hx => by rcases List.mem_cons.mp hx with rfl | hx; exact a; rw [List.mem_singleton.mp hx]; exact b) (by simp)
  | row h hl ih => exact lk_tuple ih (by omega)
theorem Has_depth {k : Kd} {x : PyData} (h : Has k x) : x.depth ≤ k.dp := by
  induction h with
  | num h => exact Nat.zero_le _
  | pair h1 h2 a b =>
    show max _ (max _ 0) + 1 ≤ max _ _ + 1
    omega
  | row h hl ih =>
    have := depth_all ih
    show PyData.depthAll _ + 1 ≤ _ + 1
    omega
theorem doneAll_has {ds : List Deed} {k k' : Kd} {x : PyData} (hx : Has k x) (hk : kindAll ds k = some k') (ok : ∀ e ∈ ds, e.Ok) : Has k' (doneAll ds x) := by
  induction ds generalizing k x with
  | nil => cases hk; exact hx
  | cons d ds ih =>
    have hk : (kindD d k).bind (kindAll ds) = some k' := hk
    cases q : kindD d k with
    | none => rw [q] at hk; cases hk
    | some z =>
      rw [q] at hk
      exact ih (doneD_has (ok d List.mem_cons_self) hx q) hk fun e he => ok e (List.mem_cons_of_mem _ he)
def tyN : PyData → String
  | .none => "NoneType"
  | .bool _ => "bool"
  | .int _ => "int"
  | .str _ => "str"
  | .tuple _ => "tuple"
  | .list _ => "list"
  | .dict _ => "dict"
section
variable {K : PySem.W.Frag} {H H' : Hp}
theorem Dp_ty {v : V} {d : PyData} (h : Dp K H v d) : TyX K H v (.type (tyN d)) := by
  cases h with
  | non => exact .base .non
  | bl b => exact .base (.bl b)
  | int i => exact .base (.int i)
  | str x => exact .base (.str x)
  | lst hs _ =>
    rcases hs with (h | ⟨o, h⟩) | ⟨o, its, n, hk, hc, _⟩
    · exact .base (.lst h)
    · exact .base (.frz h)
    · exact .kList hk hc
  | tup hs _ =>
    rcases hs with (h | ⟨o, h⟩) | ⟨o, its, n, hk, hc, _⟩
    · exact .base (.tup h)
    · exact .fTuple h
    · exact .kTuple hk hc
theorem DpAll_len : ∀ {vs : List V} {ds : List PyData}, DpAll K H vs ds → vs.length = ds.length
  | _, _, .nil => rfl
  | _, _, .cons _ t => congrArg Nat.succ (DpAll_len t)
theorem DpAll_got : ∀ {vs : List V} {ds : List PyData} {i : Nat} {d : PyData}, DpAll K H vs ds → ds[i]? = some d → ∃ v, vs[i]? = some v ∧ Dp K H v d
  | _, _, i, _, .nil, e => by simp at e
  | _, _, 0, v, .cons r _, e => by simp at e; subst e; exact ⟨_, rfl, r⟩
  | _, _, i + 1, v, .cons _ t, e => by
    obtain ⟨d, h1, h2⟩ := DpAll_got (i := i) (d := v) t (by simpa using e)
    exact ⟨d, by simpa using h1, h2⟩
theorem Dp_i {v : V} {i : Int} (h : Dp K H v (.int i)) : v = .int i := by cases h; rfl
theorem Dp_s {v : V} {i : Str} (h : Dp K H v (.str i)) : v = .str i := by cases h; rfl
theorem Dp_n {v : V} (h : Dp K H v .none) : v = .non := by cases h; rfl
theorem Acc.dp {l : Addr} {ds : List PyData} (h : Acc K H l ds) : Dp K H (.ref l) (.list ds) := by
  obtain ⟨vs, e, i⟩ := h
  exact .lst (SqL.of e) (Ims.dp ds vs i)
theorem Im.p {v : V} {d : PyData} (h : Im K H v d) : Dp K H v d := Im.dp d v h
end
section
variable {X : Cx}
/-- isinstance of data -/
def rIsD (K : PySem.W.Frag) : List V → Hp → VK → Prop := fun xs H Q => ∃ (v : V) (n : String) (d : PyData) (b : Bool), xs = [v, .ty n] ∧ Dp K H v d ∧ kitB (tyN d) n = some b ∧ Q (.bl b) H
theorem call_isD : CallR X (.builtin "isinstance") (rIsD X.K) := CallR.imp call_isi fun xs H Q q => by
  obtain ⟨v, n, d, b, rfl, hd, hk, q⟩ := q
  exact ⟨v, .ty n, _, _, b, rfl, .ty n, Dp_ty hd, kit_ty hk, q⟩
/-- isinstance of a bool -/
def rIsB (K : PySem.W.Frag) : List V → Hp → VK → Prop := fun xs H Q => ∃ (c : Bool) (n : String) (b : Bool), xs = [.bl c, .ty n] ∧ kitB "bool" n = some b ∧ Q (.bl b) H
theorem call_isB : CallR X (.builtin "isinstance") (rIsB X.K) := CallR.imp call_isi fun xs H Q q => by
  obtain ⟨c, n, b, rfl, hk, q⟩ := q
  exact ⟨_, .ty n, _, _, b, rfl, .ty n, .base (.bl c), kit_ty hk, q⟩
/-- len of data, lists too -/
def rLenP (K : PySem.W.Frag) : List V → Hp → VK → Prop := fun xs H Q => ∃ v ds, xs = [v] ∧ (Dp K H v (.tuple ds) ∨ Dp K H v (.list ds)) ∧ Q (.int ds.length) H
theorem call_lenP : CallR X (.builtin "len") (rLenP X.K) := CallR.imp call_len_seq fun xs H Q q => by
  obtain ⟨v, ds, rfl, h, k⟩ := q
  rcases h with h | h
  · cases h with
    | tup ht hs => exact ⟨_, _, rfl, .inr ht, by rw [DpAll_len hs]; exact k⟩
  · cases h with
    | lst ht hs => exact ⟨_, _, rfl, .inl ht, by rw [DpAll_len hs]; exact k⟩
def rIxP (K : PySem.W.Frag) : R2 := fun x y H Q => ∃ (ds : List PyData) (i : Int) (j : Nat) (d : PyData), (Dp K H x (.tuple ds) ∨ Dp K H x (.list ds)) ∧ y = .int i ∧ i = (j : Int) ∧ ds[j]? = some d ∧ ∀ v, Dp K H v d → Q v H
theorem ix_P : IxR X (rIxP X.K) := IxR.imp ix_seq fun x y H Q q => by
  obtain ⟨ds, i, j, d, h, rfl, hi, hd, k⟩ := q
  rcases h with h | h
  · cases h with
    | tup ht hs =>
      obtain ⟨v, hv, iv⟩ := DpAll_got hs hd
      exact .inr (.inl ⟨_, _, i, v, rfl, rfl, ht, at_of hi hv, k v iv⟩)
  · cases h with
    | lst ht hs =>
      obtain ⟨v, hv, iv⟩ := DpAll_got hs hd
      exact .inl ⟨_, _, i, v, rfl, rfl, ht, at_of hi hv, k v iv⟩
end
open PySem PySem.Spec PyProof.Rows L2
def cutD (ds : List PyData) (lo hi : Option Int) : List PyData := (ds.drop (HT.sIx ds.length 0 lo)).take (HT.sIx ds.length ds.length hi - HT.sIx ds.length 0 lo)
section
variable {K : PySem.W.Frag} {H H' : Hp}
theorem Ims.drop : ∀ {vs : List V} {ds : List PyData} (n : Nat), Ims K H vs ds → Ims K H (vs.drop n) (ds.drop n)
  | _, _, 0, h => h
  | _, _, _ + 1, .nil => .nil
  | _, _, n + 1, .cons _ t => Ims.drop n t
theorem Ims.take : ∀ {vs : List V} {ds : List PyData} (n : Nat), Ims K H vs ds → Ims K H (vs.take n) (ds.take n)
  | _, _, 0, _ => .nil
  | _, _, _ + 1, .nil => .nil
  | _, _, n + 1, .cons r t => .cons r (Ims.take n t)
end
section
variable {X : Cx}
theorem SlR.imp {r r' : V → Option Int → Option Int → Hp → VK → Prop} (h : SlR X r) (k : ∀ x lo hi H Q, r' x lo hi H Q → r x lo hi H Q) : SlR X r' := by
  intro pins s σ H x v vl vu lo hi sl Q I rx hs pl pu q
  exact h pins s σ H x v vl vu lo hi sl Q I rx hs pl pu (k _ _ _ _ _ q)
/-- t[lo:hi] of data -/
def rSlD (K : PySem.W.Frag) : V → Option Int → Option Int → Hp → VK → Prop := fun x lo hi H Q => ∃ ds, Im K H x (.tuple ds) ∧ ∀ v H', Same H H' → TK K H H' → Im K H' v (.tuple (cutD ds lo hi)) → Q v H'
theorem sl_tupD : SlR X (rSlD X.K) := SlR.imp sl_tupA fun x lo hi H Q q => by
  obtain ⟨ds, i, k⟩ := q
  obtain ⟨a, xs, rfl, ht, hs⟩ := i.t
  refine ⟨a, xs, rfl, ht, fun hw => ?_, fun hw p hp => ?_⟩
  · refine k _ H (Same.refl H) TK.refl ?_
    have e : cutD ds lo hi = ds := by
      unfold cutD
      rw [← hs.len, hw.1, hw.2]
      rw [List.drop_zero, hs.len, Nat.sub_zero, List.take_length]
    rw [e]
    exact i
  · have s := same_new (o := HO.tup (cutV xs lo hi)) hp
    refine k _ _ s (same_tk s) (.tup (SqT.of upd_same) ?_)
    have t := ((hs.u (same_tk s)).drop (HT.sIx xs.length 0 lo)).take (HT.sIx xs.length xs.length hi - HT.sIx xs.length 0 lo)
    have e : cutD ds lo hi = (ds.drop (HT.sIx xs.length 0 lo)).take (HT.sIx xs.length xs.length hi - HT.sIx xs.length 0 lo) := by
      unfold cutD
      rw [hs.len]
    rw [e]
    exact t
/-- x in a tuple of data -/
def rInT (K : PySem.W.Frag) : R2 := fun x y H Q => ∃ d ds, Im K H x d ∧ Im K H y (.tuple ds) ∧ SeqAt.shaped d = true ∧ PyData.canLayAll0 ds = true ∧ Q (.bl (ds.any fun z => PyData.eqv z d)) H
theorem op_inT (hu : X.A.units + 65 < cLine) : OpR X (compareOp .In) (rInT X.K) := by
  intro pins s σ H x y v u Q I rx ry h
  obtain ⟨d, ds, hd, he, sd, se, q⟩ := h
  obtain ⟨as, r1⟩ := Dp.reads I d x v hd.p rx
  obtain ⟨bs, r2⟩ := Dp.reads I (.tuple ds) y u he.p ry
  exact SeqAt.in_tuple_reads r2 r1 se (SeqAt.canLay_of_shaped sd) (room_in_shaped sd hu) ⟨.bl _, H, I, rfl, q⟩
theorem hu65 {A : Around} {k : Nat} (hr : Room k A) : A.units + 65 < cLine := by have := hr.un; omega
/-- a text in a tuple of texts -/
def rInS (K : PySem.W.Frag) : R2 := fun x y H Q => ∃ (z : Str) (ws : List Str), x = .str z ∧ Im K H y (.tuple (ws.map PyData.str)) ∧ Q (.bl (decide (z ∈ ws))) H
theorem strs_all : ∀ ws : List Str, (ws.map V.str).all flatV = true
  | [] => rfl
  | w :: ws => by
    show (true && (ws.map V.str).all flatV) = true
    rw [strs_all ws]
    rfl
theorem strs_in {z : Str} : ∀ ws : List Str, inV (V.str z) (ws.map V.str) = decide (z ∈ ws)
  | [] => by simp [inV]
  | w :: ws => by
    have h := strs_in (z := z) ws
    show ((w == z) || inV (V.str z) (ws.map V.str)) = _
    rw [h]
    by_cases e : w = z
    · subst e; simp
    · have e' : ¬ z = w := fun q => e q.symm
      simp [e, e']
theorem Ims_strs {K : PySem.W.Frag} {H : Hp} : ∀ (ws : List Str) {vs : List V}, Ims K H vs (ws.map PyData.str) → vs = ws.map V.str
  | [], _, h => by cases h; rfl
  | n :: ns, _, h => by
    cases h with
    | cons a b => cases a; rw [Ims_strs ns b]; rfl
theorem op_inTS : OpR X (compareOp .In) (rInS X.K) := OpR.imp op_in_seq fun x y H Q q => by
  obtain ⟨z, ws, rfl, i, q⟩ := q
  obtain ⟨a, xs, rfl, ht, hs⟩ := i.t
  rw [Ims_strs _ hs] at ht
  refine ⟨a, _, rfl, .inr ht, rfl, strs_all ws, ?_⟩
  rw [if_neg Bool.false_ne_true, strs_in]
  exact q
/-- an int not in a list of ints -/
def rNotInI (K : PySem.W.Frag) : R2 := fun x y H Q => ∃ (z : Int) (l : Addr) (ns : List Int), x = .int z ∧ y = .ref l ∧ Acc K H l (ns.map PyData.int) ∧ Q (.bl (!decide (z ∈ ns))) H
theorem ints_all : ∀ ns : List Int, (ns.map V.int).all flatV = true
  | [] => rfl
  | w :: ws => by
    show (true && (ws.map V.int).all flatV) = true
    rw [ints_all ws]
    rfl
theorem ints_in {z : Int} : ∀ ws : List Int, inV (V.int z) (ws.map V.int) = decide (z ∈ ws)
  | [] => by simp [inV]
  | w :: ws => by
    have h := ints_in (z := z) ws
    show ((w == z) || inV (V.int z) (ws.map V.int)) = _
    rw [h]
    by_cases e : w = z
    · subst e; simp
    · have e' : ¬ z = w := fun q => e q.symm
      simp [e, e']
theorem op_notInI : OpR X (compareOp .NotIn) (rNotInI X.K) := OpR.imp op_notIn_seq fun x y H Q q => by
  obtain ⟨z, l, ns, rfl, rfl, ⟨vs, e, i⟩, q⟩ := q
  rw [Ims.of_ints _ i] at e
  refine ⟨l, _, rfl, .inl (SqL.of e), rfl, ints_all ns, ?_⟩
  rw [if_pos rfl, ints_in]
  exact q
/-- t[-1] and its like -/
def rIxN (K : PySem.W.Frag) : R2 := fun x y H Q => ∃ (ds : List PyData) (i : Int) (j : Nat) (d : PyData), Im K H x (.tuple ds) ∧ y = .int i ∧ ixN ds.length i = some j ∧ ds[j]? = some d ∧ ∀ v, Im K H v d → Q v H
theorem ix_tupN : IxR X (rIxN X.K) := IxR.imp ix_tup fun x y H Q q => by
  obtain ⟨ds, i, j, d, im, rfl, hi, hd, k⟩ := q
  obtain ⟨a, xs, rfl, ht, hs⟩ := im.t
  obtain ⟨v, hv, iv⟩ := hs.got hd
  refine ⟨a, xs, i, v, rfl, rfl, ht, ?_, k v iv⟩
  unfold atI
  rw [hs.len, hi]
  exact hv
/-- for i, x in enumerate(list) -/
theorem for_enum {K : PySem.W.Frag} {a : Addr} {xs : List V} {g : TG} {tb : TS} {D : Ends} {σ : L2.St} {H : Hp} (Pv : Nat → L2.St → Hp → Prop) (h0 : Pv 0 σ H) (hl : ∀ i σ H, i ≤ xs.length → Pv i σ H → SqL K H a xs)
    (hs : ∀ i x σ H T H1, xs[i]? = some x → Pv i σ H → H T = none → Same H H1 → H1 T = some (.tup [.int (i : Nat), x]) → g (.ref T) σ H1 fun σ2 H2 => tb { D with nx := Pv (i + 1), ct := Pv (i + 1), bk := D.nx } σ2 H2) (hd : ∀ σ H, Pv xs.length σ H → D.nx σ H) :
    ∃ W : Nat → Nat → L2.St → Hp → Prop, (∃ m, W 0 m σ H) ∧ ∀ i m σ H, W i m σ H →
      ((Ite K a).stop i H ∧ D.nx σ H) ∨ ((Ite K a).go i H ∧ ∃ N : L2.St → Hp → Prop, (∀ σ' H', N σ' H' → ∃ m', m' < m ∧ W (i + 1) m' σ' H') ∧ ∀ x H', (Ite K a).yld i H x H' → g x σ H' fun σ2 H2 => tb { D with nx := N, ct := N, bk := D.nx } σ2 H2) := by
  refine ⟨fun i m σ H => m = xs.length - i ∧ i ≤ xs.length ∧ Pv i σ H, ⟨xs.length, by simp, Nat.zero_le _, h0⟩, ?_⟩
  rintro i m σ H ⟨rfl, hi, p⟩
  have q := hl i σ H hi p
  by_cases hlt : i < xs.length
  · refine .inr ⟨⟨xs, xs[i], q, by simp [hlt]⟩, Pv (i + 1), fun σ' H' p' => ⟨xs.length - (i + 1), by omega, rfl, hlt, p'⟩, fun x H' y => ?_⟩
    obtain ⟨T, x1, rfl, hT, rfl, f⟩ := y
    exact hs i x1 σ H T _ (f xs q) p hT (same_new hT) upd_same
  · have e : i = xs.length := by omega
    subst e
    exact .inl ⟨⟨xs, q, Nat.le_refl _⟩, hd σ H p⟩
/-- the loop of a comprehension's clause -/
theorem pi_listK {X : Cx} {K : PySem.W.Frag} {tg l : Expr} {tl : TE} (hK : X.K = K) (hl : PE X l tl) : PI X tg l (iList K tl) := by subst hK; exact pi_list hl
theorem pi_tupK {X : Cx} {K : PySem.W.Frag} {tg l : Expr} {tl : TE} (hK : X.K = K) (hl : PE X l tl) : PI X tg l (iTup K tl) := by subst hK; exact pi_tup hl
theorem loop_tup {K : PySem.W.Frag} {a : Addr} {xs : List V} {B : (Hp → Prop) → V → Hp → Prop} {E : Hp → Prop} {H1 : Hp} (Pv : Nat → Hp → Prop) (h0 : Pv 0 H1) (hl : ∀ i H, i ≤ xs.length → Pv i H → SqT K H a xs)
    (hs : ∀ i x H, xs[i]? = some x → Pv i H → B (Pv (i + 1)) x H) (hd : ∀ H, Pv xs.length H → E H) :
    ∃ W : Nat → Nat → Hp → Prop, (∃ m, W 0 m H1) ∧ ∀ i m H, W i m H →
      ((Itt K a).stop i H ∧ E H) ∨ ((Itt K a).go i H ∧ ∃ Nx : Hp → Prop, (∀ H', Nx H' → ∃ m', m' < m ∧ W (i + 1) m' H') ∧ ∀ x H', (Itt K a).yld i H x H' → B Nx x H') := by
  refine ⟨fun i m H => m = xs.length - i ∧ i ≤ xs.length ∧ Pv i H, ⟨xs.length, by simp, Nat.zero_le _, h0⟩, ?_⟩
  rintro i m H ⟨rfl, hi, p⟩
  have q := hl i H hi p
  by_cases hlt : i < xs.length
  · refine .inr ⟨⟨xs, xs[i], q, by simp [hlt]⟩, Pv (i + 1), fun H' p' => ⟨xs.length - (i + 1), by omega, rfl, hlt, p'⟩, fun x H' y => ?_⟩
    obtain ⟨e, y⟩ := y
    subst e
    exact hs i x _ (y xs q) p
  · have e : i = xs.length := by omega
    subst e
    exact .inl ⟨⟨xs, q, Nat.le_refl _⟩, hd H p⟩
theorem loop_list {K : PySem.W.Frag} {a : Addr} {xs : List V} {B : (Hp → Prop) → V → Hp → Prop} {E : Hp → Prop} {H1 : Hp} (Pv : Nat → Hp → Prop) (h0 : Pv 0 H1) (hl : ∀ i H, i ≤ xs.length → Pv i H → SqL K H a xs)
    (hs : ∀ i x H, xs[i]? = some x → Pv i H → B (Pv (i + 1)) x H) (hd : ∀ H, Pv xs.length H → E H) :
    ∃ W : Nat → Nat → Hp → Prop, (∃ m, W 0 m H1) ∧ ∀ i m H, W i m H →
      ((Itl K a).stop i H ∧ E H) ∨ ((Itl K a).go i H ∧ ∃ Nx : Hp → Prop, (∀ H', Nx H' → ∃ m', m' < m ∧ W (i + 1) m' H') ∧ ∀ x H', (Itl K a).yld i H x H' → B Nx x H') := by
  refine ⟨fun i m H => m = xs.length - i ∧ i ≤ xs.length ∧ Pv i H, ⟨xs.length, by simp, Nat.zero_le _, h0⟩, ?_⟩
  rintro i m H ⟨rfl, hi, p⟩
  have q := hl i H hi p
  by_cases hlt : i < xs.length
  · refine .inr ⟨⟨xs, xs[i], q, by simp [hlt]⟩, Pv (i + 1), fun H' p' => ⟨xs.length - (i + 1), by omega, rfl, hlt, p'⟩, fun x H' y => ?_⟩
    obtain ⟨e, y⟩ := y
    subst e
    exact hs i x _ (y xs q) p
  · have e : i = xs.length := by omega
    subst e
    exact .inl ⟨⟨xs, q, Nat.le_refl _⟩, hd H p⟩
theorem loop_rng {lo : Int} {n : Nat} {B : (Hp → Prop) → V → Hp → Prop} {E : Hp → Prop} {H1 : Hp} (Pv : Nat → Hp → Prop) (h0 : Pv 0 H1)
    (hs : ∀ i H, i < n → Pv i H → B (Pv (i + 1)) (.int (lo + i)) H) (hd : ∀ H, Pv n H → E H) :
    ∃ W : Nat → Nat → Hp → Prop, (∃ m, W 0 m H1) ∧ ∀ i m H, W i m H →
      ((Itr lo n).stop i H ∧ E H) ∨ ((Itr lo n).go i H ∧ ∃ Nx : Hp → Prop, (∀ H', Nx H' → ∃ m', m' < m ∧ W (i + 1) m' H') ∧ ∀ x H', (Itr lo n).yld i H x H' → B Nx x H') := by
  refine ⟨fun i m H => m = n - i ∧ i ≤ n ∧ Pv i H, ⟨n, by simp, Nat.zero_le _, h0⟩, ?_⟩
  rintro i m H ⟨rfl, hi, p⟩
  by_cases hlt : i < n
  · refine .inr ⟨hlt, Pv (i + 1), fun H' p' => ⟨n - (i + 1), by omega, rfl, hlt, p'⟩, fun x H' y => ?_⟩
    obtain ⟨e, y⟩ := y
    subst e y
    exact hs i _ hlt p
  · have e : i = n := by omega
    subst e
    exact .inl ⟨Nat.le_refl _, hd H p⟩
end
open PySem PySem.Spec PyProof.Rows L2
/-! ### lines and weaves -/
inductive Ln where
  | source (k : Int) | map (ds : List Deed) (a : Int) | keep (ts : List Tst) (a : Int) | whil (ts : List Tst) (a : Int)
  | take (n a : Int) | skip (n a : Int) | group (m a : Int) | window (n a : Int) | fold (w : Fw) (n a : Int)
  | chain (a b : Int) | pair (a b : Int) | merge (a b : Int)
  deriving DecidableEq
def Ln.d : Ln → PyData
  | .source k => .tuple [.str "source", .int k]
  | .map ds a => .tuple [.str "map", .tuple (ds.map Deed.d), .int a]
  | .keep ts a => .tuple [.str "keep", .tuple (ts.map Tst.d), .int a]
  | .whil ts a => .tuple [.str "while", .tuple (ts.map Tst.d), .int a]
  | .take n a => .tuple [.str "take", .int n, .int a]
  | .skip n a => .tuple [.str "skip", .int n, .int a]
  | .group n a => .tuple [.str "group", .int n, .int a]
  | .window n a => .tuple [.str "window", .int n, .int a]
  | .fold w n a => .tuple [.str "fold", .str w.s, .int n, .int a]
  | .chain a b => .tuple [.str "chain", .int a, .int b]
  | .pair a b => .tuple [.str "pair", .int a, .int b]
  | .merge a b => .tuple [.str "merge", .int a, .int b]
/-- the lines that it names -/
def Ln.names : Ln → List Int
  | .source _ => []
  | .map _ a => [a]
  | .keep _ a => [a]
  | .whil _ a => [a]
  | .take _ a => [a]
  | .skip _ a => [a]
  | .group _ a => [a]
  | .window _ a => [a]
  | .fold _ _ a => [a]
  | .chain a b => [a, b]
  | .pair a b => [a, b]
  | .merge a b => [a, b]
def Ln.src : Ln → Option Int
  | .source k => some k
  | _ => none
def isNum (n : Int) : Bool := decide (0 ≤ n) && decide (n < 1000003)
theorem isNum_iff {n : Int} : isNum n = true ↔ Num n := by
  unfold isNum Num
  rw [Bool.and_eq_true, decide_eq_true_eq, decide_eq_true_eq]
def deedNum : Deed → Bool
  | .add n => isNum n
  | .times n => isNum n
  | _ => true
def tstNum : Tst → Bool
  | .below n => isNum n
  | .over n => isNum n
  | .rest m r => isNum m && (decide (0 ≤ r) && decide (r < m))
theorem deedNum_iff {d : Deed} : deedNum d = true ↔ d.Ok := by
  cases d with
  | add n => exact isNum_iff
  | times n => exact isNum_iff
  | _ => exact ⟨fun _ => trivial, fun _ => rfl⟩
theorem tstNum_iff {t : Tst} : tstNum t = true ↔ t.Ok := by
  cases t with
  | below n => exact isNum_iff
  | over n => exact isNum_iff
  | rest m r =>
    show (isNum m && (decide (0 ≤ r) && decide (r < m))) = true ↔ (Num m ∧ 0 ≤ r ∧ r < m)
    rw [Bool.and_eq_true, Bool.and_eq_true, decide_eq_true_eq, decide_eq_true_eq, isNum_iff]
def deedsCan (ds : List Deed) : Bool := (decide (1 ≤ ds.length) && decide (ds.length ≤ 64)) && ds.all deedNum
def testsCan (ts : List Tst) : Bool := (decide (1 ≤ ts.length) && decide (ts.length ≤ 64)) && ts.all tstNum
/-- its numbers -/
def numOk : Ln → Bool
  | .map ds _ => deedsCan ds
  | .keep ts _ => testsCan ts
  | .whil ts _ => testsCan ts
  | .take n _ => decide (0 ≤ n) && decide (n ≤ 9999)
  | .skip n _ => decide (0 ≤ n) && decide (n ≤ 9999)
  | .group m _ => decide (1 ≤ m) && isNum m
  | .window n _ => decide (1 ≤ n) && decide (n ≤ 9)
  | .fold _ n _ => isNum n
  | _ => true
/-- its places -/
def placeOk (l : Ln) (at_ many : Int) (srcs : List Int) : Bool :=
  match l with
  | .source k => (decide (0 ≤ k) && decide (k < many)) && !decide (k ∈ srcs)
  | l => l.names.all fun a => decide (0 ≤ a) && decide (a < at_)
/-- its kind, by those of the lines that it names -/
def kindN : Ln → List Kd → Option Kd
  | .source _, _ => some .num
  | .map ds _, [k] => kindAll ds k
  | .keep _ _, [k] => if k = .num then some .num else none
  | .whil _ _, [k] => if k = .num then some .num else none
  | .take _ _, [k] => some k
  | .skip _ _, [k] => some k
  | .group _ _, [k] => if k = .num then some (.pair .num (.row .num)) else none
  | .window _ _, [k] => some (.row k)
  | .fold _ _ _, [k] => if k = .num then some .num else none
  | .chain _ _, [k, j] => if k = j then some k else none
  | .pair _ _, [k, j] => some (.pair k j)
  | .merge _ _, [k, j] => if k = .num ∧ j = .num then some .num else none
  | _, _ => none
def namedK (ks : List Kd) : List Int → Option (List Kd)
  | [] => some []
  | a :: r => (ks[a.toNat]?).bind fun k => (namedK ks r).map (k :: ·)
def kindL (l : Ln) (ks : List Kd) : Option Kd := (namedK ks l.names).bind (kindN l)
def srcs (ls : List Ln) : List Int := ls.filterMap Ln.src
def two : Ln → Bool
  | .chain _ _ => true
  | .merge _ _ => true
  | _ => false
/-- no kind on the way of its deeds is too deep -/
def midOk (l : Ln) (ks : List Kd) : Prop := ∀ ds a k, l = .map ds a → namedK ks l.names = some [k] → ∀ i k1, kindAll (ds.take i) k = some k1 → k1.dp ≤ 60
/-- a weave that can be, its kinds -/
inductive GoodW (many : Int) : List Ln → List Kd → Prop
  | nil : GoodW many [] []
  | snoc {ls : List Ln} {ks : List Kd} {l : Ln} {k : Kd} (w : GoodW many ls ks) (hp : placeOk l ls.length many (srcs ls) = true) (hn : numOk l = true) (hk : kindL l ks = some k) (hd : k.dp ≤ 8) (hm : midOk l ks) : GoodW many (ls ++ [l]) (ks ++ [k])
theorem GoodW.len {many : Int} {ls : List Ln} {ks : List Kd} (w : GoodW many ls ks) : ls.length = ks.length := by
  induction w with
  | nil => rfl
  | snoc _ _ _ _ _ _ ih => rw [List.length_append, List.length_append, ih]; rfl
theorem GoodW.at {many : Int} {ls : List Ln} {ks : List Kd} (w : GoodW many ls ks) : ∀ {i : Nat} {l : Ln}, ls[i]? = some l →
    ∃ k, ks[i]? = some k ∧ placeOk l i many (srcs (ls.take i)) = true ∧ numOk l = true ∧ kindL l (ks.take i) = some k ∧ k.dp ≤ 8 ∧ midOk l (ks.take i) := by
  induction w with
  | nil => intro i l h; simp at h
  | @snoc ls ks l k w hp hn hk hd hm ih =>
    intro i l' h
    have hl := w.len
    by_cases hi : i < ls.length
    · rw [List.getElem?_append_left hi] at h
      obtain ⟨k', a1, a2, a3, a4, a5, a6⟩ := ih h
      refine ⟨k', by rw [List.getElem?_append_left (by omega)]; exact a1, ?_, a3, ?_, a5, ?_⟩
      · rw [List.take_append_of_le_length (by omega)]
        exact a2
      · rw [List.take_append_of_le_length (by omega)]
        exact a4
      · rw [List.take_append_of_le_length (by omega)]
        exact a6
    · have hi' : i = ls.length := by
        have := (List.getElem?_eq_some_iff.mp h).1
        rw [List.length_append] at this
        have h1 : [l].length = 1 := rfl
        omega
      subst hi'
      rw [List.getElem?_append_right (Nat.le_refl _), Nat.sub_self] at h
      obtain rfl : l = l' := Option.some.inj h
      refine ⟨k, by rw [hl, List.getElem?_append_right (Nat.le_refl _), Nat.sub_self]; rfl, ?_, hn, ?_, hd, ?_⟩
      · rw [List.take_left']
        · exact hp
        · rfl
      · rw [List.take_left']
        · exact hk
        · exact hl.symm
      · rw [List.take_left']
        · exact hm
        · exact hl.symm
def wdD : Deed → Str
  | .add _ => "add"
  | .times _ => "times"
  | .minus => "minus"
  | .first => "first"
  | .second => "second"
  | .both => "both"
  | .sum => "sum"
  | .many => "many"
def kdO : Option Kd → PyData
  | none => .none
  | some k => k.d
theorem Deed.can (d : Deed) : d.d.canLay0 = true := by
  cases d <;> simp only [Deed.d, PyData.canLay0, PyData.canLayAll0, Bool.and_true] <;> decide +kernel
theorem Tst.can (t : Tst) : t.d.canLay0 = true := by
  cases t <;> simp only [Tst.d, PyData.canLay0, PyData.canLayAll0, Bool.and_true] <;> decide +kernel
theorem canAll {α : Type} {f : α → PyData} (h : ∀ x, (f x).canLay0 = true) : ∀ xs : List α, PyData.canLayAll0 (xs.map f) = true
  | [] => rfl
  | x :: xs => by
    show ((f x).canLay0 && PyData.canLayAll0 (xs.map f)) = true
    rw [h x, canAll h xs]
    rfl
theorem depAll {α : Type} {f : α → PyData} {n : Nat} (h : ∀ x, (f x).depth ≤ n) : ∀ xs : List α, PyData.depthAll (xs.map f) ≤ n
  | [] => Nat.zero_le _
  | x :: xs => by
    have h1 := h x
    have h2 := depAll h xs
    show max _ _ ≤ n
    omega
theorem Deed.dep (d : Deed) : d.d.depth ≤ 1 := by
  cases d <;> exact Nat.le_refl _
theorem Tst.dep (t : Tst) : t.d.depth ≤ 1 := by
  cases t <;> exact Nat.le_refl _
theorem Ln.can (l : Ln) : l.d.canLay0 = true := by
  cases l with
  | map ds a =>
    simp only [Ln.d, PyData.canLay0, PyData.canLayAll0, canAll Deed.can, Bool.and_true]
    decide +kernel
  | keep ts a =>
    simp only [Ln.d, PyData.canLay0, PyData.canLayAll0, canAll Tst.can, Bool.and_true]
    decide +kernel
  | whil ts a =>
    simp only [Ln.d, PyData.canLay0, PyData.canLayAll0, canAll Tst.can, Bool.and_true]
    decide +kernel
  | fold w n a => cases w <;> (simp only [Ln.d, PyData.canLay0, PyData.canLayAll0, Bool.and_true, Fw.s]; decide +kernel)
  | _ => simp only [Ln.d, PyData.canLay0, PyData.canLayAll0, Bool.and_true]; decide +kernel
theorem Ln.dep (l : Ln) : l.d.depth ≤ 3 := by
  cases l with
  | map ds a =>
    have := depAll Deed.dep ds
    show max 0 (max (PyData.depthAll (ds.map Deed.d) + 1) (max 0 0)) + 1 ≤ 3
    omega
  | keep ts a =>
    have := depAll Tst.dep ts
    show max 0 (max (PyData.depthAll (ts.map Tst.d) + 1) (max 0 0)) + 1 ≤ 3
    omega
  | whil ts a =>
    have := depAll Tst.dep ts
    show max 0 (max (PyData.depthAll (ts.map Tst.d) + 1) (max 0 0)) + 1 ≤ 3
    omega
  | _ => exact (by decide : (1 : Nat) ≤ 3)
theorem lines_shaped (ls : List Ln) : SeqAt.shaped (.list (ls.map Ln.d)) = true := by
  have h1 := depAll Ln.dep ls
  show ((PyData.canLayAll0 (ls.map Ln.d)) && decide (PyData.depthAll (ls.map Ln.d) + 1 ≤ 64)) = true
  rw [canAll Ln.can, Bool.true_and]
  exact decide_eq_true (by omega)
theorem Kd_lk : ∀ k : Kd, lk k.d = true
  | .num => rfl
  | .pair a b => by
    have h1 := Kd_lk a
    have h2 := Kd_lk b
    show (decide (3 ≤ 100000000) && (true && (lk a.d && (lk b.d && true)))) = true
    rw [h1, h2]
    decide
  | .row a => by
    have h1 := Kd_lk a
    show (decide (2 ≤ 100000000) && (true && (lk a.d && true))) = true
    rw [h1]
    decide
def Deed.args : Deed → List Int
  | .add n => [n]
  | .times n => [n]
  | _ => []
theorem Deed.tail (d : Deed) : ∃ w, d.d = .tuple (.str w :: d.args.map PyData.int) ∧ w = wdD d := by
  cases d <;> exact ⟨_, rfl, rfl⟩
theorem cut_tail (x : PyData) (xs : List PyData) : cutD (x :: xs) (some 1) none = xs := by
  unfold cutD
  rw [show HT.sIx (x :: xs).length 0 (some 1) = min 1 (x :: xs).length from HT.sIx_nat _ 0 1, HT.sIx_none]
  rw [show min 1 (x :: xs).length = 1 by rw [List.length_cons]; omega]
  show xs.take ((x :: xs).length - 1) = xs
  rw [List.length_cons, Nat.add_sub_cancel, List.take_length]
theorem deedNum_args (d : Deed) : deedNum d = d.args.all isNum := by
  cases d with
  | add n => show isNum n = (isNum n && true); rw [Bool.and_true]
  | times n => show isNum n = (isNum n && true); rw [Bool.and_true]
  | _ => rfl
theorem deeds_all (ds : List Deed) : (ds.flatMap fun d => d.args.map isNum).all id = ds.all deedNum := by
  induction ds with
  | nil => rfl
  | cons d ds ih =>
    rw [List.flatMap_cons, List.all_append, ih, List.all_cons, deedNum_args, List.all_map]
    rfl
theorem kdO_ne {K : PySem.W.Frag} {H : Hp} {v : V} {k : Kd} (h : Im K H v k.d) : v ≠ .non := by
  cases k <;> (intro e; subst e; cases h)
theorem Kd.canAll (k : Kd) (h : k.dp ≤ 20) : PyData.canLayAll0 [k.d] = true := by
  show (k.d.canLay0 && true) = true
  rw [k.can]
  rfl
theorem namedK_at : ∀ {ks : List Kd} {as : List Int} {kn : List Kd}, namedK ks as = some kn → as.length = kn.length ∧ ∀ (j : Nat) (a : Int), as[j]? = some a → ∃ k, ks[a.toNat]? = some k ∧ kn[j]? = some k
  | ks, [], kn, h => by cases h; exact ⟨rfl, fun j a e => by simp at e⟩
  | ks, a :: as, kn, h => by
    have h : (ks[a.toNat]?).bind (fun k => (namedK ks as).map (k :: ·)) = some kn := h
    cases q : ks[a.toNat]? with
    | none => rw [q] at h; cases h
    | some k =>
      rw [q] at h
      have h : (namedK ks as).map (k :: ·) = some kn := h
      cases q2 : namedK ks as with
      | none => rw [q2] at h; cases h
      | some kr =>
        rw [q2] at h
        obtain rfl : k :: kr = kn := Option.some.inj h
        obtain ⟨l, f⟩ := namedK_at q2
        refine ⟨congrArg Nat.succ l, fun j b e => ?_⟩
        cases j with
        | zero => simp at e; subst e; exact ⟨k, q, rfl⟩
        | succ j => exact f j b (by simpa using e)
theorem kindL_some {l : Ln} {ks : List Kd} {k : Kd} (h : kindL l ks = some k) : ∃ kn, namedK ks l.names = some kn ∧ kindN l kn = some k := by
  unfold kindL at h
  cases q : namedK ks l.names with
  | none => rw [q] at h; cases h
  | some kn => rw [q] at h; exact ⟨kn, rfl, h⟩
theorem place_names {l : Ln} {at_ many : Int} {ss : List Int} (h : placeOk l at_ many ss = true) : ∀ a ∈ l.names, 0 ≤ a ∧ a < at_ := by
  intro a ha
  cases l with
  | source k => cases ha
  | _ =>
    have h := List.all_eq_true.mp h a ha
    rw [Bool.and_eq_true, decide_eq_true_eq, decide_eq_true_eq] at h
    exact h
theorem srcs_snoc {ls : List Ln} {l : Ln} : srcs (ls ++ [l]) = srcs ls ++ (match l.src with | some k => [k] | none => []) := by
  unfold srcs
  rw [List.filterMap_append]
  cases l <;> rfl
def simpleK (k : Kd) : Bool := decide (k = .num) || decide (k = .pair .num .num)
theorem simple_any (k : Kd) : ([Kd.num.d, (Kd.pair .num .num).d].any fun z => PyData.eqv z k.d) = simpleK k := by
  unfold simpleK
  rw [List.any_cons, List.any_cons, List.any_nil, Kd.eqv, Kd.eqv, Bool.or_false]
  congr 1 <;> (congr 1; exact propext ⟨fun h => h.symm, fun h => h.symm⟩)
theorem simple_dp {k : Kd} (h : simpleK k = true) : k.dp ≤ 1 := by
  unfold simpleK at h
  rw [Bool.or_eq_true, decide_eq_true_eq, decide_eq_true_eq] at h
  rcases h with rfl | rfl <;> decide
/-- a line as it is drawn behind lines of these kinds -/
structure DrawnL (ks : List Kd) (l : Ln) (k : Kd) : Prop where
  np : ∀ a ∈ l.names, 0 ≤ a ∧ a < (ks.length : Int)
  ns : l.src = none
  nn : numOk l = true
  kk : kindL l ks = some k
  dp : k.dp ≤ 2
  mid : midOk l ks
theorem DrawnL.place {ks : List Kd} {l : Ln} {k : Kd} (h : DrawnL ks l k) (many : Int) (ss : List Int) : placeOk l ks.length many ss = true := by
  have e : placeOk l ks.length many ss = l.names.all fun a => decide (0 ≤ a) && decide (a < (ks.length : Int)) := by
    cases l with
    | source k => cases h.ns
    | _ => rfl
  rw [e, List.all_eq_true]
  intro a ha
  obtain ⟨h1, h2⟩ := h.np a ha
  rw [decide_eq_true h1, decide_eq_true h2]
  rfl
theorem named_one {ks : List Kd} {a : Int} {k : Kd} (h : ks[a.toNat]? = some k) : namedK ks [a] = some [k] := by
  show (ks[a.toNat]?).bind _ = _
  rw [h]
  rfl
theorem named_two {ks : List Kd} {a b : Int} {k j : Kd} (h : ks[a.toNat]? = some k) (h2 : ks[b.toNat]? = some j) : namedK ks [a, b] = some [k, j] := by
  show (ks[a.toNat]?).bind _ = _
  rw [h]
  show (namedK ks [b]).map _ = _
  rw [named_one h2]
  rfl
theorem kindL_one {ks : List Kd} {l : Ln} {a : Int} {k : Kd} (e : l.names = [a]) (h : ks[a.toNat]? = some k) : kindL l ks = kindN l [k] := by
  unfold kindL
  rw [e, named_one h]
  rfl
theorem kindL_two {ks : List Kd} {l : Ln} {a b : Int} {k j : Kd} (e : l.names = [a, b]) (h : ks[a.toNat]? = some k) (h2 : ks[b.toNat]? = some j) : kindL l ks = kindN l [k, j] := by
  unfold kindL
  rw [e, named_two h h2]
  rfl
theorem mid_no {l : Ln} {ks : List Kd} (h : ∀ ds a, l ≠ .map ds a) : midOk l ks := fun ds a k e _ => absurd e (h ds a)
theorem DrawnL.one {ks : List Kd} {l : Ln} {a : Int} {k k' : Kd} (e : l.names = [a]) (es : l.src = none) (ha : 0 ≤ a) (h : ks[a.toNat]? = some k) (hn : numOk l = true) (hk : kindN l [k] = some k') (hd : k'.dp ≤ 2) (hm : midOk l ks) : DrawnL ks l k' := by
  refine ⟨fun b hb => ?_, es, hn, by rw [kindL_one e h]; exact hk, hd, hm⟩
  rw [e] at hb
  rw [List.mem_singleton.mp hb]
  have := (List.getElem?_eq_some_iff.mp h).1
  omega
theorem DrawnL.two {ks : List Kd} {l : Ln} {a b : Int} {k j k' : Kd} (e : l.names = [a, b]) (es : l.src = none) (ha : 0 ≤ a) (h : ks[a.toNat]? = some k) (hb : 0 ≤ b) (h2 : ks[b.toNat]? = some j) (hn : numOk l = true) (hk : kindN l [k, j] = some k') (hd : k'.dp ≤ 2) (hm : midOk l ks) : DrawnL ks l k' := by
  refine ⟨fun c hc => ?_, es, hn, by rw [kindL_two e h h2]; exact hk, hd, hm⟩
  rw [e] at hc
  have h3 := (List.getElem?_eq_some_iff.mp h).1
  have h4 := (List.getElem?_eq_some_iff.mp h2).1
  rcases List.mem_cons.mp hc with rfl | hc
  · omega
  · rw [List.mem_singleton.mp hc]
    omega
theorem DrawnL.mapD {ks : List Kd} {ds : List Deed} {a : Int} {k k' : Kd} (ha : 0 ≤ a) (h : ks[a.toNat]? = some k) (hd : k.dp ≤ 2) (d : DrawnD k ds k') : DrawnL ks (.map ds a) k' := by
  refine .one rfl rfl ha h ?_ d.kk ?_ ?_
  · show ((decide (1 ≤ ds.length) && decide (ds.length ≤ 64)) && ds.all deedNum) = true
    rw [decide_eq_true d.l1, decide_eq_true d.l2, Bool.true_and, Bool.true_and, List.all_eq_true]
    exact fun e he => deedNum_iff.mpr (d.ok e he)
  · by_cases e : k = .num
    · subst e
      have := d.dp
      simp only [Kd.dp] at this
      omega
    · have := d.dn e
      omega
  · intro ds' a' j e hj i k1 hk
    cases e
    have : namedK ks [a] = some [k] := named_one h
    have hj : namedK ks [a] = some [j] := hj
    rw [this] at hj
    cases hj
    have := d.mid i k1 hk
    omega
theorem testsCan_of {ts : List Tst} (l1 : 1 ≤ ts.length) (l2 : ts.length ≤ 64) (ok : ∀ t ∈ ts, t.Ok) : testsCan ts = true := by
  show ((decide (1 ≤ ts.length) && decide (ts.length ≤ 64)) && ts.all tstNum) = true
  rw [decide_eq_true l1, decide_eq_true l2, Bool.true_and, Bool.true_and, List.all_eq_true]
  exact fun e he => tstNum_iff.mpr (ok e he)
theorem cut_to (xs : List PyData) (n : Nat) : cutD xs none (some (n : Int)) = xs.take n := by
  unfold cutD
  rw [HT.sIx_none, HT.sIx_nat, List.drop_zero, Nat.sub_zero]
  by_cases h : n ≤ xs.length
  · rw [Nat.min_eq_left h]
  · rw [Nat.min_eq_right (by omega), List.take_length, List.take_of_length_le (by omega)]
def notBoth (d : Deed) : Bool := !decide (d = .both)
theorem simple_not {es : List Deed} (h : ∀ e ∈ es, simpleD e = true) : es.filter notBoth = es := by
  rw [List.filter_eq_self]
  intro e he
  have := h e he
  cases e <;> first | rfl | cases this
theorem drawn_cut {es : List Deed} {b : Bool} (h2 : es.length ≤ 63) (si : ∀ e ∈ es, simpleD e = true) : ((es ++ (if b then [Deed.both] else [])).take 63).filter notBoth = es := by
  rw [List.take_append, List.filter_append, List.take_of_length_le h2, simple_not si]
  have : ((if b = true then [Deed.both] else []).take (63 - es.length)).filter notBoth = [] := by
    rw [List.filter_eq_nil_iff]
    intro d hd
    have hd := List.mem_of_mem_take hd
    cases b with
    | true => rw [List.mem_singleton.mp hd]; decide
    | false => cases hd
  rw [this, List.append_nil]
theorem Deed.eqv (d : Deed) : (!PyData.eqv d.d Deed.both.d) = notBoth d := by
  cases d with
  | both => decide +kernel
  | add n =>
    have : (("add" : Str) == ("both" : Str)) = false := by decide +kernel
    simp [Deed.d, PyData.eqv, PyData.eqvAll, this, notBoth]
  | times n =>
    have : (("times" : Str) == ("both" : Str)) = false := by decide +kernel
    simp [Deed.d, PyData.eqv, PyData.eqvAll, this, notBoth]
  | _ => decide +kernel
theorem Deed.shaped (d : Deed) : SeqAt.shaped d.d = true := by
  unfold SeqAt.shaped
  rw [d.can, Bool.true_and]
  exact decide_eq_true (Nat.le_trans d.dep (by decide))
def twos (ls : List Ln) : Nat := (ls.filter two).length
theorem twos_snoc {ls : List Ln} {l : Ln} : twos (ls ++ [l]) ≤ twos ls + 1 := by
  unfold twos
  rw [List.filter_append, List.length_append]
  have := List.length_filter_le two [l]
  have h : [l].length = 1 := rfl
  omega
/-- a weave as it is drawn -/
structure DrawnW (ls : List Ln) (ks : List Kd) (many : Int) : Prop where
  good : GoodW many ls ks
  l1 : 1 ≤ ls.length
  l24 : ls.length ≤ 24
  m1 : 1 ≤ many
  m5 : many ≤ 5
  dp : ∀ k ∈ ks, k.dp ≤ 2
  tw : twos ls ≤ 7
theorem GoodW.more {many : Int} {ls : List Ln} {ks : List Kd} {l : Ln} {k : Kd} (w : GoodW many ls ks) (d : DrawnL ks l k) : GoodW many (ls ++ [l]) (ks ++ [k]) :=
  .snoc w (by rw [w.len]; exact d.place many _) d.nn d.kk (by have := d.dp; omega) d.mid
open PySem PySem.Spec PyProof.Rows L2
/-! ### lists of lists -/
inductive Rows (K : PySem.W.Frag) (H : Hp) : List Addr → List (List PyData) → Prop
  | nil : Rows K H [] []
  | cons {a : Addr} {as : List Addr} {ds : List PyData} {dss : List (List PyData)} (h : Acc K H a ds) (t : Rows K H as dss) : Rows K H (a :: as) (ds :: dss)
section
variable {K : PySem.W.Frag} {H H' : Hp}
theorem Rows.len : ∀ {as : List Addr} {dss : List (List PyData)}, Rows K H as dss → as.length = dss.length
  | _, _, .nil => rfl
  | _, _, .cons _ t => congrArg Nat.succ (Rows.len t)
theorem Rows.keep (tk : TK K H H') : ∀ {as : List Addr} {dss : List (List PyData)}, Rows K H as dss → (∀ a ∈ as, ∀ xs, H a = some (.lst xs) → H' a = some (.lst xs)) → Rows K H' as dss
  | _, _, .nil, _ => .nil
  | _, _, .cons h t, e => .cons (h.keep tk (e _ List.mem_cons_self)) (Rows.keep tk t fun a ha => e a (List.mem_cons_of_mem _ ha))
theorem Rows.same {as : List Addr} {dss : List (List PyData)} (r : Rows K H as dss) (s : Same H H') : Rows K H' as dss := r.keep (same_tk s) fun a _ _ e => s _ _ e
theorem Rows.but {D : Addr} {as : List Addr} {dss : List (List PyData)} (r : Rows K H as dss) (s : But D H H') (t : TK K H H') (ne : D ∉ as) : Rows K H' as dss :=
  r.keep t fun a ha _ e => s _ _ (fun z => ne (z ▸ ha)) e
theorem Rows.get : ∀ {as : List Addr} {dss : List (List PyData)} {i : Nat} {ds : List PyData}, Rows K H as dss → dss[i]? = some ds → ∃ a, as[i]? = some a ∧ Acc K H a ds
  | _, _, i, _, .nil, e => by simp at e
  | _, _, 0, _, .cons h _, e => by simp at e; subst e; exact ⟨_, rfl, h⟩
  | _, _, i + 1, ds, .cons _ t, e => by
    obtain ⟨a, h1, h2⟩ := Rows.get (i := i) (ds := ds) t (by simpa using e)
    exact ⟨a, by simpa using h1, h2⟩
theorem Rows.got : ∀ {as : List Addr} {dss : List (List PyData)} {i : Nat} {a : Addr}, Rows K H as dss → as[i]? = some a → ∃ ds, dss[i]? = some ds ∧ Acc K H a ds
  | _, _, i, _, .nil, e => by simp at e
  | _, _, 0, _, .cons h _, e => by simp at e; subst e; exact ⟨_, rfl, h⟩
  | _, _, i + 1, ds, .cons _ t, e => by
    obtain ⟨a, h1, h2⟩ := Rows.got (i := i) (a := ds) t (by simpa using e)
    exact ⟨a, by simpa using h1, h2⟩
theorem Rows.snoc : ∀ {as : List Addr} {dss : List (List PyData)} {a : Addr} {ds : List PyData}, Rows K H as dss → Acc K H a ds → Rows K H (as ++ [a]) (dss ++ [ds])
  | _, _, _, _, .nil, h => .cons h .nil
  | _, _, _, _, .cons r t, h => .cons r (Rows.snoc t h)
theorem Rows.mem {as : List Addr} {dss : List (List PyData)} (r : Rows K H as dss) {a : Addr} (ha : a ∈ as) : ∃ xs, H a = some (.lst xs) := by
  obtain ⟨i, hi⟩ := List.mem_iff_getElem?.mp ha
  obtain ⟨ds, _, h⟩ := r.got hi
  exact h.at
theorem Rows.fresh {as : List Addr} {dss : List (List PyData)} (r : Rows K H as dss) {p : Addr} (hp : H p = none) : p ∉ as := fun ha => by
  obtain ⟨xs, e⟩ := r.mem ha
  rw [hp] at e
  cases e
theorem Rows.dp : ∀ {as : List Addr} {dss : List (List PyData)}, Rows K H as dss → DpAll K H (as.map V.ref) (dss.map PyData.list)
  | _, _, .nil => .nil
  | _, _, .cons h t => .cons h.dp (Rows.dp t)
/-- the list p of the lists as -/
def LL (K : PySem.W.Frag) (H : Hp) (p : Addr) (as : List Addr) (dss : List (List PyData)) : Prop := H p = some (.lst (as.map V.ref)) ∧ Rows K H as dss
theorem LL.dp {p : Addr} {as : List Addr} {dss : List (List PyData)} (h : LL K H p as dss) : Dp K H (.ref p) (.list (dss.map PyData.list)) := .lst (SqL.of h.1) h.2.dp
theorem LL.same {p : Addr} {as : List Addr} {dss : List (List PyData)} (h : LL K H p as dss) (s : Same H H') : LL K H' p as dss := ⟨s _ _ h.1, h.2.same s⟩
theorem LL.but {D p : Addr} {as : List Addr} {dss : List (List PyData)} (h : LL K H p as dss) (s : But D H H') (t : TK K H H') (n1 : p ≠ D) (n2 : D ∉ as) : LL K H' p as dss := ⟨s _ _ n1 h.1, h.2.but s t n2⟩
/-- a write to the list itself -/
theorem Rows.put {p : Addr} {as : List Addr} {dss : List (List PyData)} {xs ys : List V} (h : Rows K H as dss) (e : H p = some (.lst xs)) (np : p ∉ as) : Rows K (upd H p (.lst ys)) as dss := by
  have b : But p H (upd H p (.lst ys)) := fun b u hb z => by rw [upd_ne hb]; exact z
  exact h.but b (b.tk e) np
end
def intsD (lists : List (List Int)) : List (List PyData) := lists.map fun l => l.map PyData.int
/-! ### what lines give, whole -/
def mergeI : List Int → List Int → List Int
  | [], bs => bs
  | a :: as, [] => a :: as
  | a :: as, b :: bs => if a ≤ b then a :: mergeI as (b :: bs) else b :: mergeI (a :: as) bs
termination_by as bs => as.length + bs.length
theorem merge_nil (as : List Int) : mergeI as [] = as := by
  cases as <;> simp [mergeI]
theorem nil_merge (bs : List Int) : mergeI [] bs = bs := by simp [mergeI]
theorem merge_le {a b : Int} {as bs : List Int} (h : a ≤ b) : mergeI (a :: as) (b :: bs) = a :: mergeI as (b :: bs) := by
  rw [mergeI, if_pos h]
theorem merge_gt {a b : Int} {as bs : List Int} (h : ¬ a ≤ b) : mergeI (a :: as) (b :: bs) = b :: mergeI (a :: as) bs := by
  rw [mergeI, if_neg h]
theorem merge_len (as bs : List Int) : (mergeI as bs).length = as.length + bs.length := by
  induction as generalizing bs with
  | nil => rw [nil_merge]; simp
  | cons a as iha =>
    induction bs with
    | nil => rw [merge_nil]; rfl
    | cons b bs ihb =>
      by_cases h : a ≤ b
      · rw [merge_le h, List.length_cons, iha]; simp only [List.length_cons]; omega
      · rw [merge_gt h, List.length_cons, ihb]; simp only [List.length_cons]; omega
/-- one more item of the groups by m -/
def groupS (m : Int) (acc : List (Int × List Int)) (x : Int) : List (Int × List Int) :=
  match acc.getLast? with
  | some (r, xs) => if r = x % m then acc.dropLast ++ [(r, xs ++ [x])] else acc ++ [(x % m, [x])]
  | none => [(x % m, [x])]
def groupI (m : Int) (xs : List Int) : List (Int × List Int) := xs.foldl (groupS m) []
def grD (g : Int × List Int) : PyData := .tuple [.int g.1, .tuple (g.2.map PyData.int)]
def foldI (f : Fw) (n : Int) : List Int → List Int
  | [] => []
  | x :: xs => foldF f n x :: foldI f (foldF f n x) xs
def windows (n : Nat) (xs : List PyData) : List PyData := (List.range (xs.length + 1 - n)).map fun k => .tuple ((xs.drop k).take n)
def met (ts : List Tst) (x : PyData) : Bool := ts.all fun t => holdsT t (toI x)
def listD (l : Ln) (made : List (List PyData)) (lists : List (List Int)) : List PyData :=
  let g (a : Int) := made.getD a.toNat []
  match l with
  | .source k => (lists.getD k.toNat []).map PyData.int
  | .map ds a => (g a).map (doneAll ds)
  | .keep ts a => (g a).filter (met ts)
  | .whil ts a => (g a).takeWhile (met ts)
  | .take n a => (g a).take n.toNat
  | .skip n a => (g a).drop n.toNat
  | .group m a => (groupI m ((g a).map toI)).map grD
  | .window n a => windows n.toNat (g a)
  | .fold f n a => (foldI f n ((g a).map toI)).map PyData.int
  | .chain a b => g a ++ g b
  | .pair a b => List.zipWith (fun x y => .tuple [x, y]) (g a) (g b)
  | .merge a b => (mergeI ((g a).map toI) ((g b).map toI)).map PyData.int
def plainD (ls : List Ln) (lists : List (List Int)) : List (List PyData) := ls.foldl (fun made l => made ++ [listD l made lists]) []
theorem plainD_snoc (ls : List Ln) (l : Ln) (lists : List (List Int)) : plainD (ls ++ [l]) lists = plainD ls lists ++ [listD l (plainD ls lists) lists] := by
  unfold plainD
  rw [List.foldl_append]
  rfl
theorem plainD_len (ls : List Ln) (lists : List (List Int)) : (plainD ls lists).length = ls.length := by
  unfold plainD
  suffices ∀ (acc : List (List PyData)), (ls.foldl (fun made l => made ++ [listD l made lists]) acc).length = acc.length + ls.length by
    have := this []
    simpa using this
  induction ls with
  | nil => intro acc; rfl
  | cons l ls ih =>
    intro acc
    rw [List.foldl_cons, ih, List.length_append, List.length_cons]
    simp
    omega
/-! ### rules for lists of data -/
section
variable {X : Cx}
/-- xs + ys -/
def rCatL (K : PySem.W.Frag) : R2 := fun x y H Q => ∃ l b ds es, x = .ref l ∧ y = .ref b ∧ Acc K H l ds ∧ Acc K H b es ∧ ds.length + es.length ≤ 1000000 ∧ ∀ p H', H p = none → Same H H' → TK K H H' → Acc K H' p (ds ++ es) → Q (.ref p) H'
theorem Ims.append {K : PySem.W.Frag} {H : Hp} : ∀ {xs ys : List V} {ds es : List PyData}, Ims K H xs ds → Ims K H ys es → Ims K H (xs ++ ys) (ds ++ es)
  | _, _, _, _, .nil, h => h
  | _, _, _, _, .cons r t, h => .cons r (Ims.append t h)
theorem op_catL : OpR X (binaryOp .Add) (rCatL X.K) := OpR.imp op_cat fun x y H Q q => by
  obtain ⟨l, b, ds, es, rfl, rfl, ⟨xs, e1, i1⟩, ⟨ys, e2, i2⟩, hl, k⟩ := q
  refine ⟨l, b, xs, ys, rfl, rfl, e1, e2, ?_, fun p hp => ?_⟩
  · rw [i1.len, i2.len]
    exact Nat.le_trans hl (by decide)
  · have s := same_new (o := HO.lst (xs ++ ys)) hp
    exact k p _ hp s (same_tk s) ⟨_, upd_same, (i1.append i2).u (same_tk s)⟩
/-- l.pop() -/
def rPopA (K : PySem.W.Frag) : V → List V → Hp → VK → Prop := fun x vs H Q => ∃ l ds d, x = .ref l ∧ vs = [] ∧ Acc K H l (ds ++ [d]) ∧ ∀ v H', But l H H' → TK K H H' → Im K H' v d → Acc K H' l ds → Q v H'
theorem Ims.unsnoc {K : PySem.W.Frag} {H : Hp} : ∀ {ds : List PyData} {vs : List V} {d : PyData}, Ims K H vs (ds ++ [d]) → ∃ us v, vs = us ++ [v] ∧ Ims K H us ds ∧ Im K H v d
  | [], _, _, h => by
    cases h with
    | cons a b => cases b; exact ⟨[], _, rfl, .nil, a⟩
  | e :: ds, _, _, h => by
    cases h with
    | cons a b =>
      obtain ⟨us, v, e, i, j⟩ := Ims.unsnoc (ds := ds) b
      exact ⟨_ :: us, v, by rw [e]; rfl, .cons a i, j⟩
theorem mt_popA : MtR X "list.pop" (rPopA X.K) := MtR.imp mt_pop fun x vs H Q q => by
  obtain ⟨l, ds, d, rfl, rfl, ⟨xs, e, i⟩, k⟩ := q
  obtain ⟨us, v, rfl, iu, iv⟩ := i.unsnoc
  have b : But l H (upd H l (.lst (us ++ [v]).dropLast)) := fun b u hb z => by rw [upd_ne hb]; exact z
  have t : TK X.K H _ := b.tk e
  refine ⟨l, us ++ [v], v, rfl, rfl, e, ?_, k v _ b t (iv.u t) ⟨_, upd_same, ?_⟩⟩
  · rw [List.length_append, List.length_singleton, Nat.add_sub_cancel, List.getElem?_append_right (Nat.le_refl _), Nat.sub_self]
    rfl
  · have j := iu.u t
    rw [List.dropLast_concat] at j ⊢
    exact j
/-- l.pop(0) -/
def rPop0 (K : PySem.W.Frag) : V → List V → Hp → VK → Prop := fun x vs H Q => ∃ l ds d, x = .ref l ∧ vs = [.int 0] ∧ Acc K H l (d :: ds) ∧ ∀ v H', But l H H' → TK K H H' → Im K H' v d → Acc K H' l ds → Q v H'
theorem mt_pop0 : MtR X "list.pop" (rPop0 X.K) := MtR.imp mt_popAt fun x vs H Q q => by
  obtain ⟨l, ds, d, rfl, rfl, ⟨xs, e, i⟩, k⟩ := q
  cases i with
  | cons iv iu =>
    rename_i v us
    have b : But l H (upd H l (.lst ((v :: us).eraseIdx 0))) := fun b u hb z => by rw [upd_ne hb]; exact z
    have t : TK X.K H _ := b.tk e
    refine ⟨l, v :: us, 0, 0, v, rfl, rfl, e, by decide, by decide, ?_, rfl, k v _ b t (iv.u t) ⟨us, upd_same, iu.u t⟩⟩
    unfold seqIndex?
    simp
/-- l[lo:hi] of data -/
def rSlLD (K : PySem.W.Frag) : V → Option Int → Option Int → Hp → VK → Prop := fun x lo hi H Q => ∃ l ds, x = .ref l ∧ Acc K H l ds ∧ ∀ p H', H p = none → Same H H' → TK K H H' → Acc K H' p (cutD ds lo hi) → Q (.ref p) H'
theorem sl_listD : SlR X (rSlLD X.K) := SlR.imp sl_list fun x lo hi H Q q => by
  obtain ⟨l, ds, rfl, ⟨xs, e, i⟩, k⟩ := q
  refine ⟨l, xs, rfl, SqL.of e, fun p hp => ?_⟩
  have s := same_new (o := HO.lst (cutV xs lo hi)) hp
  refine k p _ hp s (same_tk s) ⟨_, upd_same, ?_⟩
  have t := ((i.u (same_tk s)).drop (HT.sIx xs.length 0 lo)).take (HT.sIx xs.length xs.length hi - HT.sIx xs.length 0 lo)
  have e : cutD ds lo hi = (ds.drop (HT.sIx xs.length 0 lo)).take (HT.sIx xs.length xs.length hi - HT.sIx xs.length 0 lo) := by
    unfold cutD
    rw [i.len]
  rw [e]
  exact t
/-- t + u of tuples of data -/
def rCatT2 (K : PySem.W.Frag) : R2 := fun x y H Q => ∃ ds es, Im K H x (.tuple ds) ∧ Im K H y (.tuple es) ∧ ds.length + es.length ≤ 1000000 ∧ ∀ v H', Same H H' → TK K H H' → Im K H' v (.tuple (ds ++ es)) → Q v H'
theorem op_catTD : OpR X (binaryOp .Add) (rCatT2 X.K) := OpR.imp op_catA fun x y H Q q => by
  obtain ⟨ds, es, i1, i2, hl, k⟩ := q
  obtain ⟨a, xs, rfl, ht, hs⟩ := i1.t
  obtain ⟨b, ys, rfl, hu, hv⟩ := i2.t
  refine ⟨a, b, xs, ys, rfl, rfl, ht, hu, ?_, fun e => ?_, fun e1 e2 => ?_, fun e1 e2 p hp => ?_⟩
  · rw [hs.len, hv.len]
    exact Nat.le_trans hl (by decide)
  · subst e
    cases hs
    exact k _ H (Same.refl H) TK.refl i2
  · subst e2
    cases hv
    rw [List.append_nil] at k
    exact k _ H (Same.refl H) TK.refl i1
  · have s := same_new (o := HO.tup (xs ++ ys)) hp
    exact k _ _ s (same_tk s) (.tup (SqT.of upd_same) ((hs.append hv).u (same_tk s)))
/-- p[i], a list of lists -/
def rIxLL (K : PySem.W.Frag) : R2 := fun x y H Q => ∃ (p : Addr) (as : List Addr) (i : Int) (j : Nat) (a : Addr), x = .ref p ∧ H p = some (.lst (as.map V.ref)) ∧ y = .int i ∧ i = (j : Int) ∧ as[j]? = some a ∧ Q (.ref a) H
theorem ix_LL : IxR X (rIxLL X.K) := IxR.imp ix_list fun x y H Q q => by
  obtain ⟨p, as, i, j, a, rfl, e, rfl, hi, ha, k⟩ := q
  exact ⟨p, _, i, .ref a, rfl, rfl, SqL.of e, at_of hi (by rw [List.getElem?_map, ha]; rfl), k⟩
/-- min of a list of ints -/
def rMinL (K : PySem.W.Frag) : List V → Hp → VK → Prop := fun vs H Q => ∃ (l : Addr) (ns : List Int) (m : Int), vs = [.ref l] ∧ Acc K H l (ns.map PyData.int) ∧ m ∈ ns ∧ (∀ y ∈ ns, m ≤ y) ∧ Q (.int m) H
theorem cr_minL (hc : X.calm = true) : CallR X (.builtin "min") (rMinL X.K) := CallR.imp (cr_min hc) fun vs H Q q => by
  obtain ⟨l, ns, m, rfl, ⟨xs, e, i⟩, hm, hmin, k⟩ := q
  rw [Ims.of_ints _ i] at e
  refine ⟨l, ns, rfl, SqL.of e, List.length_pos_of_mem hm, fun m' h1 h2 => ?_⟩
  have : m' = m := Int.le_antisymm (h2 m hm) (hmin m' h1)
  rw [this]
  exact k
theorem eqv_nil (ds : List PyData) : PyData.eqv (.list ds) (.list []) = decide (ds = []) := by
  cases ds with
  | nil => simp [PyData.eqv, PyData.eqvAll]
  | cons d ds => simp [PyData.eqv, PyData.eqvAll]
/-- xs != [], xs == [] -/
def rNeNil (K : PySem.W.Frag) : R2 := fun x y H Q => ∃ l p ds, x = .ref l ∧ y = .ref p ∧ Acc K H l ds ∧ Acc K H p [] ∧ SeqAt.shaped (.list ds) = true ∧ Q (.bl (!decide (ds = []))) H
def rEqNil (K : PySem.W.Frag) : R2 := fun x y H Q => ∃ l p ds, x = .ref l ∧ y = .ref p ∧ Acc K H l ds ∧ Acc K H p [] ∧ SeqAt.shaped (.list ds) = true ∧ Q (.bl (decide (ds = []))) H
theorem op_neNil (hu : X.A.units + 64 < cLine) : OpR X (compareOp .NotEq) (rNeNil X.K) := OpR.imp (op_neD hu) fun x y H Q q => by
  obtain ⟨l, p, ds, rfl, rfl, a, b, hs, k⟩ := q
  refine ⟨_, _, a.dp, b.dp, hs, by decide +kernel, ?_⟩
  rw [eqv_nil]
  exact k
theorem op_eqNil (hu : X.A.units + 64 < cLine) : OpR X (compareOp .Eq) (rEqNil X.K) := OpR.imp (op_eqD hu) fun x y H Q q => by
  obtain ⟨l, p, ds, rfl, rfl, a, b, hs, k⟩ := q
  refine ⟨_, _, a.dp, b.dp, hs, by decide +kernel, ?_⟩
  rw [eqv_nil]
  exact k
theorem ints_can (ns : List Int) : PyData.canLayAll0 (ns.map PyData.int) = true := canAll (fun _ => rfl) ns
theorem ints_shaped (ns : List Int) : SeqAt.shaped (.list (ns.map PyData.int)) = true := by
  have h1 := depAll (f := PyData.int) (n := 0) (fun _ => Nat.le_refl _) ns
  show ((PyData.canLayAll0 (ns.map PyData.int)) && decide (PyData.depthAll (ns.map PyData.int) + 1 ≤ 64)) = true
  rw [ints_can, Bool.true_and]
  exact decide_eq_true (by omega)
end
open PySem PySem.Spec PyProof.Rows L2
/-! ### the whole lists are of the lines' kinds -/
structure AllHas (ks : List Kd) (made : List (List PyData)) : Prop where
  len : made.length = ks.length
  has : ∀ (i : Nat) (row : List PyData) (k : Kd), made[i]? = some row → ks[i]? = some k → ∀ x ∈ row, Has k x
structure OkLists (lists : List (List Int)) : Prop where
  num : ∀ l ∈ lists, ∀ n ∈ l, Num n
  len : ∀ l ∈ lists, l.length ≤ 200
theorem AllHas.row {ks : List Kd} {made : List (List PyData)} (h : AllHas ks made) {a : Int} {k : Kd} (hk : ks[a.toNat]? = some k) : made[a.toNat]? = some (made.getD a.toNat []) ∧ ∀ x ∈ made.getD a.toNat [], Has k x := by
  have hi := (List.getElem?_eq_some_iff.mp hk).1
  have e : made[a.toNat]? = some (made.getD a.toNat []) := by
    rw [List.getD_eq_getElem?_getD, List.getElem?_eq_getElem (by rw [h.len]; exact hi)]
    rfl
  exact ⟨e, h.has _ _ _ e hk⟩
theorem one_named {ks : List Kd} {l : Ln} {a : Int} {k : Kd} (e : l.names = [a]) (h : kindL l ks = some k) : ∃ ka, ks[a.toNat]? = some ka ∧ kindN l [ka] = some k := by
  obtain ⟨kn, h1, h2⟩ := kindL_some h
  rw [e] at h1
  obtain ⟨hl, f⟩ := namedK_at h1
  obtain ⟨ka, g1, g2⟩ := f 0 a rfl
  match kn, hl with
  | [x], _ => cases g2; exact ⟨_, g1, h2⟩
theorem two_named {ks : List Kd} {l : Ln} {a b : Int} {k : Kd} (e : l.names = [a, b]) (h : kindL l ks = some k) : ∃ ka kb, ks[a.toNat]? = some ka ∧ ks[b.toNat]? = some kb ∧ kindN l [ka, kb] = some k := by
  obtain ⟨kn, h1, h2⟩ := kindL_some h
  rw [e] at h1
  obtain ⟨hl, f⟩ := namedK_at h1
  obtain ⟨ka, g1, g2⟩ := f 0 a rfl
  obtain ⟨kb, g3, g4⟩ := f 1 b rfl
  match kn, hl with
  | [x, y], _ => cases g2; cases g4; exact ⟨_, _, g1, g3, h2⟩
theorem ifnum {ka k2 k : Kd} (h : (if ka = Kd.num then some k2 else none) = some k) : ka = .num ∧ k = k2 := by
  by_cases e : ka = .num
  · rw [if_pos e] at h; exact ⟨e, (Option.some.inj h).symm⟩
  · rw [if_neg e] at h; cases h
theorem ints_of {row : List PyData} (h : ∀ x ∈ row, Has .num x) : row = (row.map toI).map PyData.int ∧ ∀ n ∈ row.map toI, Num n := by
  refine ⟨Has.ints h, fun n hn => ?_⟩
  obtain ⟨x, hx, rfl⟩ := List.mem_map.mp hn
  obtain ⟨i, rfl, hi⟩ := (h x hx).int
  exact hi
theorem has_ints {ns : List Int} (h : ∀ n ∈ ns, Num n) : ∀ x ∈ ns.map PyData.int, Has .num x := fun x hx => by
  obtain ⟨n, hn, rfl⟩ := List.mem_map.mp hx
  exact .num (h n hn)
theorem foldF_num {f : Fw} {a b : Int} (ha : Num a) (hb : Num b) : Num (foldF f a b) := by
  obtain ⟨a0, a1⟩ := ha
  obtain ⟨b0, b1⟩ := hb
  cases f with
  | add => exact ⟨Int.emod_nonneg _ (by decide), Int.emod_lt_of_pos _ (by decide)⟩
  | times => exact ⟨Int.emod_nonneg _ (by decide), Int.emod_lt_of_pos _ (by decide)⟩
  | least => show Num (min a b); exact ⟨by omega, by omega⟩
  | most => show Num (max a b); exact ⟨by omega, by omega⟩
theorem foldI_num {f : Fw} : ∀ {ns : List Int} {n : Int}, Num n → (∀ x ∈ ns, Num x) → ∀ y ∈ foldI f n ns, Num y
  | [], _, _, _ => fun y hy => by cases hy
  | x :: xs, n, hn, h => fun y hy => by
    have h1 := foldF_num (f := f) hn (h x List.mem_cons_self)
    have hy : y ∈ foldF f n x :: foldI f (foldF f n x) xs := hy
    rcases List.mem_cons.mp hy with rfl | hy
    · exact h1
    · exact foldI_num h1 (fun z hz => h z (List.mem_cons_of_mem _ hz)) y hy
theorem foldI_len {f : Fw} : ∀ {ns : List Int} {n : Int}, (foldI f n ns).length = ns.length
  | [], _ => rfl
  | x :: xs, n => congrArg Nat.succ foldI_len
theorem merge_mem : ∀ {as bs : List Int} {x : Int}, x ∈ mergeI as bs → x ∈ as ∨ x ∈ bs := by
  intro as
  induction as with
  | nil => intro bs x h; rw [nil_merge] at h; exact .inr h
  | cons a as iha =>
    intro bs
    induction bs with
    | nil => intro x h; rw [merge_nil] at h; exact .inl h
    | cons b bs ihb =>
      intro x h
      by_cases c : a ≤ b
      · rw [merge_le c] at h
        rcases List.mem_cons.mp h with rfl | h
        · exact .inl List.mem_cons_self
        · rcases iha h with h | h
          · exact .inl (List.mem_cons_of_mem _ h)
          · exact .inr h
      · rw [merge_gt c] at h
        rcases List.mem_cons.mp h with rfl | h
        · exact .inr List.mem_cons_self
        · rcases ihb h with h | h
          · exact .inl h
          · exact .inr (List.mem_cons_of_mem _ h)
/-- what stands in the groups -/
theorem group_ok {m : Int} (hm : 0 < m) (hm2 : m < 1000003) {P : Int → Prop} {ns : List Int} (h : ∀ n ∈ ns, P n) : ∀ g ∈ groupI m ns, Num g.1 ∧ ∀ n ∈ g.2, P n := by
  suffices ∀ (ns : List Int) (acc : List (Int × List Int)), (∀ n ∈ ns, P n) → (∀ g ∈ acc, Num g.1 ∧ ∀ n ∈ g.2, P n) → ∀ g ∈ ns.foldl (groupS m) acc, Num g.1 ∧ ∀ n ∈ g.2, P n from
    this ns [] h fun g hg => by cases hg
  intro ns
  induction ns with
  | nil => intro acc _ ha; exact ha
  | cons x xs ih =>
    intro acc hn ha
    refine ih _ (fun n hn' => hn n (List.mem_cons_of_mem _ hn')) ?_
    have px := hn x List.mem_cons_self
    have nx : Num (x % m) := ⟨Int.emod_nonneg _ (by omega), by have := Int.emod_lt_of_pos x hm; omega⟩
    intro g hg
    unfold groupS at hg
    split at hg
    · rename_i r ys e
      have hmem : (r, ys) ∈ acc := List.mem_of_getLast? e
      split at hg
      · rcases List.mem_append.mp hg with hg | hg
        · exact ha g (List.dropLast_subset _ hg)
        · rw [List.mem_singleton.mp hg]
          obtain ⟨h1, h2⟩ := ha _ hmem
          refine ⟨h1, fun n hn => ?_⟩
          rcases List.mem_append.mp hn with hn | hn
          · exact h2 n hn
          · rw [List.mem_singleton.mp hn]; exact px
      · rcases List.mem_append.mp hg with hg | hg
        · exact ha g hg
        · rw [List.mem_singleton.mp hg]
          exact ⟨nx, fun n hn => by rw [List.mem_singleton.mp hn]; exact px⟩
    · rw [List.mem_singleton.mp hg]
      exact ⟨nx, fun n hn => by rw [List.mem_singleton.mp hn]; exact px⟩
theorem grouped_lens (m : Int) (ns : List Int) : (groupI m ns).length ≤ ns.length ∧ ∀ g ∈ groupI m ns, g.2.length ≤ ns.length := by
  suffices ∀ (xs : List Int) (acc : List (Int × List Int)) (k : Nat), acc.length ≤ k → (∀ g ∈ acc, g.2.length ≤ k) → (xs.foldl (groupS m) acc).length ≤ k + xs.length ∧ ∀ g ∈ xs.foldl (groupS m) acc, g.2.length ≤ k + xs.length by
    have := this ns [] 0 (Nat.le_refl _) (fun g hg => by cases hg)
    simp only [Nat.zero_add] at this
    exact this
  intro xs
  induction xs with
  | nil => intro acc k h1 h2; exact ⟨h1, h2⟩
  | cons x xs ih =>
    intro acc k h1 h2
    have := ih (groupS m acc x) (k + 1) ?_ ?_
    · rw [List.length_cons]
      have e : k + 1 + xs.length = k + (xs.length + 1) := by omega
      rw [e] at this
      exact this
    · unfold groupS
      split
      · rename_i r ys e
        have hne : acc ≠ [] := fun z => by rw [z] at e; cases e
        have hpos : 0 < acc.length := List.length_pos_iff.mpr hne
        split
        · rw [List.length_append, List.length_dropLast]; simp; omega
        · rw [List.length_append]; simp; omega
      · simp
    · intro g hg
      unfold groupS at hg
      split at hg
      · rename_i r ys e
        have hmem : (r, ys) ∈ acc := List.mem_of_getLast? e
        have hy := h2 _ hmem
        have hy : ys.length ≤ k := hy
        split at hg
        · rcases List.mem_append.mp hg with hg | hg
          · have := h2 g (List.dropLast_subset _ hg); omega
          · rw [List.mem_singleton.mp hg]
            show (ys ++ [x]).length ≤ k + 1
            rw [List.length_append]; simp; omega
        · rcases List.mem_append.mp hg with hg | hg
          · have := h2 g hg; omega
          · rw [List.mem_singleton.mp hg]; simp
      · rw [List.mem_singleton.mp hg]; simp
def Row (made : List (List PyData)) (a : Int) : List PyData := made.getD a.toNat []
theorem listD_has {l : Ln} {made : List (List PyData)} {lists : List (List Int)} {ks : List Kd} {k : Kd} (hm : AllHas ks made) (hl : OkLists lists) (hn : numOk l = true) (hk : kindL l ks = some k) (hs : ∀ row ∈ made, row.length ≤ 1000002) :
    ∀ x ∈ listD l made lists, Has k x := by
  have memrow : ∀ {a : Int} {ka : Kd}, ks[a.toNat]? = some ka → (made.getD a.toNat []).length ≤ 1000002 := fun h => hs _ (List.mem_of_getElem? (hm.row h).1)
  cases l with
  | source s =>
    cases hk
    refine has_ints fun n hn => ?_
    rw [List.getD_eq_getElem?_getD] at hn
    cases e : lists[s.toNat]? with
    | none => rw [e] at hn; cases hn
    | some row => rw [e] at hn; exact hl.num row (List.mem_of_getElem? e) n hn
  | map ds a =>
    obtain ⟨ka, h1, h2⟩ := one_named rfl hk
    obtain ⟨e, f⟩ := hm.row h1
    intro x hx
    obtain ⟨y, hy, rfl⟩ := List.mem_map.mp hx
    have hn : ((decide (1 ≤ ds.length) && decide (ds.length ≤ 64)) && ds.all deedNum) = true := hn
    rw [Bool.and_eq_true, List.all_eq_true] at hn
    exact doneAll_has (f y hy) h2 fun d hd => deedNum_iff.mp (hn.2 d hd)
  | keep ts a =>
    obtain ⟨ka, h1, h2⟩ := one_named rfl hk
    obtain ⟨rfl, rfl⟩ := ifnum h2
    exact fun x hx => (hm.row h1).2 x (List.mem_filter.mp hx).1
  | whil ts a =>
    obtain ⟨ka, h1, h2⟩ := one_named rfl hk
    obtain ⟨rfl, rfl⟩ := ifnum h2
    exact fun x hx => (hm.row h1).2 x ((List.takeWhile_sublist _).subset hx)
  | take n a =>
    obtain ⟨ka, h1, h2⟩ := one_named rfl hk
    cases h2
    exact fun x hx => (hm.row h1).2 x (List.mem_of_mem_take hx)
  | skip n a =>
    obtain ⟨ka, h1, h2⟩ := one_named rfl hk
    cases h2
    exact fun x hx => (hm.row h1).2 x (List.mem_of_mem_drop hx)
  | group m a =>
    obtain ⟨ka, h1, h2⟩ := one_named rfl hk
    obtain ⟨rfl, rfl⟩ := ifnum h2
    obtain ⟨e, f⟩ := hm.row h1
    have hn : (decide (1 ≤ m) && isNum m) = true := hn
    rw [Bool.and_eq_true, decide_eq_true_eq, isNum_iff] at hn
    obtain ⟨m1, _, m2⟩ := hn
    have gk := group_ok (by omega : 0 < m) m2 (P := Num) (ints_of f).2
    have gl := (grouped_lens m ((made.getD a.toNat []).map toI)).2
    intro x hx
    obtain ⟨g, hg, rfl⟩ := List.mem_map.mp hx
    obtain ⟨g1, g2⟩ := gk g hg
    have l1 := gl g hg
    have l2 := memrow h1
    rw [List.length_map] at l1
    exact .pair (.num g1) (.row (has_ints g2) (by rw [List.length_map]; omega))
  | window n a =>
    obtain ⟨ka, h1, h2⟩ := one_named rfl hk
    cases h2
    obtain ⟨e, f⟩ := hm.row h1
    have l2 := memrow h1
    intro x hx
    obtain ⟨i, hi, rfl⟩ := List.mem_map.mp hx
    refine .row (fun y hy => f y (List.mem_of_mem_drop (List.mem_of_mem_take hy))) ?_
    rw [List.length_take, List.length_drop]
    (try dsimp only)
    omega
  | fold w n a =>
    obtain ⟨ka, h1, h2⟩ := one_named rfl hk
    obtain ⟨rfl, rfl⟩ := ifnum h2
    exact has_ints (foldI_num (isNum_iff.mp hn) (ints_of (hm.row h1).2).2)
  | chain a b =>
    obtain ⟨ka, kb, h1, h2, h3⟩ := two_named rfl hk
    have h3 : (if ka = kb then some ka else none) = some k := h3
    by_cases c : ka = kb
    · rw [if_pos c] at h3
      cases h3
      subst c
      intro x hx
      rcases List.mem_append.mp hx with hx | hx
      · exact (hm.row h1).2 x hx
      · exact (hm.row h2).2 x hx
    · rw [if_neg c] at h3
      cases h3
  | pair a b =>
    obtain ⟨ka, kb, h1, h2, h3⟩ := two_named rfl hk
    cases h3
    intro x hx
    have hx : x ∈ List.zipWith (fun x y => PyData.tuple [x, y]) (made.getD a.toNat []) (made.getD b.toNat []) := hx
    obtain ⟨i, hi, e⟩ := List.getElem_of_mem hx
    rw [List.getElem_zipWith] at e
    rw [← e]
    exact .pair ((hm.row h1).2 _ (List.getElem_mem _)) ((hm.row h2).2 _ (List.getElem_mem _))
  | merge a b =>
    obtain ⟨ka, kb, h1, h2, h3⟩ := two_named rfl hk
    have h3 : (if ka = .num ∧ kb = .num then some Kd.num else none) = some k := h3
    by_cases c : ka = .num ∧ kb = .num
    · rw [if_pos c] at h3
      cases h3
      obtain ⟨rfl, rfl⟩ := c
      refine has_ints fun n hn => ?_
      rcases merge_mem hn with hn | hn
      · exact (ints_of (hm.row h1).2).2 n hn
      · exact (ints_of (hm.row h2).2).2 n hn
    · rw [if_neg c] at h3
      cases h3
theorem getD_len {made : List (List PyData)} {B : Nat} (h : ∀ row ∈ made, row.length ≤ B) (i : Nat) : (made.getD i []).length ≤ B := by
  rw [List.getD_eq_getElem?_getD]
  cases e : made[i]? with
  | none => exact Nat.zero_le _
  | some row => exact h row (List.mem_of_getElem? e)
theorem listD_len {l : Ln} {made : List (List PyData)} {lists : List (List Int)} {B C : Nat} (h : ∀ row ∈ made, row.length ≤ B) (hl : ∀ row ∈ lists, row.length ≤ C) (hC : C ≤ B) (hw : ∀ n a, l = .window n a → 1 ≤ n) : (listD l made lists).length ≤ if two l then 2 * B else B := by
  have g := getD_len h
  cases l with
  | source s =>
    show ((lists.getD s.toNat []).map PyData.int).length ≤ B
    rw [List.length_map, List.getD_eq_getElem?_getD]
    cases e : lists[s.toNat]? with
    | none => exact Nat.zero_le _
    | some row => exact Nat.le_trans (hl row (List.mem_of_getElem? e)) hC
  | map ds a => show (List.map _ _).length ≤ B; rw [List.length_map]; exact g _
  | keep ts a => exact Nat.le_trans (List.length_filter_le _ _) (g _)
  | whil ts a => exact Nat.le_trans (List.takeWhile_sublist _).length_le (g _)
  | take n a => show (List.take _ _).length ≤ B; rw [List.length_take]; have := g a.toNat; (try dsimp only); omega
  | skip n a => show (List.drop _ _).length ≤ B; rw [List.length_drop]; have := g a.toNat; (try dsimp only); omega
  | group m a =>
    show (List.map _ _).length ≤ B
    rw [List.length_map]
    have h1 := (grouped_lens m ((made.getD a.toNat []).map toI)).1
    rw [List.length_map] at h1
    exact Nat.le_trans h1 (g _)
  | window n a =>
    show (List.map _ _).length ≤ B
    rw [List.length_map, List.length_range]
    have := g a.toNat
    have := hw n a rfl
    (try dsimp only)
    omega
  | fold w n a => show (List.map _ _).length ≤ B; rw [List.length_map, foldI_len, List.length_map]; exact g _
  | chain a b => show List.length (_ ++ _) ≤ 2 * B; rw [List.length_append]; have := g a.toNat; have := g b.toNat; (try dsimp only); omega
  | pair a b => show (List.zipWith _ _ _).length ≤ B; rw [List.length_zipWith]; have := g a.toNat; (try dsimp only); omega
  | merge a b => show (List.map _ _).length ≤ 2 * B; rw [List.length_map, merge_len, List.length_map, List.length_map]; have := g a.toNat; have := g b.toNat; (try dsimp only); omega
theorem GoodW.take {many : Int} {ls : List Ln} {ks : List Kd} (w : GoodW many ls ks) (i : Nat) : GoodW many (ls.take i) (ks.take i) := by
  induction w with
  | nil => rw [List.take_nil, List.take_nil]; exact .nil
  | @snoc ls ks l k w hp hn hk hd hm ih =>
    have hl := w.len
    by_cases hi : i ≤ ls.length
    · rw [List.take_append_of_le_length hi, List.take_append_of_le_length (by omega)]
      exact ih
    · rw [List.take_of_length_le (by rw [List.length_append]; show ls.length + 1 ≤ i; omega), List.take_of_length_le (by rw [List.length_append]; show ks.length + 1 ≤ i; omega)]
      exact .snoc w hp hn hk hd hm
theorem twos_take {ls : List Ln} {i : Nat} : twos (ls.take i) ≤ twos ls := ((List.take_sublist i ls).filter two).length_le
theorem twos_eq {ls : List Ln} {l : Ln} : twos (ls ++ [l]) = twos ls + (if two l then 1 else 0) := by
  unfold twos
  rw [List.filter_append, List.length_append]
  cases e : two l
  · rw [List.filter_cons_of_neg (by rw [e]; decide), List.filter_nil]; rfl
  · rw [List.filter_cons_of_pos e, List.filter_nil]; rfl
theorem twos_next {ls : List Ln} {i : Nat} {l : Ln} (h : ls[i]? = some l) : twos (ls.take i) + (if two l then 1 else 0) ≤ twos ls := by
  rw [← twos_eq]
  have e : ls.take i ++ [l] = ls.take (i + 1) := by rw [List.take_add_one, h]; rfl
  rw [e]
  exact twos_take
/-- what is known of the lists of a good weave's lines -/
theorem plain_ok {many : Int} {ls : List Ln} {ks : List Kd} {lists : List (List Int)} (w : GoodW many ls ks) (hl : OkLists lists) (ht : twos ls ≤ 12) :
    AllHas ks (plainD ls lists) ∧ ∀ row ∈ plainD ls lists, row.length ≤ 200 * 2 ^ twos ls := by
  induction w with
  | nil => exact ⟨⟨rfl, fun i row k h => by simp [plainD] at h⟩, fun row h => by simp [plainD] at h⟩
  | @snoc ls ks l k w hp hn hk hd hm ih =>
    have t1 : twos (ls ++ [l]) = twos ls + (if two l then 1 else 0) := by
      unfold twos
      rw [List.filter_append, List.length_append]
      cases e : two l
      · rw [List.filter_cons_of_neg (by rw [e]; decide), List.filter_nil]; rfl
      · rw [List.filter_cons_of_pos e, List.filter_nil]; rfl
    have t2 : twos ls ≤ 12 := by omega
    obtain ⟨h1, h2⟩ := ih t2
    have p12 : 2 ^ twos ls ≤ 2 ^ 12 := Nat.pow_le_pow_right (by decide) t2
    have hs : ∀ row ∈ plainD ls lists, row.length ≤ 1000002 := fun row hr => Nat.le_trans (h2 row hr) (by omega)
    rw [plainD_snoc]
    have has := listD_has h1 hl hn hk hs
    have hwin : ∀ n a, l = .window n a → 1 ≤ n := fun n a e => by
      subst e
      have hn : (decide (1 ≤ n) && decide (n ≤ 9)) = true := hn
      rw [Bool.and_eq_true, decide_eq_true_eq] at hn
      exact hn.1
    have p0 : 1 ≤ 2 ^ twos ls := Nat.one_le_two_pow
    have ln := listD_len (l := l) h2 hl.len (by omega) hwin
    refine ⟨⟨by rw [List.length_append, List.length_append, h1.len]; rfl, fun i row k' hr hk' => ?_⟩, fun row hr => ?_⟩
    · by_cases hi : i < ks.length
      · rw [List.getElem?_append_left (by rw [h1.len]; exact hi)] at hr
        rw [List.getElem?_append_left hi] at hk'
        exact h1.has i row k' hr hk'
      · have hi2 := (List.getElem?_eq_some_iff.mp hk').1
        rw [List.length_append] at hi2
        have e1 : [k].length = 1 := rfl
        have hi3 : i = ks.length := by omega
        subst hi3
        rw [List.getElem?_append_right (Nat.le_refl _), Nat.sub_self] at hk'
        rw [List.getElem?_append_right (by rw [h1.len]; exact Nat.le_refl _), h1.len, Nat.sub_self] at hr
        cases hk'
        cases hr
        exact has
    · rcases List.mem_append.mp hr with hr | hr
      · have := h2 row hr
        rw [t1]
        cases two l
        · exact this
        · refine Nat.le_trans this ?_
          rw [if_pos rfl, Nat.pow_succ]
          omega
      · rw [List.mem_singleton.mp hr, t1]
        cases e : two l
        · rw [e] at ln; exact ln
        · rw [e] at ln
          rw [if_pos rfl, Nat.pow_succ]
          rw [if_pos rfl] at ln
          omega
def spPlain (K : PySem.W.Frag) : Sp := fun vs H Q _ => ∃ (v1 v2 : V), vs = [v1, v2] ∧ Hold (∃ (lw pl : Addr) (al : List Addr) (ls : List Ln) (ks : List Kd) (lists : List (List Int)) (many : Int), v1 = .ref lw ∧ v2 = .ref pl ∧ Acc K H lw (ls.map Ln.d) ∧ LL K H pl al (intsD lists) ∧
  DrawnW ls ks many ∧ (lists.length : Int) = many ∧ OkLists lists ∧
  ∀ p H' am, H p = none → (∀ a ∈ am, H a = none) → p ∉ am → am.Nodup → Same H H' → LL K H' p am (plainD ls lists) → Q (.ref p) H')
theorem lists_can (lists : List (List Int)) : PyData.canLayAll0 ((intsD lists).map PyData.list) = true := by
  unfold intsD
  rw [List.map_map]
  exact canAll (f := PyData.list ∘ fun (l : List Int) => l.map PyData.int) (fun l => show PyData.canLayAll0 (l.map PyData.int) = true from ints_can l) lists
theorem lists_dep (lists : List (List Int)) : PyData.depthAll ((intsD lists).map PyData.list) ≤ 1 := by
  unfold intsD
  rw [List.map_map]
  refine depAll (f := PyData.list ∘ fun (l : List Int) => l.map PyData.int) (fun l => ?_) lists
  have h1 := depAll (f := PyData.int) (n := 0) (fun _ => Nat.le_refl _) l
  show PyData.depthAll (l.map PyData.int) + 1 ≤ 1
  omega
theorem lists_shaped (lists : List (List Int)) : SeqAt.shaped (.list ((intsD lists).map PyData.list)) = true := by
  have h1 := lists_dep lists
  show ((PyData.canLayAll0 ((intsD lists).map PyData.list)) && decide (PyData.depthAll ((intsD lists).map PyData.list) + 1 ≤ 64)) = true
  rw [lists_can, Bool.true_and]
  exact decide_eq_true (by omega)
def handedD (ls : List Ln) (lists : List (List Int)) : PyData := .list [.list (ls.map Ln.d), .list ((intsD lists).map PyData.list)]
theorem handed_shaped (ls : List Ln) (lists : List (List Int)) : SeqAt.shaped (handedD ls lists) = true := by
  have h1 := lists_dep lists
  have h2 := depAll Ln.dep ls
  show ((PyData.canLayAll0 (ls.map Ln.d) && (PyData.canLayAll0 ((intsD lists).map PyData.list) && true)) &&
    decide (max (PyData.depthAll (ls.map Ln.d) + 1) (max (PyData.depthAll ((intsD lists).map PyData.list) + 1) 0) + 1 ≤ 64)) = true
  rw [canAll Ln.can, lists_can, Bool.true_and, Bool.true_and, Bool.true_and]
  exact decide_eq_true (by omega)
theorem plain_data {many : Int} {ls : List Ln} {ks : List Kd} {lists : List (List Int)} (dw : DrawnW ls ks many) (hl : OkLists lists) :
    lk (.list ((plainD ls lists).map PyData.list)) = true ∧ PyData.depth (.list ((plainD ls lists).map PyData.list)) ≤ 4 ∧ ∀ row ∈ plainD ls lists, row.length ≤ 50000 := by
  have tw := dw.tw
  obtain ⟨ah, rl⟩ := plain_ok dw.good hl (by omega)
  have p7 : 2 ^ twos ls ≤ 2 ^ 7 := Nat.pow_le_pow_right (by decide) tw
  have l24 := dw.l24
  have rl : ∀ row ∈ plainD ls lists, row.length ≤ 50000 := fun row h => by have := rl row h; omega
  have hk : ∀ row ∈ plainD ls lists, ∃ k, k.dp ≤ 2 ∧ ∀ x ∈ row, Has k x := fun row h => by
    obtain ⟨i, hi⟩ := List.mem_iff_getElem?.mp h
    have hi' := (List.getElem?_eq_some_iff.mp hi).1
    rw [ah.len] at hi'
    have hk : ks[i]? = some ks[i] := List.getElem?_eq_getElem hi'
    exact ⟨ks[i], dw.dp _ (List.getElem_mem _), ah.has i row _ hi hk⟩
  refine ⟨lk_list (fun x hx => ?_) (by rw [List.length_map, plainD_len]; omega), ?_, rl⟩
  · obtain ⟨row, hr, rfl⟩ := List.mem_map.mp hx
    obtain ⟨k, _, h⟩ := hk row hr
    exact lk_list (fun x hx => Has_lk (h x hx)) (by have := rl row hr; omega)
  · have : PyData.depthAll ((plainD ls lists).map PyData.list) ≤ 3 := depth_all fun x hx => by
      obtain ⟨row, hr, rfl⟩ := List.mem_map.mp hx
      obtain ⟨k, hd, h⟩ := hk row hr
      have : PyData.depthAll row ≤ 2 := depth_all fun x hx => Nat.le_trans (Has_depth (h x hx)) hd
      show PyData.depthAll row + 1 ≤ 3
      omega
    show PyData.depthAll ((plainD ls lists).map PyData.list) + 1 ≤ 4
    omega
open PySem PySem.Spec PyProof.Rows L2
theorem cut_take (ds : List PyData) (n : Int) (h : 0 ≤ n) : cutD ds none (some n) = ds.take n.toNat := by
  obtain ⟨m, rfl⟩ := Int.eq_ofNat_of_zero_le h
  unfold cutD
  rw [HT.sIx_none, HT.sIx_nat, List.drop_zero, Nat.sub_zero, Int.toNat_natCast]
  by_cases c : m ≤ ds.length
  · rw [Nat.min_eq_left c]
  · rw [Nat.min_eq_right (by omega), List.take_length, List.take_of_length_le (by omega)]
theorem cut_drop (ds : List PyData) (n : Int) (h : 0 ≤ n) : cutD ds (some n) none = ds.drop n.toNat := by
  obtain ⟨m, rfl⟩ := Int.eq_ofNat_of_zero_le h
  unfold cutD
  rw [HT.sIx_none, HT.sIx_nat, Int.toNat_natCast]
  by_cases c : m ≤ ds.length
  · rw [Nat.min_eq_left c, List.take_of_length_le (by rw [List.length_drop]; exact Nat.le_refl _)]
  · rw [Nat.min_eq_right (by omega), List.drop_length, List.drop_eq_nil_of_le (by omega)]; simp
theorem cut_win (ds : List PyData) (i n : Nat) (h : i + n ≤ ds.length) : cutD ds (some (i : Int)) (some ((i : Int) + (n : Int))) = (ds.drop i).take n := by
  unfold cutD
  have e : ((i : Int) + (n : Int)) = ((i + n : Nat) : Int) := by omega
  rw [e, HT.sIx_nat, HT.sIx_nat, Nat.min_eq_left h, Nat.min_eq_left (by omega), Nat.add_sub_cancel_left]
theorem foldI_snoc {f : Fw} {x : Int} : ∀ {ns : List Int} {n : Int}, foldI f n (ns ++ [x]) = foldI f n ns ++ [foldF f (ns.foldl (foldF f) n) x]
  | [], _ => rfl
  | y :: ys, n => congrArg (foldF f n y :: ·) (foldI_snoc (ns := ys))
theorem foldI_last {f : Fw} : ∀ {ns : List Int} {n : Int}, (n :: foldI f n ns)[ns.length]? = some (ns.foldl (foldF f) n)
  | [], _ => rfl
  | y :: ys, n => foldI_last (ns := ys) (n := foldF f n y)
theorem foldl_num {f : Fw} : ∀ {ns : List Int} {n : Int}, Num n → (∀ x ∈ ns, Num x) → Num (ns.foldl (foldF f) n)
  | [], _, h, _ => h
  | y :: ys, n, hn, h => foldl_num (ns := ys) (foldF_num hn (h y List.mem_cons_self)) fun z hz => h z (List.mem_cons_of_mem _ hz)
theorem groupS_snoc {m x r : Int} {gs : List (Int × List Int)} {xs : List Int} : groupS m (gs ++ [(r, xs)]) x = if r = x % m then gs ++ [(r, xs ++ [x])] else (gs ++ [(r, xs)]) ++ [(x % m, [x])] := by
  unfold groupS
  simp only [List.getLast?_concat, List.dropLast_concat]
theorem grD_can (g : Int × List Int) : (grD g).canLay0 = true := by
  show (true && (PyData.canLayAll0 (g.2.map PyData.int) && true)) = true
  rw [ints_can]
  rfl
theorem grD_dep (g : Int × List Int) : (grD g).depth ≤ 2 := by
  have := depAll (f := PyData.int) (n := 0) (fun _ => Nat.le_refl _) g.2
  show max 0 (max (PyData.depthAll (g.2.map PyData.int) + 1) 0) + 1 ≤ 2
  omega
theorem grs_shaped (gs : List (Int × List Int)) : SeqAt.shaped (.list (gs.map grD)) = true := by
  have h1 := depAll grD_dep gs
  show ((PyData.canLayAll0 (gs.map grD)) && decide (PyData.depthAll (gs.map grD) + 1 ≤ 64)) = true
  rw [canAll grD_can, Bool.true_and]
  exact decide_eq_true (by omega)
theorem group_take {m : Int} {ns : List Int} {i : Nat} {x : Int} (h : ns[i]? = some x) : groupI m (ns.take (i + 1)) = groupS m (groupI m (ns.take i)) x := by
  unfold groupI
  rw [take_succ h, List.foldl_append]
  rfl
theorem group_len (m : Int) (ns : List Int) : (groupI m ns).length ≤ ns.length ∧ ∀ g ∈ groupI m ns, g.2.length ≤ ns.length := by
  have step : ∀ i, i ≤ ns.length → (groupI m (ns.take i)).length ≤ i ∧ ∀ g ∈ groupI m (ns.take i), g.2.length ≤ i := by
    intro i
    induction i with
    | zero => intro _; exact ⟨Nat.le_refl _, fun g hg => by cases hg⟩
    | succ i ih =>
      intro hi
      obtain ⟨h1, h2⟩ := ih (by omega)
      have hx : ns[i]? = some ns[i] := List.getElem?_eq_getElem (by omega)
      rw [group_take hx]
      rcases List.eq_nil_or_concat (groupI m (ns.take i)) with e | ⟨gs, ⟨r, xs⟩, e⟩
      · rw [e]
        refine ⟨by show 1 ≤ i + 1; omega, fun g hg => ?_⟩
        have hg : g ∈ [(ns[i] % m, [ns[i]])] := hg
        rw [List.mem_singleton.mp hg]
        show 1 ≤ i + 1
        omega
      · rw [List.concat_eq_append] at e
        rw [e] at h1 h2 ⊢
        rw [groupS_snoc]
        rw [List.length_append] at h1
        have hl : ([(r, xs)] : List (Int × List Int)).length = 1 := rfl
        split
        · refine ⟨by rw [List.length_append]; simp; omega, fun g hg => ?_⟩
          rcases List.mem_append.mp hg with hg | hg
          · have := h2 g (List.mem_append.mpr (.inl hg)); omega
          · rw [List.mem_singleton.mp hg]
            have h3 : xs.length ≤ i := h2 (r, xs) (List.mem_append.mpr (.inr (List.mem_singleton.mpr rfl)))
            show (xs ++ [_]).length ≤ i + 1
            rw [List.length_append]
            simp
            omega
        · refine ⟨by rw [List.length_append, List.length_append]; simp; omega, fun g hg => ?_⟩
          rcases List.mem_append.mp hg with hg | hg
          · have := h2 g hg; omega
          · rw [List.mem_singleton.mp hg]
            show 1 ≤ i + 1
            omega
  have := step ns.length (Nat.le_refl _)
  rw [List.take_length] at this
  exact this
theorem lst_ty {K : PySem.W.Frag} {H : Hp} {l : Addr} {xs : List V} (h : H l = some (.lst xs)) : tyV K "list" (.ref l) H := Or.inl ⟨rfl, _, SqL.of h⟩
theorem acc_raw {K : PySem.W.Frag} {H : Hp} {p : Addr} {ns : List Int} (h : Acc K H p (ns.map PyData.int)) : H p = some (.lst (ns.map V.int)) := by
  obtain ⟨xs, e, i⟩ := h
  rw [Ims.of_ints _ i] at e
  exact e
theorem raw_acc {K : PySem.W.Frag} {H : Hp} {p : Addr} {ns : List Int} (h : H p = some (.lst (ns.map V.int))) : Acc K H p (ns.map PyData.int) := ⟨_, h, Ims.ints _⟩
theorem ixN_int {n : Nat} {a : Int} (h0 : 0 ≤ a) (h1 : a < n) : ixN n a = some a.toNat := by
  unfold ixN
  rw [if_pos h0, if_pos h1]
/-- the loop of a comprehension's clause over zip -/
theorem loop_zip {K : PySem.W.Frag} {a b : Addr} {xs ys : List V} {B : (Hp → Prop) → V → Hp → Prop} {E : Hp → Prop} {H1 : Hp} (Pv : Nat → Hp → Prop) (h0 : Pv 0 H1) (hl : ∀ i H, Pv i H → SqL K H a xs ∧ SqL K H b ys)
    (hs : ∀ i x y T H H2, xs[i]? = some x → ys[i]? = some y → Pv i H → H T = none → Same H H2 → H2 T = some (.tup [x, y]) → B (Pv (i + 1)) (.ref T) H2) (hd : ∀ H, Pv (min xs.length ys.length) H → E H) :
    ∃ W : Nat → Nat → Hp → Prop, (∃ m, W 0 m H1) ∧ ∀ i m H, W i m H →
      ((Itz K a b).stop i H ∧ E H) ∨ ((Itz K a b).go i H ∧ ∃ Nx : Hp → Prop, (∀ H', Nx H' → ∃ m', m' < m ∧ W (i + 1) m' H') ∧ ∀ x H', (Itz K a b).yld i H x H' → B Nx x H') := by
  refine ⟨fun i m H => m = min xs.length ys.length - i ∧ i ≤ min xs.length ys.length ∧ Pv i H, ⟨min xs.length ys.length, by simp, Nat.zero_le _, h0⟩, ?_⟩
  rintro i m H ⟨rfl, hi, p⟩
  obtain ⟨qx, qy⟩ := hl i H p
  by_cases hlt : i < min xs.length ys.length
  · have hx : xs[i]? = some xs[i] := List.getElem?_eq_getElem (by omega)
    have hy : ys[i]? = some ys[i] := List.getElem?_eq_getElem (by omega)
    refine .inr ⟨⟨xs, ys, _, _, qx, qy, hx, hy⟩, Pv (i + 1), fun H' p' => ⟨min xs.length ys.length - (i + 1), by omega, rfl, hlt, p'⟩, fun v H' y => ?_⟩
    obtain ⟨T, x', y', rfl, hT, rfl, f1, f2⟩ := y
    exact hs i x' y' T H _ (f1 xs qx) (f2 ys qy) p hT (same_new hT) upd_same
  · have e : i = min xs.length ys.length := by omega
    subst e
    exact .inl ⟨⟨xs, ys, qx, qy, by omega⟩, hd H p⟩
/-- what a line gives of its one other's items, of its two others' -/
def oneD (l : Ln) (g : List PyData) : List PyData :=
  match l with
  | .map ds _ => g.map (doneAll ds)
  | .keep ts _ => g.filter (met ts)
  | .whil ts _ => g.takeWhile (met ts)
  | .take n _ => g.take n.toNat
  | .skip n _ => g.drop n.toNat
  | .group m _ => (groupI m (g.map toI)).map grD
  | .window n _ => windows n.toNat g
  | .fold f n _ => (foldI f n (g.map toI)).map PyData.int
  | _ => []
def twoD (l : Ln) (g h : List PyData) : List PyData :=
  match l with
  | .chain _ _ => g ++ h
  | .pair _ _ => List.zipWith (fun x y => .tuple [x, y]) g h
  | .merge _ _ => (mergeI (g.map toI) (h.map toI)).map PyData.int
  | _ => []
theorem listD_one {l : Ln} {a : Int} (e : l.names = [a]) (made : List (List PyData)) (lists : List (List Int)) : listD l made lists = oneD l (made.getD a.toNat []) := by
  cases l <;> first | (cases e; rfl) | exact absurd (congrArg List.length e) (by simp [Ln.names])
theorem listD_two {l : Ln} {a b : Int} (e : l.names = [a, b]) (made : List (List PyData)) (lists : List (List Int)) : listD l made lists = twoD l (made.getD a.toNat []) (made.getD b.toNat []) := by
  cases l <;> first | (cases e; rfl) | exact absurd (congrArg List.length e) (by simp [Ln.names])
/-- the stretches of a group in the making: tuples of a rest and a list -/
inductive GrH (K : PySem.W.Frag) (H : Hp) : List Addr → List Addr → List (Int × List Int) → Prop
  | nil : GrH K H [] [] []
  | cons {t l : Addr} {ts lw : List Addr} {g : Int × List Int} {gs : List (Int × List Int)} (ht : SqT K H t [.int g.1, .ref l]) (hl : Acc K H l (g.2.map PyData.int)) (r : GrH K H ts lw gs) : GrH K H (t :: ts) (l :: lw) (g :: gs)
section
variable {K : PySem.W.Frag} {H H' : Hp}
theorem GrH.len : ∀ {ts lw : List Addr} {gs : List (Int × List Int)}, GrH K H ts lw gs → ts.length = gs.length ∧ lw.length = gs.length
  | _, _, _, .nil => ⟨rfl, rfl⟩
  | _, _, _, .cons _ _ r => ⟨congrArg Nat.succ r.len.1, congrArg Nat.succ r.len.2⟩
theorem GrH.keep (tk : TK K H H') : ∀ {ts lw : List Addr} {gs : List (Int × List Int)}, GrH K H ts lw gs → (∀ a ∈ lw, ∀ xs, H a = some (.lst xs) → H' a = some (.lst xs)) → GrH K H' ts lw gs
  | _, _, _, .nil, _ => .nil
  | _, _, _, .cons h1 h2 t, e => .cons (tk.t _ _ h1) (h2.keep tk (e _ List.mem_cons_self)) (GrH.keep tk t fun a ha => e a (List.mem_cons_of_mem _ ha))
theorem GrH.same {ts lw : List Addr} {gs : List (Int × List Int)} (r : GrH K H ts lw gs) (s : Same H H') : GrH K H' ts lw gs := r.keep (same_tk s) fun a _ _ e => s _ _ e
theorem GrH.but {D : Addr} {ts lw : List Addr} {gs : List (Int × List Int)} (r : GrH K H ts lw gs) (s : But D H H') (t : TK K H H') (ne : D ∉ lw) : GrH K H' ts lw gs :=
  r.keep t fun a ha _ e => s _ _ (fun z => ne (z ▸ ha)) e
theorem GrH.snoc {t l : Addr} {g : Int × List Int} (ht : SqT K H t [.int g.1, .ref l]) (hl : Acc K H l (g.2.map PyData.int)) : ∀ {ts lw : List Addr} {gs : List (Int × List Int)}, GrH K H ts lw gs → GrH K H (ts ++ [t]) (lw ++ [l]) (gs ++ [g])
  | _, _, _, .nil => .cons ht hl .nil
  | _, _, _, .cons h1 h2 r => .cons h1 h2 (GrH.snoc ht hl r)
theorem GrH.unsnoc : ∀ {ts lw : List Addr} {gs : List (Int × List Int)} {g : Int × List Int}, GrH K H ts lw (gs ++ [g]) → ∃ ts' lw' t l, ts = ts' ++ [t] ∧ lw = lw' ++ [l] ∧ GrH K H ts' lw' gs ∧ SqT K H t [.int g.1, .ref l] ∧ Acc K H l (g.2.map PyData.int)
  | _, _, [], g, h => by
    cases h with
    | cons h1 h2 r => cases r; exact ⟨[], [], _, _, rfl, rfl, .nil, h1, h2⟩
  | _, _, g0 :: gs, g, h => by
    cases h with
    | cons h1 h2 r =>
      obtain ⟨ts', lw', t, l, rfl, rfl, r', a, b⟩ := GrH.unsnoc (gs := gs) r
      exact ⟨_ :: ts', _ :: lw', t, l, rfl, rfl, .cons h1 h2 r', a, b⟩
theorem GrH.mem {ts lw : List Addr} {gs : List (Int × List Int)} (r : GrH K H ts lw gs) : ∀ a ∈ lw, ∃ xs, H a = some (.lst xs) := by
  induction r with
  | nil => intro a h; cases h
  | cons h1 h2 r ih =>
    intro a h
    rcases List.mem_cons.mp h with rfl | h
    · exact h2.at
    · exact ih a h
theorem GrH.get : ∀ {ts lw : List Addr} {gs : List (Int × List Int)} {i : Nat} {g : Int × List Int}, GrH K H ts lw gs → gs[i]? = some g → ∃ t l, ts[i]? = some t ∧ SqT K H t [.int g.1, .ref l] ∧ Acc K H l (g.2.map PyData.int)
  | _, _, _, i, _, .nil, e => by simp at e
  | _, _, _, 0, _, .cons h1 h2 _, e => by simp at e; subst e; exact ⟨_, _, rfl, h1, h2⟩
  | _, _, _, i + 1, g, .cons _ _ r, e => by
    obtain ⟨t, l, a, b, c⟩ := GrH.get (i := i) (g := g) r (by simpa using e)
    exact ⟨t, l, by simpa using a, b, c⟩
end
open PySem PySem.Spec PyProof.Rows L2
/-! ### how far two lines are needed -/
/-- one more item taken of the one or the other -/
def posS (A B : List Int) (p : Nat × Nat) : Nat × Nat :=
  if p.2 = B.length ∨ (p.1 < A.length ∧ A.getD p.1 0 ≤ B.getD p.2 0) then (p.1 + 1, p.2) else (p.1, p.2 + 1)
def posN (A B : List Int) : Nat → Nat × Nat
  | 0 => (0, 0)
  | k + 1 => posS A B (posN A B k)
theorem posN_ok (A B : List Int) : ∀ k, k ≤ A.length + B.length → (posN A B k).1 + (posN A B k).2 = k ∧ (posN A B k).1 ≤ A.length ∧ (posN A B k).2 ≤ B.length
  | 0, _ => ⟨rfl, Nat.zero_le _, Nat.zero_le _⟩
  | k + 1, h => by
    obtain ⟨h1, h2, h3⟩ := posN_ok A B k (by omega)
    show (posS A B (posN A B k)).1 + (posS A B (posN A B k)).2 = k + 1 ∧ (posS A B (posN A B k)).1 ≤ A.length ∧ (posS A B (posN A B k)).2 ≤ B.length
    unfold posS
    by_cases c : (posN A B k).2 = B.length ∨ ((posN A B k).1 < A.length ∧ A.getD (posN A B k).1 0 ≤ B.getD (posN A B k).2 0)
    · rw [if_pos c]
      refine ⟨by show _ + 1 + _ = k + 1; omega, ?_, h3⟩
      show (posN A B k).1 + 1 ≤ A.length
      rcases c with c | ⟨c, _⟩ <;> omega
    · rw [if_neg c]
      refine ⟨by show _ + (_ + 1) = k + 1; omega, h2, ?_⟩
      show (posN A B k).2 + 1 ≤ B.length
      have : ¬ (posN A B k).2 = B.length := fun z => c (.inl z)
      omega
def twoNeed (l : Ln) (A B : List PyData) (m : Int) : Int × Int :=
  match l with
  | .chain _ _ => (min m (A.length + 1), max 0 (m - A.length))
  | .pair _ _ => (m, m - if m > (A.length : Int) then 1 else 0)
  | _ => (((posN (A.map toI) (B.map toI) (m - 1).toNat).1 : Int) + 1, ((posN (A.map toI) (B.map toI) (m - 1).toNat).2 : Int) + 1)
/-- a line of two for which it is asked -/
def twoOk (l : Ln) (A B : List PyData) (m : Int) : Prop :=
  match l with
  | .chain _ _ => True
  | .pair _ _ => True
  | .merge _ _ => (∀ x ∈ A, Has .num x) ∧ (∀ x ∈ B, Has .num x) ∧ m ≤ A.length + B.length + 1
  | _ => False
section
variable {X : Cx}
theorem nuMin2_int (i j : Int) : nuMin2 (.int i) (.int j) = some (.int (min i j)) := by
  show some (if decide (j < i) = true then V.int j else .int i) = _
  by_cases c : j < i
  · rw [if_pos (decide_eq_true c), Int.min_eq_right (by omega)]
  · rw [if_neg (by rw [decide_eq_false c]; decide), Int.min_eq_left (by omega)]
def rMin3 : List V → Hp → VK → Prop := fun xs H Q => ∃ i j k, xs = [.int i, .int j, .int k] ∧ Q (.int (min (min i j) k)) H
theorem call_min3N (hc : X.calm = true) : CallR X (.builtin "min") rMin3 := CallR.imp (call_min3Nu hc) fun xs H Q q => by
  obtain ⟨i, j, k, rfl, q⟩ := q
  refine ⟨_, _, _, _, rfl, ?_, q⟩
  unfold nuMin3
  rw [nuMin2_int]
  exact nuMin2_int _ _
end
/-- the places, from 1, among the first i, of the items that do -/
def goodI (p : PyData → Bool) (row : List PyData) (i : Nat) : List Int := ((List.range i).filter fun j => p (row.getD j .none)).map fun (j : Nat) => (j : Int) + 1
theorem goodI_succ {p : PyData → Bool} {row : List PyData} {i : Nat} {x : PyData} (h : row[i]? = some x) : goodI p row (i + 1) = goodI p row i ++ if p x = true then [(i : Int) + 1] else [] := by
  unfold goodI
  have e : row.getD i .none = x := by rw [List.getD_eq_getElem?_getD, h]; rfl
  rw [List.range_succ, List.filter_append, List.map_append]
  cases c : p x
  · rw [List.filter_cons_of_neg (by rw [e, c]; decide)]; rfl
  · rw [List.filter_cons_of_pos (by rw [e, c])]; rfl
theorem goodI_len {p : PyData → Bool} {row : List PyData} : ∀ {i : Nat}, i ≤ row.length → (goodI p row i).length = ((row.take i).filter p).length
  | 0, _ => by simp [goodI]
  | i + 1, h => by
    have e : row[i]? = some row[i] := List.getElem?_eq_getElem h
    rw [goodI_succ e, List.take_add_one, e, List.filter_append, List.length_append, List.length_append, goodI_len (i := i) (by omega)]
    show _ + _ = _ + ([row[i]].filter p).length
    cases c : p row[i]
    · rw [List.filter_cons_of_neg (by rw [c]; decide)]; rfl
    · rw [List.filter_cons_of_pos c]; rfl
/-- how many items the first m groups hold -/
def heldI (gs : List (Int × List Int)) (m : Nat) : List Int := (gs.take m).map fun g => (g.2.length : Int)
def oneNeed (l : Ln) (items made : List PyData) (m : Int) : Int :=
  match l with
  | .take n _ => min (min m n) (items.length + 1)
  | .skip n _ => min (m + n) (items.length + 1)
  | .whil _ _ => m
  | .map _ _ => min (if (made.length : Int) < m then (items.length : Int) + 1 else m) (items.length + 1)
  | .fold _ _ _ => min (if (made.length : Int) < m then (items.length : Int) + 1 else m) (items.length + 1)
  | .keep ts _ => if (made.length : Int) < m then items.length + 1 else (goodI (met ts) items items.length).getD (m - 1).toNat 0
  | .group g _ => if (made.length : Int) < m then items.length + 1 else (heldI (groupI g (items.map toI)) m.toNat).sum + 1
  | .window n _ => if (made.length : Int) < m then items.length + 1 else m + n - 1
  | _ => 0
def oneOk (l : Ln) (items made : List PyData) : Prop :=
  match l with
  | .keep ts _ => made = items.filter (met ts) ∧ (∀ t ∈ ts, t.Ok) ∧ ∀ x ∈ items, Has .num x
  | .group g _ => made = (groupI g (items.map toI)).map grD
  | .take _ _ => True
  | .skip _ _ => True
  | .whil _ _ => True
  | .map _ _ => True
  | .fold _ _ _ => True
  | .window _ _ => True
  | _ => False
/-! ### the whole reckoning -/
theorem listD_congr {l : Ln} {m1 m2 : List (List PyData)} {lists : List (List Int)} (h : ∀ a ∈ l.names, m1.getD a.toNat [] = m2.getD a.toNat []) : listD l m1 lists = listD l m2 lists := by
  cases l <;> simp only [listD] <;> simp only [Ln.names, List.mem_cons, List.mem_nil_iff, or_false, forall_eq_or_imp, forall_eq] at h <;> simp only [h]
theorem plainD_app (lists : List (List Int)) : ∀ (ys xs : List Ln), ∃ zs, plainD (xs ++ ys) lists = plainD xs lists ++ zs
  | [], xs => ⟨[], by rw [List.append_nil, List.append_nil]⟩
  | y :: ys, xs => by
    obtain ⟨zs, h⟩ := plainD_app lists ys (xs ++ [y])
    rw [plainD_snoc, List.append_assoc, List.append_assoc] at h
    exact ⟨_, h⟩
theorem plain_at {ls : List Ln} {lists : List (List Int)} {i : Nat} {l : Ln} (h : ls[i]? = some l) (hn : ∀ a ∈ l.names, 0 ≤ a ∧ a < (i : Int)) : (plainD ls lists)[i]? = some (listD l (plainD ls lists) lists) := by
  have hi := (List.getElem?_eq_some_iff.mp h).1
  have e : ls = ls.take i ++ l :: ls.drop (i + 1) := by
    have e2 : ls.drop i = l :: ls.drop (i + 1) := by
      rw [List.drop_eq_getElem_cons hi]
      rw [List.getElem?_eq_getElem hi] at h
      rw [Option.some.inj h]
    rw [← e2, List.take_append_drop]
  obtain ⟨zs, ez⟩ := plainD_app lists (ls.drop (i + 1)) (ls.take i ++ [l])
  rw [List.append_assoc, List.singleton_append, ← e, plainD_snoc, List.append_assoc, List.singleton_append] at ez
  have pl : (plainD (ls.take i) lists).length = i := by rw [plainD_len, List.length_take]; omega
  have c : listD l (plainD ls lists) lists = listD l (plainD (ls.take i) lists) lists := listD_congr fun a ha => by
    obtain ⟨a0, a1⟩ := hn a ha
    rw [ez, List.getD_eq_getElem?_getD, List.getD_eq_getElem?_getD, List.getElem?_append_left (by omega)]
  rw [c]
  conv => lhs; rw [ez]
  rw [List.getElem?_append_right (by omega), pl, Nat.sub_self]
  rfl
/-- want x of the line a -/
def wantS (w : List Int) (a x : Int) : List Int := w.set a.toNat (max (w.getD a.toNat 0) x)
def startN (outs counts : List Int) (n : Nat) : Nat → List Int
  | 0 => List.replicate n 0
  | j + 1 => wantS (startN outs counts n j) (outs.getD j 0) (counts.getD j 0)
/-- one line, from behind -/
def backS (ls : List Ln) (made : List (List PyData)) (wf : List Int × List Int) (i : Nat) : List Int × List Int :=
  let m := min (wf.1.getD i 0) ((made.getD i []).length + 1)
  match ls[i]? with
  | some (.source k) => (wf.1, wf.2.set k.toNat m)
  | some l =>
    match l.names with
    | [a] => if 0 < m then (wantS wf.1 a (oneNeed l (made.getD a.toNat []) (made.getD i []) m), wf.2) else wf
    | [a, b] => if 0 < m then
        (wantS (wantS wf.1 a (twoNeed l (made.getD a.toNat []) (made.getD b.toNat []) m).1) b (twoNeed l (made.getD a.toNat []) (made.getD b.toNat []) m).2, wf.2) else wf
    | _ => wf
  | none => wf
def backN (ls : List Ln) (made : List (List PyData)) (wf : List Int × List Int) : Nat → List Int × List Int
  | 0 => wf
  | j + 1 => backS ls made (backN ls made wf j) (ls.length - 1 - j)
def needsD (ls : List Ln) (lists : List (List Int)) (outs counts : List Int) : List Int :=
  (backN ls (plainD ls lists) (startN outs counts ls.length outs.length, List.replicate lists.length 0) ls.length).2
theorem wantS_len {w : List Int} {a x : Int} : (wantS w a x).length = w.length := List.length_set
theorem startN_len {outs counts : List Int} {n : Nat} : ∀ j, (startN outs counts n j).length = n
  | 0 => List.length_replicate
  | j + 1 => wantS_len.trans (startN_len j)
theorem backS_len {ls : List Ln} {made : List (List PyData)} {wf : List Int × List Int} {i : Nat} : (backS ls made wf i).1.length = wf.1.length ∧ (backS ls made wf i).2.length = wf.2.length := by
  unfold backS
  dsimp only
  split
  · exact ⟨rfl, List.length_set⟩
  · split
    · split
      · exact ⟨wantS_len, rfl⟩
      · exact ⟨rfl, rfl⟩
    · split
      · exact ⟨wantS_len.trans wantS_len, rfl⟩
      · exact ⟨rfl, rfl⟩
    · exact ⟨rfl, rfl⟩
  · exact ⟨rfl, rfl⟩
theorem backN_len {ls : List Ln} {made : List (List PyData)} {wf : List Int × List Int} : ∀ j, (backN ls made wf j).1.length = wf.1.length ∧ (backN ls made wf j).2.length = wf.2.length
  | 0 => ⟨rfl, rfl⟩
  | j + 1 => ⟨backS_len.1.trans (backN_len j).1, backS_len.2.trans (backN_len j).2⟩
open PySem PySem.Spec PyProof.Rows L2
instance decNone (x : PyData) : Decidable (x = PyData.none) :=
  match x with
  | .none => isTrue rfl
  | .bool _ => isFalse fun h => nomatch h
  | .int _ => isFalse fun h => nomatch h
  | .str _ => isFalse fun h => nomatch h
  | .list _ => isFalse fun h => nomatch h
  | .tuple _ => isFalse fun h => nomatch h
  | .dict _ => isFalse fun h => nomatch h
/-! ### a run, as a machine of plain data: lines at work, places in them -/
/-- a place: of line i among its s-th named line's items, or of outlet j -/
inductive Pl where
  | at (i s : Nat) | out (j : Nat)
  deriving DecidableEq
/-- what a run is made of -/
structure Ct where
  ls : List Ln
  outs : List Nat
  lists : List (List Int)
/-- how it stands -/
structure Ms where
  made : Nat → List PyData
  hold : Nat → Int
  over : Nat → Bool
  loose : Nat → Bool
  str : Nat → List Int
  h0 : Nat → PyData
  h1 : Nat → PyData
  pos : Pl → Nat
  nexts : List Int
  asks : List Int
  left : List Int
  gone : Nat → Bool
def fset {α β : Type} [DecidableEq α] (f : α → β) (a : α) (b : β) : α → β := fun x => if x = a then b else f x
theorem fset_self {α β : Type} [DecidableEq α] {f : α → β} {a : α} {b : β} : fset f a b a = b := if_pos rfl
theorem fset_ne {α β : Type} [DecidableEq α] {f : α → β} {a x : α} {b : β} (h : x ≠ a) : fset f a b x = f x := if_neg h
def lnN (l : Ln) (s : Nat) : Nat := (l.names.getD s 0).toNat
def Ct.tgt (C : Ct) : Pl → Nat
  | .at i s => match C.ls[i]? with
    | some l => lnN l s
    | none => 0
  | .out j => C.outs.getD j 0
def Ms.push (S : Ms) (i : Nat) (d : PyData) : Ms := { S with made := fset S.made i (S.made i ++ [d]) }
def Ms.setHold (S : Ms) (i : Nat) (z : Int) : Ms := { S with hold := fset S.hold i z }
def Ms.setOver (S : Ms) (i : Nat) : Ms := { S with over := fset S.over i true }
def Ms.setLoose (S : Ms) (i : Nat) : Ms := { S with loose := fset S.loose i true }
def Ms.setStr (S : Ms) (i : Nat) (xs : List Int) : Ms := { S with str := fset S.str i xs }
def Ms.setH (S : Ms) (i s : Nat) (d : PyData) : Ms := if s = 0 then { S with h0 := fset S.h0 i d } else { S with h1 := fset S.h1 i d }
def Ms.hd (S : Ms) (i s : Nat) : PyData := if s = 0 then S.h0 i else S.h1 i
def Ms.setHH (S : Ms) (i : Nat) : Ms := { S with h0 := fset S.h0 i .none, h1 := fset S.h1 i .none }
def Ms.setPos (S : Ms) (p : Pl) (n : Nat) : Ms := { S with pos := fset S.pos p n }
def Ms.ask (S : Ms) (k : Int) : Ms := { S with asks := S.asks ++ [k] }
def Ms.adv (S : Ms) (k : Nat) (n : Int) : Ms := { S with nexts := S.nexts.set k n }
def Ms.leaveS (S : Ms) (k : Int) : Ms := { S with left := S.left ++ [k] }
def Ms.drop (S : Ms) (j : Nat) : Ms := { S with gone := fset S.gone j true }
/-- what has to hold for the code to be able to -/
noncomputable def gd {α : Type} (p : Prop) (x : Option α) : Option α := @ite _ p (Classical.propDecidable p) x none
theorem gd_some {α : Type} {p : Prop} {x : Option α} {y : α} (h : gd p x = some y) : p ∧ x = some y := by
  unfold gd at h
  split at h
  · exact ⟨by assumption, h⟩
  · cases h
theorem gd_pos {α : Type} {p : Prop} {x : Option α} (h : p) : gd p x = x := if_pos h
abbrev Pull := Pl → Ms → Option (PyData × Ms)
/-- a source is asked -/
noncomputable def askM (C : Ct) (k : Int) (S : Ms) : Option (PyData × Ms) :=
  let n := S.nexts.getD k.toNat 0
  let row := C.lists.getD k.toNat []
  gd (0 ≤ k ∧ k.toNat < S.nexts.length ∧ S.nexts.length = C.lists.length ∧ 0 ≤ n ∧ n ≤ row.length ∧ S.asks.length < 900000)
    (some (if n = (row.length : Int) then (.none, S.ask k) else (.int (row.getD n.toNat 0), (S.ask k).adv k.toNat (n + 1))))
/-- letting go, of a line, of a place -/
noncomputable def leaveW (C : Ct) (lg : Nat → Ms → Option Ms) (p : Pl) (S : Ms) : Option Ms :=
  let S1 := S.setHold (C.tgt p) (S.hold (C.tgt p) - 1)
  if S1.hold (C.tgt p) = 0 then lg (C.tgt p) S1 else some S1
def foldP (g : Nat → Ms → Option Ms) : List Nat → Ms → Option Ms
  | [], S => some S
  | s :: ss, S => match g s S with
    | none => none
    | some S1 => foldP g ss S1
noncomputable def letGoW (C : Ct) (lv : Pl → Ms → Option Ms) (i : Nat) (S : Ms) : Option Ms :=
  if S.loose i then some S
  else match C.ls[i]? with
    | none => none
    | some l => match foldP (fun s => lv (.at i s)) (List.range l.names.length) (S.setLoose i) with
      | none => none
      | some S1 => match l.src with
        | some k => gd (S1.left.length < 900000) (some (S1.leaveS k))
        | none => some S1
noncomputable def letGo (C : Ct) : Nat → Nat → Ms → Option Ms
  | 0 => fun _ _ => none
  | f + 1 => letGoW C (leaveW C (letGo C f))
noncomputable def leaveM (C : Ct) (f : Nat) : Pl → Ms → Option Ms := leaveW C (letGo C f)
def isI : PyData → Prop
  | .int _ => True
  | _ => False
/-! the loops of a step: at most so many turns -/
noncomputable def keepL (pl : Pull) (i : Nat) (ts : List Tst) : Nat → PyData → Ms → Option (PyData × Ms)
  | 0, _, _ => none
  | L + 1, x, S => if x = .none then some (x, S) else gd (isI x) (if met ts x then some (x, S) else match pl (.at i 0) S with
    | none => none
    | some (y, S1) => keepL pl i ts L y S1)
/-- true: A's end was found -/
noncomputable def skipL (pl : Pull) (i : Nat) (n : Int) : Nat → Ms → Option (Bool × Ms)
  | 0, _ => none
  | L + 1, S => if (S.pos (.at i 0) : Int) < n then match pl (.at i 0) S with
    | none => none
    | some (y, S1) => if y = .none then some (true, S1) else skipL pl i n L S1
    else some (false, S)
noncomputable def grpL (pl : Pull) (i : Nat) (m : Int) : Nat → PyData → Ms → Option (PyData × Ms)
  | 0, _, _ => none
  | L + 1, x, S => if x = .none then some (x, S)
    else gd (isI x) (if S.str i = [] ∨ toI x % m = (S.str i).getD 0 0 % m then gd ((S.str i).length < 90000) (match pl (.at i 0) (S.setStr i (S.str i ++ [toI x])) with
      | none => none
      | some (y, S1) => grpL pl i m L y S1)
    else some (x, S))
noncomputable def holdM (pl : Pull) (i s : Nat) (S : Ms) : Option (PyData × Ms) :=
  if S.hd i s = .none then match pl (.at i s) S with
    | none => none
    | some (y, S1) => some (y, S1.setH i s y)
  else some (S.hd i s, S)
/-- the next item of line l, the i-th -/
noncomputable def stepL (C : Ct) (pl : Pull) (L : Nat) (i : Nat) (S : Ms) : Ln → Option (PyData × Ms)
  | .source k => askM C k S
  | .map ds _ => match pl (.at i 0) S with
    | none => none
    | some (x, S1) => if x = .none then some (.none, S1) else gd (∃ ka k, Has ka x ∧ kindAll ds ka = some k) (some (doneAll ds x, S1))
  | .keep ts _ => match pl (.at i 0) S with
    | none => none
    | some (x, S1) => keepL pl i ts L x S1
  | .whil ts _ => match pl (.at i 0) S with
    | none => none
    | some (x, S1) => if x = .none then some (.none, S1) else gd (isI x) (if met ts x then some (x, S1) else some (.none, S1))
  | .take n _ => if ((S.made i).length : Int) = n then some (.none, S) else pl (.at i 0) S
  | .skip n _ => match skipL pl i n L S with
    | none => none
    | some (b, S1) => if b then some (.none, S1) else pl (.at i 0) S1
  | .group m _ => match pl (.at i 0) S with
    | none => none
    | some (x, S1) => match grpL pl i m L x S1 with
      | none => none
      | some (y, S2) => some (if S2.str i = [] then .none else grD ((S2.str i).getD 0 0 % m, S2.str i), S2.setStr i (if y = .none then [] else [toI y]))
  | .window n _ => match skipL pl i ((S.made i).length + n) L S with
    | none => none
    | some (b, S1) => if b then some (.none, S1) else some (.tuple (((S1.made (C.tgt (.at i 0))).take (S1.pos (.at i 0))).drop (S.made i).length), S1)
  | .fold f n _ => match pl (.at i 0) S with
    | none => none
    | some (x, S1) => if x = .none then some (.none, S1) else gd (Has .num x ∧ Has .num ((S1.made i).getLastD (.int n))) (some (.int (foldF f (toI ((S1.made i).getLastD (.int n))) (toI x)), S1))
  | .chain _ _ => match pl (.at i 0) S with
    | none => none
    | some (x, S1) => if x = .none then pl (.at i 1) S1 else some (x, S1)
  | .pair _ _ => match holdM pl i 0 S with
    | none => none
    | some (x, S1) => if x = .none then some (.none, S1) else match holdM pl i 1 S1 with
      | none => none
      | some (y, S2) => if y = .none then some (.none, S2) else some (.tuple [x, y], S2.setHH i)
  | .merge _ _ => match holdM pl i 0 S with
    | none => none
    | some (x, S1) => match holdM pl i 1 S1 with
      | none => none
      | some (y, S2) => gd ((x = .none ∨ isI x) ∧ (y = .none ∨ isI y)) (if x = .none ∨ (y ≠ .none ∧ toI y < toI x) then some (y, S2.setH i 1 .none) else some (x, S2.setH i 0 .none))
noncomputable def stepM (C : Ct) (pl : Pull) (L : Nat) (i : Nat) (S : Ms) : Option (PyData × Ms) :=
  match C.ls[i]? with
  | none => none
  | some l => stepL C pl L i S l
noncomputable def makeM (C : Ct) (pl : Pull) (L F : Nat) (i : Nat) (S : Ms) : Option Ms :=
  if S.over i then some S
  else match stepM C pl L i S with
    | none => none
    | some (x, S1) => if x = .none then letGo C F i (S1.setOver i) else gd ((S1.made i).length < 90000) (some (S1.push i x))
noncomputable def pullW (C : Ct) (mk : Nat → Ms → Option Ms) (p : Pl) (S : Ms) : Option (PyData × Ms) :=
  match (if S.pos p = (S.made (C.tgt p)).length then mk (C.tgt p) S else some S) with
  | none => none
  | some S1 => if S1.pos p = (S1.made (C.tgt p)).length then some (.none, S1) else gd (S1.pos p < (S1.made (C.tgt p)).length) (some ((S1.made (C.tgt p)).getD (S1.pos p) .none, S1.setPos p (S1.pos p + 1)))
/-- a pull, at most d lines deep -/
noncomputable def pullM (C : Ct) (L F : Nat) : Nat → Pull
  | 0 => fun _ _ => none
  | d + 1 => pullW C (makeM C (pullM C L F d) L F)
open PySem PySem.Spec PyProof.Rows L2
/-! ### what the top has of classes and tables -/
structure ClsAt (K : PySem.W.Frag) (mg : Str → Option Value) (x : Str) where
  C : Addr
  cl : Cls K C
  g : mg x = some (.ref C)
  makes : PySem.W.makesIn K C = true
  kp : PySem.W.keepIn K (.ref C) = true
structure MAt (K : PySem.W.Frag) {mg : Str → Option Value} {x : Str} (k : ClsAt K mg x) (m q : Str) (st : Stmt) (ps : List Str) where
  f : Addr
  fd : FuncData
  F : Fun K m q st f fd
  b : Binds K fd ps []
  h : Meth K k.C m f
theorem MAt.mk' {K : PySem.W.Frag} {mg : Str → Option Value} {x : Str} {k : ClsAt K mg x} {q : Str} {st : Stmt} {ps : List Str} (M : MAt K k "__init__" q st ps) : Mk K k.C M.f := ⟨k.makes, M.h.at_, M.h.fn, k.kp⟩
structure DictAt (K : PySem.W.Frag) (w : World) (mg : Str → Option Value) (x : Str) (kvs : List (Str × Addr)) where
  a : Addr
  g : mg x = some (.ref a)
  h : ∀ p ∈ kvs, KDct K w a p.1 (.ref p.2)
/-! ### the objects of a run -/
inductive Lab where
  | wk (i : Nat) | wp (i : Nat) | wm (i : Nat) | ws (i : Nat) | wh (i : Nat) | pl (p : Pl) | so | sl | sr (k : Nat) | sn | sa | sf | oo | ol | ru
  deriving DecidableEq
inductive Cell where
  | ho (o : HO) | acc (ds : List PyData)
def Cell.At (K : PySem.W.Frag) (H : Hp) (a : Addr) : Cell → Prop
  | .ho o => H a = some o
  | .acc ds => Acc K H a ds
/-- where the classes are -/
structure Cs where
  w : Addr
  p : Addr
  s : Addr
  o : Addr
  r : Addr
/-- where the objects are, what the lines are -/
structure Bk where
  ad : Lab → Addr
  dx : Lab → Addr
  lv : Nat → V
/-- .. those that are made anew on the way -/
structure Dy where
  s : Nat → Addr
  h : Nat → Addr
def adr (B : Bk) (y : Dy) : Lab → Addr
  | .ws i => y.s i
  | .wh i => y.h i
  | l => B.ad l
def wf (a b c d e f g h i : V) : List (Str × V) := [("line", a), ("places", b), ("sources", c), ("made", d), ("holders", e), ("over", f), ("loose", g), ("stretch", h), ("held", i)]
def pf (a b : V) : List (Str × V) := [("walk", a), ("at", b)]
def sff (n : Nat) (a b c d : V) : List (Str × V) := [("many", .int (n : Int)), ("left", d), ("lists", a), ("nexts", b), ("asks", c)]
def of (a : V) : List (Str × V) := [("outs", a)]
def rf (a b : V) : List (Str × V) := [("sources", a), ("outlets", b)]
def nPl (C : Ct) (i : Nat) : Nat := match C.ls[i]? with
  | some l => l.names.length
  | none => 0
def cont (X : Cs) (C : Ct) (B : Bk) (y : Dy) (S : Ms) : Lab → Cell
  | .wk i => .ho (.ins X.w (B.dx (.wk i)) (wf (B.lv i) (.ref (B.ad (.wp i))) (.ref (B.ad .so)) (.ref (B.ad (.wm i))) (.int (S.hold i)) (.bl (S.over i)) (.bl (S.loose i)) (.ref (y.s i)) (.ref (y.h i))))
  | .wp i => .ho (.lst ((List.range (nPl C i)).map fun s => .ref (B.ad (.pl (.at i s)))))
  | .wm i => .acc (S.made i)
  | .ws i => .acc ((S.str i).map PyData.int)
  | .wh i => .acc [S.h0 i, S.h1 i]
  | .pl p => .ho (.ins X.p (B.dx (.pl p)) (pf (.ref (B.ad (.wk (C.tgt p)))) (.int (S.pos p))))
  | .so => .ho (.ins X.s (B.dx .so) (sff C.lists.length (.ref (B.ad .sl)) (.ref (B.ad .sn)) (.ref (B.ad .sa)) (.ref (B.ad .sf))))
  | .sl => .ho (.lst ((List.range C.lists.length).map fun k => .ref (B.ad (.sr k))))
  | .sr k => .acc ((C.lists.getD k []).map PyData.int)
  | .sn => .acc (S.nexts.map PyData.int)
  | .sa => .acc (S.asks.map PyData.int)
  | .sf => .acc (S.left.map PyData.int)
  | .oo => .ho (.ins X.o (B.dx .oo) (of (.ref (B.ad .ol))))
  | .ol => .ho (.lst ((List.range C.outs.length).map fun j => if S.gone j = true then .non else .ref (B.ad (.pl (.out j)))))
  | .ru => .ho (.ins X.r (B.dx .ru) (rf (.ref (B.ad .so)) (.ref (B.ad .oo))))
/-- a part of a run stands in the heap -/
structure Rep (K : PySem.W.Frag) (X : Cs) (C : Ct) (B : Bk) (has : Lab → Prop) (y : Dy) (S : Ms) (H : Hp) : Prop where
  inj : ∀ l m, has l → has m → adr B y l = adr B y m → l = m
  at_ : ∀ l, has l → (cont X C B y S l).At K H (adr B y l)
  ln : ∀ i l, C.ls[i]? = some l → has (.wk i) → Im K H (B.lv i) l.d
/-- what else stood in the heap stands, apart from the run as before -/
structure Mv (K : PySem.W.Frag) (B : Bk) (has : Lab → Prop) (y : Dy) (H : Hp) (y' : Dy) (H' : Hp) : Prop where
  keep : ∀ b o, H b = some o → (∀ l, has l → adr B y l ≠ b) → H' b = some o ∧ ∀ l, has l → adr B y' l ≠ b
  tk : TK K H H'
section
variable {K : PySem.W.Frag} {X : Cs} {C : Ct} {B : Bk} {has : Lab → Prop} {y y' y1 : Dy} {S S' : Ms} {H H' H1 H2 : Hp}
theorem Mv.refl : Mv K B has y H y H := ⟨fun _ _ h n => ⟨h, n⟩, TK.refl⟩
theorem Mv.trans (a : Mv K B has y H y1 H1) (b : Mv K B has y1 H1 y' H') : Mv K B has y H y' H' :=
  ⟨fun c o h n => let ⟨h1, n1⟩ := a.keep c o h n; b.keep c o h1 n1, a.tk.trans b.tk⟩
theorem Mv.same (s : Same H H') : Mv K B has y H y H' := ⟨fun _ _ h n => ⟨s _ _ h, n⟩, same_tk s⟩
theorem cont_wr (l : Lab) : ∀ o, cont X C B y S l = .ho o → wr o = true := by
  intro o h
  cases l <;> first | (cases h; rfl) | cases h
theorem Rep.seen (R : Rep K X C B has y S H) {l : Lab} (h : has l) : ∃ o, H (adr B y l) = some o ∧ wr o = true := by
  have a := R.at_ l h
  cases e : cont X C B y S l with
  | ho o => rw [e] at a; exact ⟨o, a, cont_wr l o e⟩
  | acc ds => rw [e] at a; obtain ⟨xs, q⟩ := Acc.at a; exact ⟨_, q, rfl⟩
theorem Rep.ne_new (R : Rep K X C B has y S H) {l : Lab} (h : has l) {p : Addr} (n : H p = none) : adr B y l ≠ p := by
  obtain ⟨o, e, _⟩ := R.seen h
  exact ne_of_none e n
theorem Cell.same {c : Cell} {a : Addr} (h : c.At K H a) (s : Same H H') : c.At K H' a := by
  cases c with
  | ho o => exact s _ _ h
  | acc ds => exact Acc.same h s
theorem Cell.but {c : Cell} {a D : Addr} (h : c.At K H a) (s : But D H H') (t : TK K H H') (n : a ≠ D) : c.At K H' a := by
  cases c with
  | ho o => exact s _ _ n h
  | acc ds => exact Acc.but h s t n
theorem Rep.same (R : Rep K X C B has y S H) (s : Same H H') : Rep K X C B has y S H' :=
  ⟨R.inj, fun l h => Cell.same (R.at_ l h) s, fun i l h1 h2 => (R.ln i l h1 h2).u (same_tk s)⟩
/-- a write at one of its objects -/
theorem Rep.tkw (R : Rep K X C B has y S H) {l : Lab} (h : has l) (b : But (adr B y l) H H') : TK K H H' := by
  obtain ⟨o, e, w⟩ := R.seen h
  exact b.tkW e w
theorem Rep.write (R : Rep K X C B has y S H) {l : Lab} (h : has l) (b : But (adr B y l) H H') (c : (cont X C B y S' l).At K H' (adr B y l)) (sm : ∀ m, m ≠ l → cont X C B y S' m = cont X C B y S m) : Rep K X C B has y S' H' := by
  have t := R.tkw h b
  refine ⟨R.inj, fun m hm => ?_, fun i l h1 h2 => (R.ln i l h1 h2).u t⟩
  by_cases e : m = l
  · subst e; exact c
  · rw [sm m e]
    exact Cell.but (R.at_ m hm) b t fun z => e (R.inj m l hm h z)
theorem Rep.mvw (R : Rep K X C B has y S H) {l : Lab} (h : has l) (b : But (adr B y l) H H') : Mv K B has y H y H' :=
  ⟨fun c o e n => ⟨b c o (fun z => n l h z.symm) e, n⟩, R.tkw h b⟩
/-! what stands where -/
theorem Rep.wk (R : Rep K X C B has y S H) {i : Nat} (h : has (.wk i)) : H (B.ad (.wk i)) = some (.ins X.w (B.dx (.wk i)) (wf (B.lv i) (.ref (B.ad (.wp i))) (.ref (B.ad .so)) (.ref (B.ad (.wm i))) (.int (S.hold i)) (.bl (S.over i)) (.bl (S.loose i)) (.ref (y.s i)) (.ref (y.h i)))) := R.at_ _ h
theorem Rep.wp (R : Rep K X C B has y S H) {i : Nat} (h : has (.wp i)) : H (B.ad (.wp i)) = some (.lst ((List.range (nPl C i)).map fun s => .ref (B.ad (.pl (.at i s))))) := R.at_ _ h
theorem Rep.wm (R : Rep K X C B has y S H) {i : Nat} (h : has (.wm i)) : Acc K H (B.ad (.wm i)) (S.made i) := R.at_ _ h
theorem Rep.ws (R : Rep K X C B has y S H) {i : Nat} (h : has (.ws i)) : Acc K H (y.s i) ((S.str i).map PyData.int) := R.at_ _ h
theorem Rep.wh (R : Rep K X C B has y S H) {i : Nat} (h : has (.wh i)) : Acc K H (y.h i) [S.h0 i, S.h1 i] := R.at_ _ h
theorem Rep.pl (R : Rep K X C B has y S H) {p : Pl} (h : has (.pl p)) : H (B.ad (.pl p)) = some (.ins X.p (B.dx (.pl p)) (pf (.ref (B.ad (.wk (C.tgt p)))) (.int (S.pos p)))) := R.at_ _ h
theorem Rep.so (R : Rep K X C B has y S H) (h : has .so) : H (B.ad .so) = some (.ins X.s (B.dx .so) (sff C.lists.length (.ref (B.ad .sl)) (.ref (B.ad .sn)) (.ref (B.ad .sa)) (.ref (B.ad .sf)))) := R.at_ _ h
theorem Rep.sl (R : Rep K X C B has y S H) (h : has .sl) : H (B.ad .sl) = some (.lst ((List.range C.lists.length).map fun k => .ref (B.ad (.sr k)))) := R.at_ _ h
theorem Rep.sr (R : Rep K X C B has y S H) {k : Nat} (h : has (.sr k)) : Acc K H (B.ad (.sr k)) ((C.lists.getD k []).map PyData.int) := R.at_ _ h
theorem Rep.sn (R : Rep K X C B has y S H) (h : has .sn) : Acc K H (B.ad .sn) (S.nexts.map PyData.int) := R.at_ _ h
theorem Rep.sa (R : Rep K X C B has y S H) (h : has .sa) : Acc K H (B.ad .sa) (S.asks.map PyData.int) := R.at_ _ h
theorem Rep.sf (R : Rep K X C B has y S H) (h : has .sf) : Acc K H (B.ad .sf) (S.left.map PyData.int) := R.at_ _ h
theorem Rep.oo (R : Rep K X C B has y S H) (h : has .oo) : H (B.ad .oo) = some (.ins X.o (B.dx .oo) (of (.ref (B.ad .ol)))) := R.at_ _ h
theorem Rep.ol (R : Rep K X C B has y S H) (h : has .ol) : H (B.ad .ol) = some (.lst ((List.range C.outs.length).map fun j => if S.gone j = true then .non else .ref (B.ad (.pl (.out j))))) := R.at_ _ h
theorem Rep.ru (R : Rep K X C B has y S H) (h : has .ru) : H (B.ad .ru) = some (.ins X.r (B.dx .ru) (rf (.ref (B.ad .so)) (.ref (B.ad .oo)))) := R.at_ _ h
/-! what changes -/
theorem Rep.push (R : Rep K X C B has y S H) {i : Nat} {d : PyData} (h : has (.wm i)) (b : But (B.ad (.wm i)) H H') (a : Acc K H' (B.ad (.wm i)) (S.made i ++ [d])) : Rep K X C B has y (S.push i d) H' := by
  refine R.write h b ?_ fun m hm => ?_
  · show Acc K H' (B.ad (.wm i)) (fset S.made i (S.made i ++ [d]) i)
    rw [fset_self]; exact a
  · cases m with
    | wm j => exact congrArg Cell.acc (fset_ne fun z => hm (by rw [z]))
    | _ => rfl
theorem Rep.setHold (R : Rep K X C B has y S H) {i : Nat} {z : Int} (h : has (.wk i)) (b : But (B.ad (.wk i)) H H')
    (e : H' (B.ad (.wk i)) = some (.ins X.w (B.dx (.wk i)) (wf (B.lv i) (.ref (B.ad (.wp i))) (.ref (B.ad .so)) (.ref (B.ad (.wm i))) (.int z) (.bl (S.over i)) (.bl (S.loose i)) (.ref (y.s i)) (.ref (y.h i))))) : Rep K X C B has y (S.setHold i z) H' := by
  refine R.write h b ?_ fun m hm => ?_
  · show H' (B.ad (.wk i)) = some (.ins _ _ (wf _ _ _ _ (.int (fset S.hold i z i)) _ _ _ _))
    rw [fset_self]; exact e
  · cases m with
    | wk j =>
      show Cell.ho (.ins _ _ (wf _ _ _ _ (.int (fset S.hold i z j)) _ _ _ _)) = _
      rw [fset_ne fun z => hm (by rw [z])]; rfl
    | _ => rfl
theorem Rep.setOver (R : Rep K X C B has y S H) {i : Nat} (h : has (.wk i)) (b : But (B.ad (.wk i)) H H')
    (e : H' (B.ad (.wk i)) = some (.ins X.w (B.dx (.wk i)) (wf (B.lv i) (.ref (B.ad (.wp i))) (.ref (B.ad .so)) (.ref (B.ad (.wm i))) (.int (S.hold i)) (.bl true) (.bl (S.loose i)) (.ref (y.s i)) (.ref (y.h i))))) : Rep K X C B has y (S.setOver i) H' := by
  refine R.write h b ?_ fun m hm => ?_
  · show H' (B.ad (.wk i)) = some (.ins _ _ (wf _ _ _ _ _ (.bl (fset S.over i true i)) _ _ _))
    rw [fset_self]; exact e
  · cases m with
    | wk j =>
      show Cell.ho (.ins _ _ (wf _ _ _ _ _ (.bl (fset S.over i true j)) _ _ _)) = _
      rw [fset_ne fun z => hm (by rw [z])]; rfl
    | _ => rfl
theorem Rep.setLoose (R : Rep K X C B has y S H) {i : Nat} (h : has (.wk i)) (b : But (B.ad (.wk i)) H H')
    (e : H' (B.ad (.wk i)) = some (.ins X.w (B.dx (.wk i)) (wf (B.lv i) (.ref (B.ad (.wp i))) (.ref (B.ad .so)) (.ref (B.ad (.wm i))) (.int (S.hold i)) (.bl (S.over i)) (.bl true) (.ref (y.s i)) (.ref (y.h i))))) : Rep K X C B has y (S.setLoose i) H' := by
  refine R.write h b ?_ fun m hm => ?_
  · show H' (B.ad (.wk i)) = some (.ins _ _ (wf _ _ _ _ _ _ (.bl (fset S.loose i true i)) _ _))
    rw [fset_self]; exact e
  · cases m with
    | wk j =>
      show Cell.ho (.ins _ _ (wf _ _ _ _ _ _ (.bl (fset S.loose i true j)) _ _)) = _
      rw [fset_ne fun z => hm (by rw [z])]; rfl
    | _ => rfl
theorem Rep.setPos (R : Rep K X C B has y S H) {p : Pl} {n : Nat} (h : has (.pl p)) (b : But (B.ad (.pl p)) H H')
    (e : H' (B.ad (.pl p)) = some (.ins X.p (B.dx (.pl p)) (pf (.ref (B.ad (.wk (C.tgt p)))) (.int n)))) : Rep K X C B has y (S.setPos p n) H' := by
  refine R.write h b ?_ fun m hm => ?_
  · show H' (B.ad (.pl p)) = some (.ins _ _ (pf _ (.int ((fset S.pos p n p : Nat) : Int))))
    rw [fset_self]; exact e
  · cases m with
    | pl q =>
      show Cell.ho (.ins _ _ (pf _ (.int ((fset S.pos p n q : Nat) : Int)))) = _
      rw [fset_ne fun z => hm (by rw [z])]; rfl
    | _ => rfl
theorem Rep.ask (R : Rep K X C B has y S H) {k : Int} (h : has .sa) (b : But (B.ad .sa) H H') (a : Acc K H' (B.ad .sa) (S.asks.map PyData.int ++ [.int k])) : Rep K X C B has y (S.ask k) H' := by
  refine R.write h b ?_ fun m hm => ?_
  · show Acc K H' (B.ad .sa) ((S.asks ++ [k]).map PyData.int)
    rw [List.map_append]; exact a
  · cases m <;> first | rfl | exact absurd rfl hm
theorem Rep.adv (R : Rep K X C B has y S H) {k : Nat} {n : Int} (h : has .sn) (b : But (B.ad .sn) H H') (a : Acc K H' (B.ad .sn) ((S.nexts.set k n).map PyData.int)) : Rep K X C B has y (S.adv k n) H' := by
  refine R.write h b a fun m hm => ?_
  cases m <;> first | rfl | exact absurd rfl hm
theorem Rep.leaveS (R : Rep K X C B has y S H) {k : Int} (h : has .sf) (b : But (B.ad .sf) H H') (a : Acc K H' (B.ad .sf) (S.left.map PyData.int ++ [.int k])) : Rep K X C B has y (S.leaveS k) H' := by
  refine R.write h b ?_ fun m hm => ?_
  · show Acc K H' (B.ad .sf) ((S.left ++ [k]).map PyData.int)
    rw [List.map_append]; exact a
  · cases m <;> first | rfl | exact absurd rfl hm
theorem Rep.addStr (R : Rep K X C B has y S H) {i : Nat} {n : Int} (h : has (.ws i)) (b : But (y.s i) H H') (a : Acc K H' (y.s i) ((S.str i).map PyData.int ++ [.int n])) : Rep K X C B has y (S.setStr i (S.str i ++ [n])) H' := by
  refine R.write h b ?_ fun m hm => ?_
  · show Acc K H' (y.s i) ((fset S.str i (S.str i ++ [n]) i).map PyData.int)
    rw [fset_self, List.map_append]; exact a
  · cases m with
    | ws j =>
      show Cell.acc ((fset S.str i (S.str i ++ [n]) j).map PyData.int) = _
      rw [fset_ne fun z => hm (by rw [z])]; rfl
    | _ => rfl
theorem Rep.setH (R : Rep K X C B has y S H) {i s : Nat} {d : PyData} (h : has (.wh i)) (b : But (y.h i) H H') (a : Acc K H' (y.h i) (if s = 0 then [d, S.h1 i] else [S.h0 i, d])) : Rep K X C B has y (S.setH i s d) H' := by
  by_cases e : s = 0
  · rw [if_pos e] at a
    have es : S.setH i s d = { S with h0 := fset S.h0 i d } := if_pos e
    rw [es]
    refine R.write h b ?_ fun m hm => ?_
    · show Acc K H' (y.h i) [fset S.h0 i d i, S.h1 i]
      rw [fset_self]; exact a
    · cases m with
      | wh j =>
        show Cell.acc [fset S.h0 i d j, S.h1 j] = _
        rw [fset_ne fun z => hm (by rw [z])]; rfl
      | _ => rfl
  · rw [if_neg e] at a
    have es : S.setH i s d = { S with h1 := fset S.h1 i d } := if_neg e
    rw [es]
    refine R.write h b ?_ fun m hm => ?_
    · show Acc K H' (y.h i) [S.h0 i, fset S.h1 i d i]
      rw [fset_self]; exact a
    · cases m with
      | wh j =>
        show Cell.acc [S.h0 j, fset S.h1 i d j] = _
        rw [fset_ne fun z => hm (by rw [z])]; rfl
      | _ => rfl
theorem Rep.setGone (R : Rep K X C B has y S H) {j : Nat} (h : has .ol) (b : But (B.ad .ol) H H')
    (e : H' (B.ad .ol) = some (.lst (((List.range C.outs.length).map fun j => if S.gone j = true then V.non else .ref (B.ad (.pl (.out j)))).set j .non))) : Rep K X C B has y (S.drop j) H' := by
  refine R.write h b ?_ fun m hm => ?_
  · show H' (B.ad .ol) = some (.lst ((List.range C.outs.length).map fun k => if fset S.gone j true k = true then .non else .ref (B.ad (.pl (.out k)))))
    rw [e]
    congr 2
    apply List.ext_getElem?
    intro k
    rw [List.getElem?_set]
    simp only [List.getElem?_map, List.length_map, List.length_range]
    by_cases c : j = k
    · subst c
      rw [if_pos rfl]
      by_cases c2 : j < C.outs.length
      · rw [if_pos c2, List.getElem?_range c2]
        simp only [Option.map_some]
        rw [fset_self, if_pos rfl]
      · rw [if_neg c2, List.getElem?_eq_none (by rw [List.length_range]; omega)]
        rfl
    · rw [if_neg c]
      by_cases c2 : k < C.outs.length
      · rw [List.getElem?_range c2]
        simp only [Option.map_some]
        rw [fset_ne (fun z => c z.symm)]
      · rw [List.getElem?_eq_none (by rw [List.length_range]; omega)]
        rfl
  · cases m <;> first | rfl | exact absurd rfl hm
/-- a new list of a stretch -/
theorem Rep.newStr (R : Rep K X C B has y S H) {i : Nat} {q : Addr} {xs : List Int} (h : has (.wk i)) (hs : has (.ws i)) (n : H q = none) (s : Same H H1) (a : Acc K H1 q (xs.map PyData.int)) (b : But (B.ad (.wk i)) H1 H2)
    (e : H2 (B.ad (.wk i)) = some (.ins X.w (B.dx (.wk i)) (wf (B.lv i) (.ref (B.ad (.wp i))) (.ref (B.ad .so)) (.ref (B.ad (.wm i))) (.int (S.hold i)) (.bl (S.over i)) (.bl (S.loose i)) (.ref q) (.ref (y.h i))))) :
    Rep K X C B has { y with s := fset y.s i q } (S.setStr i xs) H2 ∧ Mv K B has y H { y with s := fset y.s i q } H2 := by
  have t1 := same_tk (K := K) s
  have R1 := R.same s
  have t2 : TK K H1 H2 := R1.tkw h b
  have qn : ∀ l, has l → adr B y l ≠ q := fun l hl => R.ne_new hl n
  have ae : ∀ l, l ≠ .ws i → adr B { y with s := fset y.s i q } l = adr B y l := fun l hl => by
    cases l with
    | ws j => exact fset_ne fun z => hl (by rw [z])
    | _ => rfl
  have ai : adr B { y with s := fset y.s i q } (.ws i) = q := fset_self
  have ne : q ≠ B.ad (.wk i) := fun z => qn _ h z.symm
  refine ⟨⟨fun l m hl hm z => ?_, fun m hm => ?_, fun j l h1 h2 => ((R.ln j l h1 h2).u t1).u t2⟩, ⟨fun c o e0 hn => ⟨b c o (fun z => hn _ h z.symm) (s _ _ e0), fun l hl => ?_⟩, t1.trans t2⟩⟩
  · by_cases e1 : l = .ws i
    · by_cases e2 : m = .ws i
      · rw [e1, e2]
      · rw [e1, ai, ae m e2] at z
        exact absurd z.symm (qn m hm)
    · by_cases e2 : m = .ws i
      · rw [e2, ai, ae l e1] at z
        exact absurd z (qn l hl)
      · rw [ae l e1, ae m e2] at z
        exact R.inj l m hl hm z
  · by_cases e1 : m = .ws i
    · subst e1
      rw [ai]
      show Acc K H2 q ((fset S.str i xs i).map PyData.int)
      rw [fset_self]
      exact a.but b t2 ne
    · rw [ae m e1]
      by_cases e2 : m = .wk i
      · subst e2
        show H2 (B.ad (.wk i)) = some (.ins _ _ (wf _ _ _ _ _ _ _ (.ref (fset y.s i q i)) _))
        rw [fset_self]; exact e
      · have c : cont X C B { y with s := fset y.s i q } (S.setStr i xs) m = cont X C B y S m := by
          cases m with
          | wk j =>
            show Cell.ho (.ins _ _ (wf _ _ _ _ _ _ _ (.ref (fset y.s i q j)) _)) = _
            rw [fset_ne fun z => e2 (by rw [z])]; rfl
          | ws j =>
            show Cell.acc ((fset S.str i xs j).map PyData.int) = _
            rw [fset_ne fun z => e1 (by rw [z])]; rfl
          | _ => rfl
        rw [c]
        exact Cell.but (R1.at_ m hm) b t2 fun z => e2 (R.inj m (.wk i) hm h z)
  · by_cases e1 : l = .ws i
    · rw [e1, ai]
      exact (ne_of_none e0 n).symm
    · rw [ae l e1]
      exact hn l hl
/-- a new list of what is held -/
theorem Rep.newHeld (R : Rep K X C B has y S H) {i : Nat} {q : Addr} (h : has (.wk i)) (hs : has (.wh i)) (n : H q = none) (s : Same H H1) (a : Acc K H1 q [.none, .none]) (b : But (B.ad (.wk i)) H1 H2)
    (e : H2 (B.ad (.wk i)) = some (.ins X.w (B.dx (.wk i)) (wf (B.lv i) (.ref (B.ad (.wp i))) (.ref (B.ad .so)) (.ref (B.ad (.wm i))) (.int (S.hold i)) (.bl (S.over i)) (.bl (S.loose i)) (.ref (y.s i)) (.ref q)))) :
    Rep K X C B has { y with h := fset y.h i q } (S.setHH i) H2 ∧ Mv K B has y H { y with h := fset y.h i q } H2 := by
  have t1 := same_tk (K := K) s
  have R1 := R.same s
  have t2 : TK K H1 H2 := R1.tkw h b
  have qn : ∀ l, has l → adr B y l ≠ q := fun l hl => R.ne_new hl n
  have ae : ∀ l, l ≠ .wh i → adr B { y with h := fset y.h i q } l = adr B y l := fun l hl => by
    cases l with
    | wh j => exact fset_ne fun z => hl (by rw [z])
    | _ => rfl
  have ai : adr B { y with h := fset y.h i q } (.wh i) = q := fset_self
  have ne : q ≠ B.ad (.wk i) := fun z => qn _ h z.symm
  refine ⟨⟨fun l m hl hm z => ?_, fun m hm => ?_, fun j l h1 h2 => ((R.ln j l h1 h2).u t1).u t2⟩, ⟨fun c o e0 hn => ⟨b c o (fun z => hn _ h z.symm) (s _ _ e0), fun l hl => ?_⟩, t1.trans t2⟩⟩
  · by_cases e1 : l = .wh i
    · by_cases e2 : m = .wh i
      · rw [e1, e2]
      · rw [e1, ai, ae m e2] at z
        exact absurd z.symm (qn m hm)
    · by_cases e2 : m = .wh i
      · rw [e2, ai, ae l e1] at z
        exact absurd z (qn l hl)
      · rw [ae l e1, ae m e2] at z
        exact R.inj l m hl hm z
  · by_cases e1 : m = .wh i
    · subst e1
      rw [ai]
      show Acc K H2 q [fset S.h0 i .none i, fset S.h1 i .none i]
      rw [fset_self, fset_self]
      exact a.but b t2 ne
    · rw [ae m e1]
      by_cases e2 : m = .wk i
      · subst e2
        show H2 (B.ad (.wk i)) = some (.ins _ _ (wf _ _ _ _ _ _ _ _ (.ref (fset y.h i q i))))
        rw [fset_self]; exact e
      · have c : cont X C B { y with h := fset y.h i q } (S.setHH i) m = cont X C B y S m := by
          cases m with
          | wk j =>
            show Cell.ho (.ins _ _ (wf _ _ _ _ _ _ _ _ (.ref (fset y.h i q j)))) = _
            rw [fset_ne fun z => e2 (by rw [z])]; rfl
          | wh j =>
            show Cell.acc [fset S.h0 i .none j, fset S.h1 i .none j] = _
            rw [fset_ne (fun z => e1 (by rw [z])), fset_ne (fun z => e1 (by rw [z]))]; rfl
          | _ => rfl
        rw [c]
        exact Cell.but (R1.at_ m hm) b t2 fun z => e2 (R.inj m (.wk i) hm h z)
  · by_cases e1 : l = .wh i
    · rw [e1, ai]
      exact (ne_of_none e0 n).symm
    · rw [ae l e1]
      exact hn l hl
end
/-- l[-1] and its like, of data -/
def rIxLN (K : PySem.W.Frag) : R2 := fun x y H Q => ∃ (l : Addr) (ds : List PyData) (i : Int) (j : Nat) (d : PyData), x = .ref l ∧ Acc K H l ds ∧ y = .int i ∧ ixN ds.length i = some j ∧ ds[j]? = some d ∧ ∀ v, Im K H v d → Q v H
theorem ix_listN {X : Cx} : IxR X (rIxLN X.K) := IxR.imp ix_list fun x y H Q q => by
  obtain ⟨l, ds, i, j, d, rfl, ⟨vs, e, im⟩, rfl, hi, hd, k⟩ := q
  obtain ⟨v, hv, iv⟩ := im.got hd
  refine ⟨l, vs, i, v, rfl, rfl, SqL.of e, ?_, k v iv⟩
  unfold atI
  rw [im.len, hi]
  exact hv
theorem cut_tk (ds : List PyData) (i j : Nat) : cutD ds (some (i : Int)) (some (j : Int)) = (ds.take j).drop i := by
  unfold cutD
  rw [HT.sIx_nat, HT.sIx_nat, List.drop_take]
  by_cases h1 : i ≤ ds.length
  · rw [Nat.min_eq_left h1]
    by_cases h2 : j ≤ ds.length
    · rw [Nat.min_eq_left h2]
    · rw [Nat.min_eq_right (by omega), List.take_of_length_le (by rw [List.length_drop]; omega), List.take_of_length_le (by rw [List.length_drop]; omega)]
  · rw [Nat.min_eq_right (show ds.length ≤ i by omega), List.drop_length, List.drop_eq_nil_of_le (show ds.length ≤ i by omega)]
    simp
theorem acc_emp {K : PySem.W.Frag} {H : Hp} {l : Addr} {ds : List PyData} (h : Acc K H l ds) : ∃ xs, SqL K H l xs ∧ (!xs.isEmpty) = !ds.isEmpty := by
  obtain ⟨xs, e, i⟩ := h
  refine ⟨xs, SqL.of e, ?_⟩
  cases i <;> rfl
theorem im_emp {K : PySem.W.Frag} {H : Hp} {v : V} {ds : List PyData} (h : Im K H v (.tuple ds)) : TruV K v H (!ds.isEmpty) := by
  obtain ⟨a, xs, rfl, ht, hs⟩ := h.t
  refine .inr (.inl ⟨xs, ht, ?_⟩)
  cases hs <;> rfl
/-! ### what the calls within a run promise -/
structure Core (C : Ct) (has : Lab → Prop) : Prop where
  w : ∀ i, i < C.ls.length → has (.wk i) ∧ has (.wp i) ∧ has (.wm i) ∧ has (.ws i) ∧ has (.wh i)
  p : ∀ i s, i < C.ls.length → s < nPl C i → has (.pl (.at i s))
  so : has .so
  sl : has .sl
  sr : ∀ k, k < C.lists.length → has (.sr k)
  sn : has .sn
  sa : has .sa
  sf : has .sf
theorem im_ne {K : PySem.W.Frag} {H : Hp} {v : V} {d : PyData} (h : Im K H v d) (c : ¬ d = .none) : ¬ v = .non := by
  intro e
  subst e
  cases h
  exact c rfl
structure CtOk (C : Ct) : Prop where
  num : ∀ (i : Nat) (l : Ln), C.ls[i]? = some l → numOk l = true
  nm : ∀ (i : Nat) (l : Ln) (a : Int), C.ls[i]? = some l → a ∈ l.names → 0 ≤ a ∧ a < (i : Int)
  l24 : C.ls.length ≤ 1000
theorem nPl_of {C : Ct} {i : Nat} {l : Ln} (h : C.ls[i]? = some l) : nPl C i = l.names.length := by
  unfold nPl
  rw [h]
theorem CtOk.tgt {C : Ct} (ok : CtOk C) {i s : Nat} {l : Ln} (h : C.ls[i]? = some l) (hs : s < l.names.length) : C.tgt (.at i s) < i := by
  have hl := (List.getElem?_eq_some_iff.mp h).1
  have hm : l.names[s] ∈ l.names := List.getElem_mem hs
  obtain ⟨h1, h2⟩ := ok.nm i l _ h hm
  show (match C.ls[i]? with | some l => lnN l s | none => 0) < i
  rw [h]
  show (l.names.getD s 0).toNat < i
  rw [List.getD_eq_getElem?_getD, List.getElem?_eq_getElem hs]
  show (l.names[s]).toNat < i
  omega
section
variable (K : PySem.W.Frag) (X : Cs) (C : Ct)
def spPull (pl : Pull) : Sp := fun vs H Q _ => ∃ (v : V), vs = [v] ∧ Hold (∃ (B : Bk) (has : Lab → Prop) (y : Dy) (S : Ms) (p : Pl) (d : PyData) (S' : Ms), v = .ref (B.ad (.pl p)) ∧ Core C has ∧ has (.pl p) ∧ C.tgt p < C.ls.length ∧ Rep K X C B has y S H ∧ pl p S = some (d, S') ∧
  ∀ u y' H', Mv K B has y H y' H' → Rep K X C B has y' S' H' → Im K H' u d → Q u H')
def spPulled (pl : Pull) : Sp := fun vs H Q _ => ∃ (v vs' : V), vs = [v, vs'] ∧ Hold (∃ (B : Bk) (has : Lab → Prop) (y : Dy) (S : Ms) (i s : Nat) (d : PyData) (S' : Ms), v = .ref (B.ad (.wk i)) ∧ vs' = .int (s : Int) ∧ Core C has ∧ i < C.ls.length ∧ s < nPl C i ∧ Rep K X C B has y S H ∧ pl (.at i s) S = some (d, S') ∧
  ∀ u y' H', Mv K B has y H y' H' → Rep K X C B has y' S' H' → Im K H' u d → Q u H')
def spHolding (pl : Pull) : Sp := fun vs H Q _ => ∃ (v vs' : V), vs = [v, vs'] ∧ Hold (∃ (B : Bk) (has : Lab → Prop) (y : Dy) (S : Ms) (i s : Nat) (d : PyData) (S' : Ms), v = .ref (B.ad (.wk i)) ∧ vs' = .int (s : Int) ∧ s ≤ 1 ∧ Core C has ∧ i < C.ls.length ∧ s < nPl C i ∧ Rep K X C B has y S H ∧ holdM pl i s S = some (d, S') ∧
  ∀ u y' H', Mv K B has y H y' H' → Rep K X C B has y' S' H' → Im K H' u d → Q u H')
def spStep (pl : Pull) (L : Nat) (w : Ln → Prop) : Sp := fun vs H Q _ => ∃ (v : V), vs = [v] ∧ Hold (∃ (B : Bk) (has : Lab → Prop) (y : Dy) (S : Ms) (i : Nat) (l : Ln) (d : PyData) (S' : Ms), v = .ref (B.ad (.wk i)) ∧ Core C has ∧ C.ls[i]? = some l ∧ w l ∧ Rep K X C B has y S H ∧ stepL C pl L i S l = some (d, S') ∧
  ∀ u y' H', Mv K B has y H y' H' → Rep K X C B has y' S' H' → Im K H' u d → Q u H')
def spMake (mk : Nat → Ms → Option Ms) : Sp := fun vs H Q _ => ∃ (v : V), vs = [v] ∧ Hold (∃ (B : Bk) (has : Lab → Prop) (y : Dy) (S : Ms) (i : Nat) (S' : Ms), v = .ref (B.ad (.wk i)) ∧ Core C has ∧ i < C.ls.length ∧ Rep K X C B has y S H ∧ mk i S = some S' ∧
  ∀ y' H', Mv K B has y H y' H' → Rep K X C B has y' S' H' → Q .non H')
def spLeave (lv : Pl → Ms → Option Ms) : Sp := fun vs H Q _ => ∃ (v : V), vs = [v] ∧ Hold (∃ (B : Bk) (has : Lab → Prop) (y : Dy) (S : Ms) (p : Pl) (S' : Ms), v = .ref (B.ad (.pl p)) ∧ Core C has ∧ has (.pl p) ∧ C.tgt p < C.ls.length ∧ Rep K X C B has y S H ∧ lv p S = some S' ∧
  ∀ y' H', Mv K B has y H y' H' → Rep K X C B has y' S' H' → Q .non H')
def spAsk : Sp := fun vs H Q _ => ∃ (v vk : V), vs = [v, vk] ∧ Hold (∃ (B : Bk) (has : Lab → Prop) (y : Dy) (S : Ms) (k : Int) (d : PyData) (S' : Ms), v = .ref (B.ad .so) ∧ vk = .int k ∧ Core C has ∧ Rep K X C B has y S H ∧ askM C k S = some (d, S') ∧
  ∀ u y' H', Mv K B has y H y' H' → Rep K X C B has y' S' H' → Im K H' u d → Q u H')
def spLeaveS : Sp := fun vs H Q _ => ∃ (v vk : V), vs = [v, vk] ∧ Hold (∃ (B : Bk) (has : Lab → Prop) (y : Dy) (S : Ms) (k : Int), v = .ref (B.ad .so) ∧ vk = .int k ∧ Core C has ∧ Rep K X C B has y S H ∧ S.left.length < 900000 ∧
  ∀ y' H', Mv K B has y H y' H' → Rep K X C B has y' (S.leaveS k) H' → Q .non H')
end
/-! ### a whole run -/
def Full (C : Ct) : Lab → Prop
  | .wk i => i < C.ls.length
  | .wp i => i < C.ls.length
  | .wm i => i < C.ls.length
  | .ws i => i < C.ls.length
  | .wh i => i < C.ls.length
  | .pl (.at i s) => i < C.ls.length ∧ s < nPl C i
  | .pl (.out j) => j < C.outs.length
  | .sr k => k < C.lists.length
  | _ => True
theorem core_full (C : Ct) : Core C (Full C) := ⟨fun i h => ⟨h, h, h, h, h⟩, fun i s h1 h2 => ⟨h1, h2⟩, trivial, trivial, fun k h => h, trivial, trivial, trivial⟩
structure RunOk (C : Ct) : Prop where
  ct : CtOk C
  out : ∀ j, j < C.outs.length → C.outs.getD j 0 < C.ls.length
  o5 : C.outs.length ≤ 1000
  n1 : C.lists.length ≤ 1000
noncomputable abbrev PL (C : Ct) (L : Nat) : Pull := pullM C L 25 25
section
variable (K : PySem.W.Frag) (X : Cs)
def spOutPlace : Sp := fun vs H Q _ => ∃ (v vj : V), vs = [v, vj] ∧ Hold (∃ (C : Ct) (B : Bk) (y : Dy) (S : Ms) (j : Nat), v = .ref (B.ad .oo) ∧ vj = .int (j : Int) ∧ j < C.outs.length ∧ S.gone j = false ∧ Rep K X C B (Full C) y S H ∧ Q (.ref (B.ad (.pl (.out j)))) H)
def spRunPull : Sp := fun vs H Q _ => ∃ (v vj : V), vs = [v, vj] ∧ Hold (∃ (C : Ct) (B : Bk) (y : Dy) (S : Ms) (j L : Nat) (d : PyData) (S' : Ms), v = .ref (B.ad .ru) ∧ vj = .int (j : Int) ∧ RunOk C ∧ j < C.outs.length ∧ S.gone j = false ∧ Rep K X C B (Full C) y S H ∧ PL C L (.out j) S = some (d, S') ∧
  ∀ u y' H', Mv K B (Full C) y H y' H' → Rep K X C B (Full C) y' S' H' → Im K H' u d → Q u H')
def spRunLet (la : Lab) : Sp := fun vs H Q _ => ∃ (v vj : V), vs = [v, vj] ∧ Hold (∃ (C : Ct) (B : Bk) (y : Dy) (S : Ms) (j : Nat) (S' : Ms), v = .ref (B.ad la) ∧ vj = .int (j : Int) ∧ RunOk C ∧ j < C.outs.length ∧ S.gone j = false ∧ Rep K X C B (Full C) y S H ∧ leaveM C 25 (.out j) (S.drop j) = some S' ∧
  ∀ y' H', Mv K B (Full C) y H y' H' → Rep K X C B (Full C) y' S' H' → Q .non H')
def spTold (f : Ms → List Int) : Sp := fun vs H Q _ => ∃ (v : V), vs = [v] ∧ Hold (∃ (C : Ct) (B : Bk) (y : Dy) (S : Ms), v = .ref (B.ad .ru) ∧ Rep K X C B (Full C) y S H ∧
  ∀ p H', H p = none → Same H H' → Acc K H' p ((f S).map PyData.int) → Q (.ref p) H')
end
open PySem PySem.Spec PyProof.Rows L2
/-! ### a method whose first row is super().__init__(..) -/
/-- what the top has of such a method f of the class C; g: the method that super() finds -/
structure SupF (P : Program) (K : PySem.W.Frag) (C f cc cda g : Addr) (name qual : Str) (st : Stmt) (fd : FuncData) : Prop where
  lk : ∃ (oc : Value) (od : Option Addr) (dV kV doc pm : Value) (an : Option Addr) (ct : Value) (sl : Array (Option Value)),
    K.lookup f = some ⟨oc, od, .func fd, sl⟩ ∧ fd = PySem.W.fnX name qual (defArgs st) (defBody st) (defScope st) [("__class__", cc)] dV kV doc pm an (.ref cda) ct
  cd : PySem.W.codeIn K (.ref cda) qual = true
  cell : ∃ (cl : Value) (cld : Option Addr) (csl : Array (Option Value)), K.lookup cc = some ⟨cl, cld, .cell (some (.ref C)), csl⟩
  code : ∃ (ccl : Value) (cdd : Option Addr) (vs : Array Value) (ccs : Array (Option Value)) (file : Str) (tf : Tok), K.lookup cda = some ⟨ccl, cdd, .fields vs, ccs⟩ ∧ vs[2]? = some (.str file tf) ∧ ((P.main.file : Str) == file) = true
  top : (P.main.scope.names.lookup ("super" : Str)).isSome = false
  cls : PySem.W.isClsIn K C = true
  sub : PySem.W.mroIn K C (.ref C) = some true
  op : PySem.W.nsIn K cStatics "thirdparty.any" = some none
  sup : PySem.W.ks_superIn K C C "__init__" = some (some (.ref g))
  ty : PySem.W.typeIn K (.ref g) = some (.type "function")
  fi : PySem.W.fnIn K g = true
abbrev supF (name qual : Str) (st : Stmt) (cc cda : Addr) : NdefX.NF := ⟨name, qual, defArgs st, defBody st, defScope st, [("__class__", cc)], cda⟩
abbrev supX (P : Program) (w : World) (K : PySem.W.Frag) (mg : Str → Option Value) (base : Heap) (N : List Str) (name qual : Str) (st : Stmt) (cc cda f : Addr) (A : Around) (outer : List Env) (s : Shared) (H : Hp) (E : XK) : Cx :=
  NdefX.ncx CX0 P w K mg base N (supF name qual st cc cda) f A outer s H E
section
variable {P : Program} {w : World} {K : PySem.W.Frag} {mg : Str → Option Value} {base : Heap}
theorem fn_super {k : Nat} {C f cc cda g : Addr} {name qual : Str} {st : Stmt} {fd : FuncData} {N ps : List Str} {sp sp2 : Sp} {rest : List Stmt} {p0 p1 apos cpos epos : Pos} {e : Expr} {es : List Expr} {ar : Arg}
    (SF : SupF P K C f cc cda g name qual st fd) (S : NdefX.NScope N ps ["__class__"] (defScope st))
    (hbd : defBody st = .Expr (.Call (.Attribute (.Call (.Name "super" p0) [] [] p1) "__init__" apos) (e :: es) [] cpos) epos :: rest)
    (har : ((defArgs st).posonlyargs ++ (defArgs st).args).head? = some ar) (hps : ps.head? = some ar.arg) (hms : mg "super" = none) (hks : (defScope st).names.lookup ("super" : Str) = some .globalImplicit)
    (F2 : FnR P w K mg base CX0 k g sp2) (len : ∀ vs H Q E, sp vs H Q E → vs.length = ps.length)
    (hin : ∀ L, interactive (NdefX.envF (supF name qual st cc cda) f L) = false)
    (hsw : ∀ L, swapsWith (.Call (.Attribute (.Call (.Name "super" p0) [] [] p1) "__init__" apos) (e :: es) [] cpos) none epos.line (NdefX.envF (supF name qual st cc cda) f L) = pure false)
    {pl : Addr → Sem Bool}
    (ht : ∀ L, eval (.Call (.Attribute (.Call (.Name "super" p0) [] [] p1) "__init__" apos) (e :: es) [] cpos) (NdefX.envF (supF name qual st cc cda) f L) = (do
      let ov ← attributeBase (.Call (.Name "super" p0) [] [] p1) "__init__" (NdefX.envF (supF name qual st cc cda) f L) (eval (.Call (.Name "super" p0) [] [] p1) (NdefX.envF (supF name qual st cc cda) f L))
      standAt apos.atName
      let (f', first) ← holding [ov] (getMethod ov "__init__" (pl L))
      callWith cpos f' first (backTo cpos (starEach (e :: es) (NdefX.envF (supF name qual st cc cda) f L))) []))
    (hst : ∀ L, starEach (e :: es) (NdefX.envF (supF name qual st cc cda) f L) = (false, eval e (NdefX.envF (supF name qual st cc cda) f L)) :: starEach es (NdefX.envF (supF name qual st cc cda) f L))
    (hpn : ∀ L, (backTo cpos (starEach es (NdefX.envF (supF name qual st cc cda) f L))).any (·.1) = false)
    (hbody : ∀ (A : Around) (outer : List Env) (s : Shared) (H : Hp) (vs : List V) (Q : VK) (E : XK), Room k (A.deeper (NdefX.envF (supF name qual st cc cda) f s.heap.objs.size)) → sp vs H Q E →
      ∃ (x dx : Addr) (fs : List (Str × V)) (rvs : List V) (t : TA) (u : TS), vs = .ref x :: rvs ∧ H x = some (.ins C dx fs) ∧ PA (supX P w K mg base N name qual st cc cda f A outer s H E) (e :: es) t ∧
        PSs (supX P w K mg base N name qual st cc cda f A outer s H E) rest u ∧
        t (NdefX.startF N vs [none]) H (fun ws H1 => sp2 (.ref x :: ws) H1 (fun _ H2 => u { nx := fun _ H' => Q .non H', rt := Q } (NdefX.startF N vs [none]) H2) E0)) :
    FnOk P w K mg base CX0 (k + 1) f fd ps sp := by
  refine ⟨len, fun A outer s H args us vs Q E hr e0 hb r hsp => ?_⟩
  have hl := len _ _ _ _ hsp
  have KX : K.In s.heap := e0.mod.kin.keeps fun b o e => (e0.bs b o e).1
  have lim : s.heap.NoLimit := e0.mod.nolimit.keeps fun b o e => (e0.bs b o e).1
  obtain ⟨oc, od, dV, kV, doc, pm, an, ct, sl, lk, rfl⟩ := SF.lk
  obtain ⟨cl, cld, csl, lcell⟩ := SF.cell
  obtain ⟨ccl, cdd, cvs, ccs, file, tf, lcode, hvs, hfile⟩ := SF.code
  obtain ⟨x, dx, fs, rvs, t, u, rfl, hx, hPA, hPS, hq⟩ := hbody A outer s H vs Q E (hr.deeper _) hsp
  refine ks_codeAny_call_defAt (binds := ps.zip us) hr.depth (KX _ _ lk) rfl lim (PySem.W.codeRec_of KX SF.cd) rfl hb S.nocell (fun ⟨n, _⟩ hy => S.par n (List.of_mem_zip hy).1) (fun h1 hns kp => ?_) S.co S.gen S.kind
  have kp2 : ∀ b o, s.heap.get? b = some o → h1.get? b = some o := kp
  have Hcc : H cc = none := (e0.bs cc _ (e0.mod.kin _ _ lcell)).2
  have CA : NdefX.CellsAt [("__class__", cc)] ["__class__"] [none] s.heap H := by
    refine ⟨rfl, fun y c e => ?_, fun y z c e1 e2 => ?_, fun i y e => ?_⟩
    · have hc : c = cc := by
        rw [List.lookup_cons] at e
        split at e
        · exact (Option.some.inj e).symm
        · cases e
      subst hc
      exact ⟨Hcc, _, _, KX _ _ lcell, rfl⟩
    · rw [List.lookup_cons] at e1 e2
      split at e1
      · split at e2
        · rename_i _ a1 _ a2
          rw [eq_of_beq a1, eq_of_beq a2]
        · cases e2
      · cases e1
    · cases i with
      | zero =>
        obtain rfl : "__class__" = y := Option.some.inj e
        exact ⟨cc, rfl, fun v hv => by cases hv⟩
      | succ i => simp at e
  have I : Inv (supX P w K mg base N name qual st cc cda f A outer s H E) [] (NdefX.startF N (.ref x :: rvs) [none]) H { s with heap := h1, toks := s.toks + (ps.zip us).length } := NdefX.inv_startN (F := supF name qual st cc cda) S hr.hd e0 hl r CA hns kp
  show _root_.PySem.wpAt _ _ (.func (defBody st) (NdefX.envF (supF name qual st cc cda) f s.heap.objs.size)) (execs (defBody st) (NdefX.envF (supF name qual st cc cda) f s.heap.objs.size)) _ _ _
  rw [hbd]
  refine ks_wpAt_execs_cons ?_
  refine ks_wpAt_Expr_any ?_ (hin _) (hsw _)
  refine ks_wpAt_MethodCall ?_ (ht _)
  refine ks_wpAt_super_base (env := NdefX.envF (supF name qual st cc cda) f s.heap.objs.size) hks ?_ (by decide +kernel) rfl (I.kIn _ _ lk) rfl har rfl (I.kIn _ _ lcode) rfl hvs hfile SF.top ?_
  · exact S.frk _ List.mem_cons_self
  obtain ⟨mb, hb1, hb2⟩ := I.mod.blt
  refine PySem.W.ks_loadName_global S.kind hks (Calls.loadGlobal_builtin (I.mod.glob.keeps I.bk) hms (hb1.keeps I.bk) ((hb2 "super" (by decide)).trans (by rfl : bootBuiltins "super" = some (.type "super"))) ⟨rfl, ?_⟩)
  refine wpAny_loadName_free S.kind (S.frk _ List.mem_cons_self) rfl ⟨_, I.kIn _ _ lcell, rfl⟩ ?_
  have hloc : ((ps.zip us).reverse.lookup ar.arg) = some (.ref x) := by
    cases r with
    | cons r1 r2 =>
      rename_i u0 us0
      obtain rfl : u0 = Value.ref x := r1
      have ndP : ps.Nodup := by
        have q : (ps ++ [("__class__" : Str)]).Nodup := by
          rw [← S.pre]
          exact S.nd.sublist (List.take_sublist _ _)
        exact (List.nodup_append.mp q).1
      exact NdefX.zip_look (i := 0) ndP (by rw [← hps, List.head?_eq_getElem?]) rfl
  have hself : (defScope st).names.lookup ar.arg = some .local := S.par _ (by
    cases ps with
    | nil => cases hps
    | cons a b => cases hps; exact List.mem_cons_self)
  refine wpAny_loadName_local S.kind hself hns hloc ?_
  obtain ⟨cd, hcd⟩ := Option.isSome_iff_exists.mp (show (PySem.W.clsIn K C).isSome = true from SF.cls)
  obtain ⟨oD, hD1, hD2⟩ : ∃ oD, h1.get? C = some oD ∧ oD.data = .cls cd := by
    have hD := hcd
    unfold PySem.W.clsIn at hD
    split at hD
    · rename_i c d cd' sl ho
      cases hD
      exact ⟨_, I.kIn _ _ ho, rfl⟩
    · cases hD
  refine ks_wpAny_isType_cls hD1 hD2 ⟨rfl, ?_⟩
  obtain ⟨_, _, _, hxo, _⟩ := I.hok x _ hx
  refine ks_wpAny_call_super hD1 hD2 hxo rfl (fun c z => nomatch z) (PySem.W.looks_mroIn I.kIn SF.sub) (fun h2 e2 k2 => ?_)
  have I2 := ClX.pin_new (h' := h2) (t' := s.toks + (ps.zip us).length) I k2 (Nat.le_refl _) e2 (fun v z => nomatch z)
  have I2h := I2.kIn
  obtain ⟨of_, hof, hofc⟩ : ∃ of_, h2.get? g = some of_ ∧ of_.cls = .type "function" := by
    have ht' : (K.lookup g).map (·.cls) = some (.type "function") := SF.ty
    cases z : K.lookup g with
    | none => rw [z] at ht'; cases ht'
    | some of_ => rw [z] at ht'; exact ⟨of_, I2h _ _ z, Option.some.inj ht'⟩
  have hsup := SF.sup
  unfold PySem.W.ks_superIn at hsup
  rw [hcd] at hsup
  have xC : x ≠ C := by
    rintro rfl
    rw [hxo] at hD1
    cases hD1
    cases hD2
  refine ks_wpAny_getMethod_super e2 (PySem.W.looks_opaque I2h SF.op) (l₀ := cd.mro) (fun A Q E s k q => wpAny_bind ((PySem.W.looks_clsIn I2h hcd) A _ E s k (wpAny_pure q))) rfl I2h hsup hof hofc xC (by decide +kernel) ?_
  have I3 := ClX.met_new (C := x) (g := g) I2
  refine ClX.callwith_cm (C := x) (g := g) I3 (ClX.base_none I2 (Nat.le_refl _)) SF.fi (thn (hPA.run cpos _ _ _ H _ I3 hq) fun us2 s3 ⟨ws, H2, I4, rv, q2⟩ => ⟨⟨ClX.pin_at I4, I4.kIn⟩, ?_⟩) (hst _) (hpn _)
  refine thn (ClX.run_cm F2 (hr.deeper _) pass0 I4 rv q2) fun v s4 ⟨v', H3, I5, rv', q3⟩ => ?_
  have I6 := I5.pins_of (pins' := []) fun p hp => (by cases hp)
  show _root_.PySem.wpAt _ _ _ (execs rest _) _ _ _
  refine wpAt_of_wpAny (wpAny_mono (hPS.run [] s4 _ H3 _ I6 q3) (fun fl s' hs => ?_) fun e s' hs => hs)
  have fin : ∀ {σ' : L2.St} {H' : Hp} {v : V} {u : Value}, Inv (supX P w K mg base N name qual st cc cda f A outer s H E) [] σ' H' s' → L2.RelV v u → Q v H' → CE outer P w H s Q u s' :=
    fun {σ' H' v u} J rv q => ⟨v, H', J.os, J.bare, J.base, J.hok, rv, q⟩
  cases fl with
  | ret u =>
    obtain ⟨v, σ', H', J, rv, q⟩ := hs
    exact fin J rv q
  | next =>
    obtain ⟨σ', H', J, q⟩ := hs
    exact fin (v := V.non) (u := Value.none) J rfl q
  | brk =>
    obtain ⟨_, _, _, q⟩ := hs
    exact False.elim q
  | cont =>
    obtain ⟨_, _, _, q⟩ := hs
    exact False.elim q
end
open PySem PySem.Spec PyProof.Rows L2
structure BAt (K : PySem.W.Frag) (m q : Str) (st : Stmt) (ps : List Str) where
  f : Addr
  fd : FuncData
  F : Fun K m q st f fd
  b : Binds K fd ps []
structure SAt (P : Program) (K : PySem.W.Frag) {mg : Str → Option Value} {x : Str} (k : ClsAt K mg x) (q : Str) (st : Stmt) (ps : List Str) (g : Addr) where
  f : Addr
  cc : Addr
  cda : Addr
  fd : FuncData
  F : SupF P K k.C f cc cda g "__init__" q st fd
  b : Binds K fd ps []
  h : Meth K k.C "__init__" f
theorem SAt.mk' {P : Program} {K : PySem.W.Frag} {mg : Str → Option Value} {x : Str} {k : ClsAt K mg x} {q : Str} {st : Stmt} {ps : List Str} {g : Addr} (M : SAt P K k q st ps g) : Mk K k.C M.f := ⟨k.makes, M.h.at_, M.h.fn, k.kp⟩
/-! ### how a run is made, as a machine -/
def S0 (C : Ct) : Ms := { made := fun _ => [], hold := fun _ => 0, over := fun _ => false, loose := fun _ => false, str := fun _ => [], h0 := fun _ => .none, h1 := fun _ => .none, pos := fun _ => 0, nexts := List.replicate C.lists.length 0, asks := [], left := [], gone := fun _ => false }
def addP (C : Ct) (S : Ms) (p : Pl) : Ms := S.setHold (C.tgt p) (S.hold (C.tgt p) + 1)
def addL (C : Ct) (S : Ms) (i : Nat) : Ms := (List.range (nPl C i)).foldl (fun S s => addP C S (.at i s)) S
def stL (C : Ct) (i : Nat) : Ms := (List.range i).foldl (addL C) (S0 C)
def stO (C : Ct) (j : Nat) : Ms := (List.range j).foldl (fun S j => addP C S (.out j)) (stL C C.ls.length)
noncomputable def looseL (C : Ct) : List Nat → Ms → Option Ms := foldP fun i S => if S.hold i = 0 then letGo C 25 i S else some S
def unnamed (C : Ct) : List Int := ((List.range C.lists.length).map fun (k : Nat) => (k : Int)).filter fun k => !decide (k ∈ srcs C.ls)
def insI (x : Int) : List Int → List Int
  | [] => [x]
  | y :: ys => if x ≤ y then x :: y :: ys else y :: insI x ys
def sortI : List Int → List Int
  | [] => []
  | x :: xs => insI x (sortI xs)
noncomputable def startM (C : Ct) : Option Ms := match looseL C (List.range C.ls.length) (stO C C.outs.length) with
  | none => none
  | some S => gd (S.left.length < 900000) (some { S with left := sortI (S.left ++ unnamed C) })
theorem stL_succ (C : Ct) (i : Nat) : stL C (i + 1) = addL C (stL C i) i := by
  unfold stL
  rw [List.range_succ, List.foldl_append]
  rfl
theorem stO_succ (C : Ct) (j : Nat) : stO C (j + 1) = addP C (stO C j) (.out j) := by
  unfold stO
  rw [List.range_succ, List.foldl_append]
  rfl
/-! ### new objects of a run -/
def uses (C : Ct) : Lab → Lab → Prop
  | .wk i, l => l = .wp i ∨ l = .so ∨ l = .wm i ∨ l = .ws i ∨ l = .wh i
  | .wp i, l => ∃ s, l = .pl (.at i s)
  | .pl p, l => l = .wk (C.tgt p)
  | .so, l => l = .sl ∨ l = .sn ∨ l = .sa ∨ l = .sf
  | .sl, l => ∃ k, l = .sr k
  | .oo, l => l = .ol
  | .ol, l => ∃ j, l = .pl (.out j)
  | .ru, l => l = .so ∨ l = .oo
  | _, _ => False
def Bk.set (B : Bk) (l : Lab) (p dx : Addr) : Bk := { B with ad := fset B.ad l p, dx := fset B.dx l dx }
def Dy.set (y : Dy) (l : Lab) (p : Addr) : Dy := match l with
  | .ws i => { y with s := fset y.s i p }
  | .wh i => { y with h := fset y.h i p }
  | _ => y
structure Mg (K : PySem.W.Frag) (B : Bk) (has : Lab → Prop) (y : Dy) (H : Hp) (B' : Bk) (has' : Lab → Prop) (y' : Dy) (H' : Hp) : Prop where
  keep : ∀ b o, H b = some o → (∀ l, has l → adr B y l ≠ b) → H' b = some o ∧ ∀ l, has' l → adr B' y' l ≠ b
  tk : TK K H H'
section
variable {K : PySem.W.Frag} {X : Cs} {C : Ct} {B B' B1 : Bk} {has has' has1 : Lab → Prop} {y y' y1 : Dy} {S S' : Ms} {H H' H1 H2 : Hp}
theorem adr_set_self {l : Lab} {p dx : Addr} : adr (B.set l p dx) (y.set l p) l = p := by
  cases l with
  | ws i => exact fset_self (f := y.s)
  | wh i => exact fset_self (f := y.h)
  | _ => first | exact fset_self (f := B.ad) | rfl
theorem adr_set_ne {l m : Lab} {p dx : Addr} (h : m ≠ l) : adr (B.set l p dx) (y.set l p) m = adr B y m := by
  cases m with
  | ws i =>
    cases l with
    | ws j => exact fset_ne fun z => h (by rw [z])
    | _ => rfl
  | wh i =>
    cases l with
    | wh j => exact fset_ne fun z => h (by rw [z])
    | _ => rfl
  | _ => exact fset_ne h
theorem ad_set_ne {l m : Lab} {p dx : Addr} (h : m ≠ l) : (B.set l p dx).ad m = B.ad m := fset_ne h
theorem ad_set_self {l : Lab} {p dx : Addr} : (B.set l p dx).ad l = p := fset_self
theorem dx_set_ne {l m : Lab} {p dx : Addr} (h : m ≠ l) : (B.set l p dx).dx m = B.dx m := fset_ne h
theorem ys_set_ne {l : Lab} {p : Addr} {i : Nat} (h : l ≠ .ws i) : (y.set l p).s i = y.s i := by
  cases l with
  | ws j => exact fset_ne fun z => h (by rw [z])
  | _ => rfl
theorem yh_set_ne {l : Lab} {p : Addr} {i : Nat} (h : l ≠ .wh i) : (y.set l p).h i = y.h i := by
  cases l with
  | wh j => exact fset_ne fun z => h (by rw [z])
  | _ => rfl
theorem cont_set {l m : Lab} {p dx : Addr} (h : m ≠ l) (u : ¬ uses C m l) : cont X C (B.set l p dx) (y.set l p) S m = cont X C B y S m := by
  cases m with
  | wk i =>
    have u : ¬ (l = .wp i ∨ l = .so ∨ l = .wm i ∨ l = .ws i ∨ l = .wh i) := u
    show Cell.ho (.ins X.w ((B.set l p dx).dx (.wk i)) (wf (B.lv i) (.ref ((B.set l p dx).ad (.wp i))) (.ref ((B.set l p dx).ad .so)) (.ref ((B.set l p dx).ad (.wm i))) (.int (S.hold i)) (.bl (S.over i)) (.bl (S.loose i)) (.ref ((y.set l p).s i)) (.ref ((y.set l p).h i)))) = _
    rw [dx_set_ne h, ad_set_ne (fun z => u (.inl z.symm)), ad_set_ne (fun z => u (.inr (.inl z.symm))), ad_set_ne (fun z => u (.inr (.inr (.inl z.symm)))), ys_set_ne (fun z => u (.inr (.inr (.inr (.inl z))))), yh_set_ne (fun z => u (.inr (.inr (.inr (.inr z)))))]
    rfl
  | wp i =>
    have u : ¬ ∃ s, l = .pl (.at i s) := u
    show Cell.ho (.lst ((List.range (nPl C i)).map fun s => .ref ((B.set l p dx).ad (.pl (.at i s))))) = _
    have e : (fun s => V.ref ((B.set l p dx).ad (.pl (.at i s)))) = fun s => V.ref (B.ad (.pl (.at i s))) := by
      funext s
      rw [ad_set_ne fun z => u ⟨s, z.symm⟩]
    rw [e]
    rfl
  | pl q =>
    have u : ¬ l = .wk (C.tgt q) := u
    show Cell.ho (.ins X.p ((B.set l p dx).dx (.pl q)) (pf (.ref ((B.set l p dx).ad (.wk (C.tgt q)))) (.int (S.pos q)))) = _
    rw [dx_set_ne h, ad_set_ne fun z => u z.symm]
    rfl
  | so =>
    have u : ¬ (l = .sl ∨ l = .sn ∨ l = .sa ∨ l = .sf) := u
    show Cell.ho (.ins X.s ((B.set l p dx).dx .so) (sff C.lists.length (.ref ((B.set l p dx).ad .sl)) (.ref ((B.set l p dx).ad .sn)) (.ref ((B.set l p dx).ad .sa)) (.ref ((B.set l p dx).ad .sf)))) = _
    rw [dx_set_ne h, ad_set_ne (fun z => u (.inl z.symm)), ad_set_ne (fun z => u (.inr (.inl z.symm))), ad_set_ne (fun z => u (.inr (.inr (.inl z.symm)))), ad_set_ne (fun z => u (.inr (.inr (.inr z.symm))))]
    rfl
  | sl =>
    have u : ¬ ∃ k, l = .sr k := u
    show Cell.ho (.lst ((List.range C.lists.length).map fun k => .ref ((B.set l p dx).ad (.sr k)))) = _
    have e : (fun k => V.ref ((B.set l p dx).ad (.sr k))) = fun k => V.ref (B.ad (.sr k)) := by
      funext s
      rw [ad_set_ne fun z => u ⟨s, z.symm⟩]
    rw [e]
    rfl
  | oo =>
    have u : ¬ l = .ol := u
    show Cell.ho (.ins X.o ((B.set l p dx).dx .oo) (of (.ref ((B.set l p dx).ad .ol)))) = _
    rw [dx_set_ne h, ad_set_ne fun z => u z.symm]
    rfl
  | ol =>
    have u : ¬ ∃ j, l = .pl (.out j) := u
    show Cell.ho (.lst ((List.range C.outs.length).map fun j => if S.gone j = true then V.non else .ref ((B.set l p dx).ad (.pl (.out j))))) = _
    have e : (fun j => if S.gone j = true then V.non else V.ref ((B.set l p dx).ad (.pl (.out j)))) = fun j => if S.gone j = true then V.non else V.ref (B.ad (.pl (.out j))) := by
      funext s
      rw [ad_set_ne fun z => u ⟨s, z.symm⟩]
    rw [e]
    rfl
  | ru =>
    have u : ¬ (l = .so ∨ l = .oo) := u
    show Cell.ho (.ins X.r ((B.set l p dx).dx .ru) (rf (.ref ((B.set l p dx).ad .so)) (.ref ((B.set l p dx).ad .oo)))) = _
    rw [dx_set_ne h, ad_set_ne (fun z => u (.inl z.symm)), ad_set_ne (fun z => u (.inr z.symm))]
    rfl
  | _ => rfl
/-- one more object -/
theorem Rep.grow {l : Lab} {p dx : Addr} (R : Rep K X C B has y S H) (nl : ¬ has l) (us : ∀ m, has m → ¬ uses C m l) (np : ∀ m, has m → adr B y m ≠ p) (c : (cont X C (B.set l p dx) (y.set l p) S l).At K H p)
    (hln : ∀ i, l = .wk i → ∀ ln, C.ls[i]? = some ln → Im K H (B.lv i) ln.d) : Rep K X C (B.set l p dx) (fun m => has m ∨ m = l) (y.set l p) S H := by
  have ne : ∀ m, has m → m ≠ l := fun m hm z => nl (z ▸ hm)
  refine ⟨fun m n hm hn z => ?_, fun m hm => ?_, fun i ln h1 h2 => ?_⟩
  · rcases hm with hm | rfl
    · rcases hn with hn | rfl
      · rw [adr_set_ne (ne m hm), adr_set_ne (ne n hn)] at z
        exact R.inj m n hm hn z
      · rw [adr_set_ne (ne m hm), adr_set_self] at z
        exact absurd z (np m hm)
    · rcases hn with hn | rfl
      · rw [adr_set_ne (ne n hn), adr_set_self] at z
        exact absurd z.symm (np n hn)
      · rfl
  · rcases hm with hm | rfl
    · rw [adr_set_ne (ne m hm), cont_set (ne m hm) (us m hm)]
      exact R.at_ m hm
    · rw [adr_set_self]
      exact c
  · rcases h2 with h2 | h2
    · exact R.ln i ln h1 h2
    · exact hln i h2.symm ln h1
theorem Rep.cong (R : Rep K X C B has y S H) (h : ∀ m, has' m → has m) : Rep K X C B has' y S H := ⟨fun l m hl hm z => R.inj l m (h l hl) (h m hm) z, fun l hl => R.at_ l (h l hl), fun i l h1 h2 => R.ln i l h1 (h _ h2)⟩
theorem Mg.trans (a : Mg K B has y H B1 has1 y1 H1) (b : Mg K B1 has1 y1 H1 B' has' y' H') : Mg K B has y H B' has' y' H' :=
  ⟨fun c o h n => let ⟨h1, n1⟩ := a.keep c o h n; b.keep c o h1 n1, a.tk.trans b.tk⟩
theorem Mg.cong (a : Mg K B has y H B' has1 y' H') (h : ∀ m, has' m → has1 m) : Mg K B has y H B' has' y' H' := ⟨fun c o e n => let ⟨h1, n1⟩ := a.keep c o e n; ⟨h1, fun l hl => n1 l (h l hl)⟩, a.tk⟩
theorem Mv.mg (a : Mv K B has y H y' H') : Mg K B has y H B has y' H' := ⟨a.keep, a.tk⟩
theorem Mg.refl : Mg K B has y H B has y H := ⟨fun _ _ h n => ⟨h, n⟩, TK.refl⟩
theorem Mg.same (s : Same H H') : Mg K B has y H B has y H' := ⟨fun _ _ h n => ⟨s _ _ h, n⟩, same_tk s⟩
/-- a new object at p, that was free at H, takes a label -/
theorem Mg.grow {l : Lab} {p dx : Addr} (a : Mg K B has y H B1 has1 y1 H1) (n : H p = none) (nl : ¬ has1 l) : Mg K B has y H (B1.set l p dx) (fun m => has1 m ∨ m = l) (y1.set l p) H1 := by
  refine ⟨fun b o e hn => ?_, a.tk⟩
  obtain ⟨h1, n1⟩ := a.keep b o e hn
  refine ⟨h1, fun m hm => ?_⟩
  rcases hm with hm | rfl
  · rw [adr_set_ne fun (z : m = l) => nl (z ▸ hm)]
    exact n1 m hm
  · rw [adr_set_self]
    exact (ne_of_none e n).symm
end
/-- what has been made when places up to the s-th of line i are -/
def HasI (C : Ct) (i s : Nat) : Lab → Prop
  | .wk j => j < i
  | .wp j => j < i
  | .wm j => j < i
  | .ws j => j < i
  | .wh j => j < i
  | .pl (.at j t) => (j < i ∧ t < nPl C j) ∨ (j = i ∧ t < s)
  | .pl (.out _) => False
  | .so => True
  | .sl => True
  | .sr k => k < C.lists.length
  | .sn => True
  | .sa => True
  | .sf => True
  | _ => False
/-- .. up to the j-th outlet's -/
def HasO (C : Ct) (j : Nat) : Lab → Prop
  | .pl (.out t) => t < j
  | l => HasI C C.ls.length 0 l
/-- .. all but the run itself -/
def HasR (C : Ct) : Lab → Prop
  | .ru => False
  | l => Full C l
theorem hasI_uses {C : Ct} (ok : CtOk C) {i s : Nat} {l : Lab} (hi : i < C.ls.length) (hs : s ≤ nPl C i) (hl : l = .pl (.at i s) ∨ l = .wk i ∨ l = .wp i ∨ l = .wm i ∨ l = .ws i ∨ l = .wh i) : ∀ m, HasI C i s m → ¬ uses C m l := by
  intro m hm hu
  cases m with
  | wk j =>
    have hm : j < i := hm
    have hu : l = .wp j ∨ l = .so ∨ l = .wm j ∨ l = .ws j ∨ l = .wh j := hu
    rcases hl with rfl | rfl | rfl | rfl | rfl | rfl <;> rcases hu with hu | hu | hu | hu | hu <;> cases hu <;> omega
  | wp j =>
    have hm : j < i := hm
    obtain ⟨t, hu⟩ := (show ∃ s, l = .pl (.at j s) from hu)
    rcases hl with rfl | rfl | rfl | rfl | rfl | rfl <;> cases hu <;> omega
  | pl q =>
    have hu : l = .wk (C.tgt q) := hu
    rcases hl with rfl | rfl | rfl | rfl | rfl | rfl <;> cases hu
    cases q with
    | out j => cases hm
    | «at» j t =>
      rcases hm with ⟨h1, h2⟩ | ⟨h1, h2⟩
      · have hj : j < C.ls.length := by omega
        have := ok.tgt (List.getElem?_eq_getElem hj) (s := t) (by rw [← nPl_of (List.getElem?_eq_getElem hj)]; exact h2)
        omega
      · rw [← h1] at hs
        have hj : j < C.ls.length := by omega
        have := ok.tgt (List.getElem?_eq_getElem hj) (s := t) (by rw [← nPl_of (List.getElem?_eq_getElem hj)]; omega)
        omega
  | so =>
    have hu : l = .sl ∨ l = .sn ∨ l = .sa ∨ l = .sf := hu
    rcases hl with rfl | rfl | rfl | rfl | rfl | rfl <;> rcases hu with hu | hu | hu | hu <;> cases hu
  | sl =>
    obtain ⟨t, hu⟩ := (show ∃ k, l = .sr k from hu)
    rcases hl with rfl | rfl | rfl | rfl | rfl | rfl <;> cases hu
  | oo => cases hm
  | ol => cases hm
  | ru => cases hm
  | _ => cases hu
theorem hasO_uses {C : Ct} {j : Nat} {l : Lab} (hl : l = .pl (.out j) ∨ l = .oo ∨ l = .ol) : ∀ m, HasO C j m → ¬ uses C m l := by
  intro m hm hu
  cases m with
  | wk j =>
    have hu : l = .wp j ∨ l = .so ∨ l = .wm j ∨ l = .ws j ∨ l = .wh j := hu
    rcases hl with rfl | rfl | rfl <;> rcases hu with hu | hu | hu | hu | hu <;> cases hu
  | wp j =>
    obtain ⟨t, hu⟩ := (show ∃ s, l = .pl (.at j s) from hu)
    rcases hl with rfl | rfl | rfl <;> cases hu
  | pl q =>
    have hu : l = .wk (C.tgt q) := hu
    rcases hl with rfl | rfl | rfl <;> cases hu
  | so =>
    have hu : l = .sl ∨ l = .sn ∨ l = .sa ∨ l = .sf := hu
    rcases hl with rfl | rfl | rfl <;> rcases hu with hu | hu | hu | hu <;> cases hu
  | sl =>
    obtain ⟨t, hu⟩ := (show ∃ k, l = .sr k from hu)
    rcases hl with rfl | rfl | rfl <;> cases hu
  | oo => cases hm
  | ol => cases hm
  | ru => cases hm
  | _ => cases hu
def Out (B : Bk) (has : Lab → Prop) (y : Dy) (b : Addr) : Prop := ∀ l, has l → adr B y l ≠ b
section
variable {K : PySem.W.Frag} {X : Cs} {C : Ct} {B B' B1 : Bk} {has has' has1 : Lab → Prop} {y y' y1 : Dy} {S S' : Ms} {H H' H1 H2 : Hp}
theorem Rep.out (R : Rep K X C B has y S H) {D : Addr} (o : Out B has y D) (b : But D H H') (t : TK K H H') : Rep K X C B has y S H' :=
  ⟨R.inj, fun l h => Cell.but (R.at_ l h) b t (o l h), fun i l h1 h2 => (R.ln i l h1 h2).u t⟩
theorem Rep.nout (R : Rep K X C B has y S H) {D : Addr} (n : H D = none) : Out B has y D := fun l h => R.ne_new h n
/-- a write to what is no part of it, nor was there at the beginning -/
theorem Mg.put {D : Addr} (a : Mg K B has y H B1 has1 y1 H1) (n : H D = none) (b : But D H1 H2) (t : TK K H1 H2) : Mg K B has y H B1 has1 y1 H2 :=
  ⟨fun c o e hn => let ⟨h1, n1⟩ := a.keep c o e hn; ⟨b c o (ne_of_none e n) h1, n1⟩, a.tk.trans t⟩
theorem stL_flat (C : Ct) (i : Nat) : (stL C i).made = (S0 C).made ∧ (stL C i).over = (S0 C).over ∧ (stL C i).loose = (S0 C).loose ∧ (stL C i).str = (S0 C).str ∧ (stL C i).h0 = (S0 C).h0 ∧ (stL C i).h1 = (S0 C).h1 ∧ (stL C i).pos = (S0 C).pos := by
  have ap : ∀ (S : Ms) (p : Pl), (addP C S p).made = S.made ∧ (addP C S p).over = S.over ∧ (addP C S p).loose = S.loose ∧ (addP C S p).str = S.str ∧ (addP C S p).h0 = S.h0 ∧ (addP C S p).h1 = S.h1 ∧ (addP C S p).pos = S.pos := fun S p => ⟨rfl, rfl, rfl, rfl, rfl, rfl, rfl⟩
  have al : ∀ (j : Nat) (xs : List Nat) (S : Ms), (xs.foldl (fun S s => addP C S (.at j s)) S).made = S.made ∧ (xs.foldl (fun S s => addP C S (.at j s)) S).over = S.over ∧ (xs.foldl (fun S s => addP C S (.at j s)) S).loose = S.loose ∧ (xs.foldl (fun S s => addP C S (.at j s)) S).str = S.str ∧ (xs.foldl (fun S s => addP C S (.at j s)) S).h0 = S.h0 ∧ (xs.foldl (fun S s => addP C S (.at j s)) S).h1 = S.h1 ∧ (xs.foldl (fun S s => addP C S (.at j s)) S).pos = S.pos := by
    intro j xs
    induction xs with
    | nil => intro S; exact ⟨rfl, rfl, rfl, rfl, rfl, rfl, rfl⟩
    | cons x xs ih => intro S; exact ih _
  induction i with
  | zero => exact ⟨rfl, rfl, rfl, rfl, rfl, rfl, rfl⟩
  | succ i ih =>
    rw [stL_succ]
    unfold addL
    obtain ⟨a1, a2, a3, a4, a5, a6, a7⟩ := al i (List.range (nPl C i)) (stL C i)
    obtain ⟨b1, b2, b3, b4, b5, b6, b7⟩ := ih
    exact ⟨a1.trans b1, a2.trans b2, a3.trans b3, a4.trans b4, a5.trans b5, a6.trans b6, a7.trans b7⟩
end
section
variable (K : PySem.W.Frag) (X : Cs)
def spSrcInit : Sp := fun vs H Q _ => ∃ (v v2 : V), vs = [v, v2] ∧ Hold (∃ (x dx pl : Addr) (al : List Addr) (lists : List (List Int)), v = .ref x ∧ v2 = .ref pl ∧ H x = some (.ins X.s dx []) ∧ LL K H pl al (intsD lists) ∧ lists.length ≤ 1000 ∧
  ∀ (sl sn sa sf : Addr) (bs : List Addr) (H' : Hp), (∀ b ∈ sl :: sn :: sa :: sf :: bs, H b = none) → (sl :: sn :: sa :: sf :: bs).Nodup → But x H H' → H' x = some (.ins X.s dx (sff lists.length (.ref sl) (.ref sn) (.ref sa) (.ref sf))) → LL K H' sl bs (intsD lists) →
    Acc K H' sn ((List.replicate lists.length (0 : Int)).map PyData.int) → Acc K H' sa [] → Acc K H' sf [] → Q .non H')
def spPlaceInit : Sp := fun vs H Q _ => ∃ (v v2 : V), vs = [v, v2] ∧ Hold (∃ (x dx a dw : Addr) (v1 vp vso vm vo vl vs vh : V) (z : Int), v = .ref x ∧ v2 = .ref a ∧ H x = some (.ins X.p dx []) ∧ x ≠ a ∧ H a = some (.ins X.w dw (wf v1 vp vso vm (.int z) vo vl vs vh)) ∧
  ∀ (H1 H2 : Hp), But x H H1 → TK K H H1 → H1 x = some (.ins X.p dx (pf (.ref a) (.int 0))) → But a H1 H2 → TK K H1 H2 → H2 a = some (.ins X.w dw (wf v1 vp vso vm (.int (z + 1)) vo vl vs vh)) → Q .non H2)
def spWalkInit : Sp := fun vs H Q _ => ∃ (v v1 v2 v3 : V), vs = [v, v1, v2, v3] ∧ Hold (∃ (x dx : Addr), v = .ref x ∧ H x = some (.ins X.w dx []) ∧
  ∀ (m st hd : Addr) (H' : Hp), H m = none → H st = none → H hd = none → m ≠ st → m ≠ hd → st ≠ hd → But x H H' → TK K H H' → H' x = some (.ins X.w dx (wf v1 v2 v3 (.ref m) (.int 0) (.bl false) (.bl false) (.ref st) (.ref hd))) → Acc K H' m [] → Acc K H' st [] → Acc K H' hd [.none, .none] → Q .non H')
def spWalksOf : Sp := fun vs H Q _ => ∃ (v v2 : V), vs = [v, v2] ∧ Hold (∃ (lw : Addr) (xs : List V) (C : Ct) (B : Bk) (y : Dy), v = .ref lw ∧ v2 = .ref (B.ad .so) ∧ RunOk C ∧ H lw = some (.lst xs) ∧ Ims K H xs (C.ls.map Ln.d) ∧ (∀ i x, xs[i]? = some x → B.lv i = x) ∧ Rep K X C B (HasI C 0 0) y (S0 C) H ∧ Out B (HasI C 0 0) y lw ∧
  ∀ (pw : Addr) (B' : Bk) (y' : Dy) (H' : Hp), H pw = none → Out B' (HasI C C.ls.length 0) y' pw → H' pw = some (.lst ((List.range C.ls.length).map fun i => .ref (B'.ad (.wk i)))) → B'.ad .so = B.ad .so → B'.lv = B.lv → Mg K B (HasI C 0 0) y H B' (HasI C C.ls.length 0) y' H' →
    Rep K X C B' (HasI C C.ls.length 0) y' (stL C C.ls.length) H' → Q (.ref pw) H')
end
/-- [0] * n -/
def rRepN (K : PySem.W.Frag) : R2 := fun x y H Q => ∃ (l : Addr) (n : Nat), x = .ref l ∧ y = .int (n : Int) ∧ Acc K H l [.int 0] ∧ n ≤ 1000 ∧ ∀ p H', H p = none → Same H H' → TK K H H' → Acc K H' p ((List.replicate n (0 : Int)).map PyData.int) → Q (.ref p) H'
theorem rep_flat (n : Nat) : (List.replicate n [V.int 0]).flatten = (List.replicate n (0 : Int)).map V.int := by
  induction n with
  | zero => rfl
  | succ n ih => rw [List.replicate_succ, List.flatten_cons, ih, List.replicate_succ]; rfl
theorem op_repN {X : Cx} : OpR X (binaryOp .Mult) (rRepN X.K) := OpR.imp op_rep fun x y H Q q => by
  obtain ⟨l, n, rfl, rfl, ⟨xs, e, i⟩, hn, k⟩ := q
  have ex : xs = [V.int 0] := by
    cases i with
    | cons a b => cases a; cases b; rfl
  subst ex
  refine ⟨l, n, _, rfl, rfl, e, by omega, by omega, ?_, fun p hp => ?_⟩
  · show 1 * (n : Int).toNat ≤ sizeLine
    rw [Nat.one_mul, Int.toNat_natCast]
    exact sz hn
  · rw [Int.toNat_natCast, rep_flat]
    have s := same_new (o := HO.lst ((List.replicate n (0 : Int)).map V.int)) hp
    exact k p _ hp s (same_tk s) ⟨_, upd_same, Ims.ints _⟩
section
variable {K : PySem.W.Frag} {X : Cs} {C : Ct} {B B' B1 : Bk} {has has' has1 : Lab → Prop} {y y' y1 : Dy} {S S' : Ms} {H H' H1 H2 : Hp}
theorem Mg.grow2 {l : Lab} {p dx : Addr} (a : Mg K B has y H B1 has1 y1 H1) (np : ∀ b o, H b = some o → Out B has y b → b ≠ p) (nl : ¬ has1 l) : Mg K B has y H (B1.set l p dx) (fun m => has1 m ∨ m = l) (y1.set l p) H1 := by
  refine ⟨fun b o e hn => ?_, a.tk⟩
  obtain ⟨h1, n1⟩ := a.keep b o e hn
  refine ⟨h1, fun m hm => ?_⟩
  rcases hm with hm | rfl
  · rw [adr_set_ne fun (z : m = l) => nl (z ▸ hm)]
    exact n1 m hm
  · rw [adr_set_self]
    exact (np b o e hn).symm
theorem hasI_next {C : Ct} {i s : Nat} : ∀ m, HasI C i (s + 1) m → HasI C i s m ∨ m = .pl (.at i s) := by
  intro m hm
  cases m with
  | pl q =>
    cases q with
    | out j => exact .inl hm
    | «at» j t =>
      rcases hm with hm | ⟨h1, h2⟩
      · exact .inl (.inl hm)
      · by_cases e : t = s
        · subst h1 e; exact .inr rfl
        · exact .inl (.inr ⟨h1, by omega⟩)
  | _ => exact .inl hm
theorem hasI_line {C : Ct} {i : Nat} : ∀ m, HasI C (i + 1) 0 m → ((((HasI C i (nPl C i) m ∨ m = .wp i) ∨ m = .wm i) ∨ m = .ws i) ∨ m = .wh i) ∨ m = .wk i := by
  intro m hm
  cases m with
  | wk j =>
    by_cases e : j = i
    · subst e; exact .inr rfl
    · have hm : j < i + 1 := hm
      exact .inl (.inl (.inl (.inl (.inl (show j < i by omega)))))
  | wp j =>
    by_cases e : j = i
    · subst e; exact .inl (.inl (.inl (.inl (.inr rfl))))
    · have hm : j < i + 1 := hm
      exact .inl (.inl (.inl (.inl (.inl (show j < i by omega)))))
  | wm j =>
    by_cases e : j = i
    · subst e; exact .inl (.inl (.inl (.inr rfl)))
    · have hm : j < i + 1 := hm
      exact .inl (.inl (.inl (.inl (.inl (show j < i by omega)))))
  | ws j =>
    by_cases e : j = i
    · subst e; exact .inl (.inl (.inr rfl))
    · have hm : j < i + 1 := hm
      exact .inl (.inl (.inl (.inl (.inl (show j < i by omega)))))
  | wh j =>
    by_cases e : j = i
    · subst e; exact .inl (.inr rfl)
    · have hm : j < i + 1 := hm
      exact .inl (.inl (.inl (.inl (.inl (show j < i by omega)))))
  | pl q =>
    cases q with
    | out j => exact hm.elim
    | «at» j t =>
      refine .inl (.inl (.inl (.inl (.inl ?_))))
      rcases hm with ⟨h1, h2⟩ | ⟨h1, h2⟩
      · by_cases e : j = i
        · subst e; exact .inr ⟨rfl, h2⟩
        · exact .inl ⟨by omega, h2⟩
      · omega
  | _ => exact .inl (.inl (.inl (.inl (.inl hm))))
theorem fold_flat (C : Ct) (j : Nat) (xs : List Nat) : ∀ S : Ms, (xs.foldl (fun S s => addP C S (.at j s)) S).made = S.made ∧ (xs.foldl (fun S s => addP C S (.at j s)) S).over = S.over ∧ (xs.foldl (fun S s => addP C S (.at j s)) S).loose = S.loose ∧ (xs.foldl (fun S s => addP C S (.at j s)) S).str = S.str ∧ (xs.foldl (fun S s => addP C S (.at j s)) S).h0 = S.h0 ∧ (xs.foldl (fun S s => addP C S (.at j s)) S).h1 = S.h1 ∧ (xs.foldl (fun S s => addP C S (.at j s)) S).pos = S.pos := by
  induction xs with
  | nil => intro S; exact ⟨rfl, rfl, rfl, rfl, rfl, rfl, rfl⟩
  | cons x xs ih => intro S; exact ih _
theorem fold_hold {C : Ct} {j w : Nat} : ∀ (xs : List Nat) (S : Ms), (∀ s ∈ xs, C.tgt (.at j s) ≠ w) → (xs.foldl (fun S s => addP C S (.at j s)) S).hold w = S.hold w
  | [], _, _ => rfl
  | x :: xs, S, h => by
    rw [List.foldl_cons, fold_hold xs _ fun s hs => h s (List.mem_cons_of_mem _ hs)]
    exact fset_ne fun z => h x List.mem_cons_self z.symm
theorem hold_zero {C : Ct} (ok : CtOk C) : ∀ (i w : Nat), i ≤ C.ls.length → i ≤ w + 1 → (stL C i).hold w = 0
  | 0, w, _, _ => rfl
  | i + 1, w, hi, hw => by
    rw [stL_succ]
    unfold addL
    rw [fold_hold]
    · exact hold_zero ok i w (by omega) (by omega)
    · intro s hs
      have hs := List.mem_range.mp hs
      have hl : C.ls[i]? = some C.ls[i] := List.getElem?_eq_getElem (by omega)
      have := ok.tgt hl (s := s) (by rw [← nPl_of hl]; exact hs)
      omega
/-- five new objects: line i is there -/
theorem Rep.line (ok : CtOk C) {i : Nat} (hi : i < C.ls.length) {D m st hd x dx : Addr} (R : Rep K X C B (HasI C i (nPl C i)) y S H) (oD : Out B (HasI C i (nPl C i)) y D) (om : Out B (HasI C i (nPl C i)) y m) (os : Out B (HasI C i (nPl C i)) y st) (oh : Out B (HasI C i (nPl C i)) y hd) (ox : Out B (HasI C i (nPl C i)) y x)
    (n1 : D ≠ m) (n2 : D ≠ st) (n3 : D ≠ hd) (n4 : D ≠ x) (n5 : m ≠ st) (n6 : m ≠ hd) (n7 : m ≠ x) (n8 : st ≠ hd) (n9 : st ≠ x) (n10 : hd ≠ x)
    (eD : H D = some (.lst ((List.range (nPl C i)).map fun s => .ref (B.ad (.pl (.at i s)))))) (am : Acc K H m (S.made i)) (as : Acc K H st ((S.str i).map PyData.int)) (ah : Acc K H hd [S.h0 i, S.h1 i])
    (ex : H x = some (.ins X.w dx (wf (B.lv i) (.ref D) (.ref (B.ad .so)) (.ref m) (.int (S.hold i)) (.bl (S.over i)) (.bl (S.loose i)) (.ref st) (.ref hd)))) (hln : ∀ ln, C.ls[i]? = some ln → Im K H (B.lv i) ln.d) :
    ∃ B' y', Rep K X C B' (HasI C (i + 1) 0) y' S H ∧ B'.lv = B.lv ∧ B'.ad .so = B.ad .so ∧ (∀ j, j < i → B'.ad (.wk j) = B.ad (.wk j)) ∧ B'.ad (.wk i) = x ∧ ∀ {B0 : Bk} {has0 : Lab → Prop} {y0 : Dy} {H0 : Hp}, Mg K B0 has0 y0 H0 B (HasI C i (nPl C i)) y H → (∀ b o, H0 b = some o → Out B0 has0 y0 b → b ≠ D ∧ b ≠ m ∧ b ≠ st ∧ b ≠ hd ∧ b ≠ x) →
      Mg K B0 has0 y0 H0 B' (HasI C (i + 1) 0) y' H := by
  have us := fun l hl => hasI_uses ok (l := l) hi (Nat.le_refl (nPl C i)) hl
  have nh : ∀ l, l = .wk i ∨ l = .wp i ∨ l = .wm i ∨ l = .ws i ∨ l = .wh i → ¬ HasI C i (nPl C i) l := fun l hl h => by
    rcases hl with rfl | rfl | rfl | rfl | rfl <;> exact Nat.lt_irrefl i h
  have R1 := R.grow (l := .wp i) (p := D) (dx := 0) (nh _ (.inr (.inl rfl))) (us _ (.inr (.inr (.inl rfl)))) oD (by
    show H D = some (.lst ((List.range (nPl C i)).map fun s => .ref ((B.set (.wp i) D 0).ad (.pl (.at i s)))))
    exact eD) (fun j z => by cases z)
  have o1 : ∀ {p : Addr}, Out B (HasI C i (nPl C i)) y p → D ≠ p → Out (B.set (.wp i) D 0) (fun m => HasI C i (nPl C i) m ∨ m = .wp i) (y.set (.wp i) D) p := fun {p} o n m hm => by
    rcases hm with hm | rfl
    · rw [adr_set_ne fun (z : m = .wp i) => nh _ (.inr (.inl rfl)) (z ▸ hm)]; exact o m hm
    · rw [adr_set_self]; exact n
  have R2 := R1.grow (l := .wm i) (p := m) (dx := 0) (fun h => by rcases h with h | h; exact nh _ (.inr (.inr (.inl rfl))) h; cases h) (fun q hq => by
    rcases hq with hq | rfl
    · exact us _ (.inr (.inr (.inr (.inl rfl)))) q hq
    · rintro ⟨s, z⟩; cases z) (o1 om n1) am (fun j z => by cases z)
  have o2 : ∀ {p : Addr}, Out B (HasI C i (nPl C i)) y p → D ≠ p → m ≠ p → Out ((B.set (.wp i) D 0).set (.wm i) m 0) (fun q => (HasI C i (nPl C i) q ∨ q = .wp i) ∨ q = .wm i) ((y.set (.wp i) D).set (.wm i) m) p := fun {p} o n n' q hq => by
    rcases hq with hq | rfl
    · rw [adr_set_ne fun (z : q = .wm i) => by subst z; rcases hq with h | h; exact nh _ (.inr (.inr (.inl rfl))) h; cases h]; exact o1 o n q hq
    · rw [adr_set_self]; exact n'
  have R3 := R2.grow (l := .ws i) (p := st) (dx := 0) (fun h => by rcases h with (h | h) | h; exact nh _ (.inr (.inr (.inr (.inl rfl)))) h; cases h; cases h) (fun q hq => by
    rcases hq with (hq | rfl) | rfl
    · exact us _ (.inr (.inr (.inr (.inr (.inl rfl))))) q hq
    · rintro ⟨s, z⟩; cases z
    · exact fun z => z) (o2 os n2 n5) as (fun j z => by cases z)
  have o3 : ∀ {p : Addr}, Out B (HasI C i (nPl C i)) y p → D ≠ p → m ≠ p → st ≠ p → Out (((B.set (.wp i) D 0).set (.wm i) m 0).set (.ws i) st 0) (fun q => ((HasI C i (nPl C i) q ∨ q = .wp i) ∨ q = .wm i) ∨ q = .ws i) (((y.set (.wp i) D).set (.wm i) m).set (.ws i) st) p := fun {p} o n n' n'' q hq => by
    rcases hq with hq | rfl
    · rw [adr_set_ne fun (z : q = .ws i) => by subst z; rcases hq with (h | h) | h; exact nh _ (.inr (.inr (.inr (.inl rfl)))) h; cases h; cases h]; exact o2 o n n' q hq
    · rw [adr_set_self]; exact n''
  have R4 := R3.grow (l := .wh i) (p := hd) (dx := 0) (fun h => by rcases h with ((h | h) | h) | h; exact nh _ (.inr (.inr (.inr (.inr rfl)))) h; cases h; cases h; cases h) (fun q hq => by
    rcases hq with ((hq | rfl) | rfl) | rfl
    · exact us _ (.inr (.inr (.inr (.inr (.inr rfl))))) q hq
    · rintro ⟨s, z⟩; cases z
    · exact fun z => z
    · exact fun z => z) (o3 oh n3 n6 n8) ah (fun j z => by cases z)
  have o4 : ∀ {p : Addr}, Out B (HasI C i (nPl C i)) y p → D ≠ p → m ≠ p → st ≠ p → hd ≠ p → Out ((((B.set (.wp i) D 0).set (.wm i) m 0).set (.ws i) st 0).set (.wh i) hd 0) (fun q => (((HasI C i (nPl C i) q ∨ q = .wp i) ∨ q = .wm i) ∨ q = .ws i) ∨ q = .wh i) ((((y.set (.wp i) D).set (.wm i) m).set (.ws i) st).set (.wh i) hd) p := fun {p} o n n' n'' n3' q hq => by
    rcases hq with hq | rfl
    · rw [adr_set_ne fun (z : q = .wh i) => by subst z; rcases hq with ((h | h) | h) | h; exact nh _ (.inr (.inr (.inr (.inr rfl)))) h; cases h; cases h; cases h]; exact o3 o n n' n'' q hq
    · rw [adr_set_self]; exact n3'
  have R5 := R4.grow (l := .wk i) (p := x) (dx := dx) (fun h => by rcases h with (((h | h) | h) | h) | h; exact nh _ (.inl rfl) h; cases h; cases h; cases h; cases h) (fun q hq => by
    rcases hq with (((hq | rfl) | rfl) | rfl) | rfl
    · exact us _ (.inr (.inl rfl)) q hq
    · rintro ⟨s, z⟩; cases z
    · exact fun z => z
    · exact fun z => z
    · exact fun z => z) (o4 ox n4 n7 n9 n10) (by
      have f1 : (((((B.set (.wp i) D 0).set (.wm i) m 0).set (.ws i) st 0).set (.wh i) hd 0).set (.wk i) x dx).ad (.wp i) = D := by
        rw [ad_set_ne (by intro z; cases z), ad_set_ne (by intro z; cases z), ad_set_ne (by intro z; cases z), ad_set_ne (by intro z; cases z), ad_set_self]
      have f2 : (((((B.set (.wp i) D 0).set (.wm i) m 0).set (.ws i) st 0).set (.wh i) hd 0).set (.wk i) x dx).ad .so = B.ad .so := by
        rw [ad_set_ne (by intro z; cases z), ad_set_ne (by intro z; cases z), ad_set_ne (by intro z; cases z), ad_set_ne (by intro z; cases z), ad_set_ne (by intro z; cases z)]
      have f3 : (((((B.set (.wp i) D 0).set (.wm i) m 0).set (.ws i) st 0).set (.wh i) hd 0).set (.wk i) x dx).ad (.wm i) = m := by
        rw [ad_set_ne (by intro z; cases z), ad_set_ne (by intro z; cases z), ad_set_ne (by intro z; cases z), ad_set_self]
      have f4 : (((((y.set (.wp i) D).set (.wm i) m).set (.ws i) st).set (.wh i) hd).set (.wk i) x).s i = st := fset_self (f := y.s)
      have f5 : (((((y.set (.wp i) D).set (.wm i) m).set (.ws i) st).set (.wh i) hd).set (.wk i) x).h i = hd := fset_self (f := y.h)
      have f6 : (((((B.set (.wp i) D 0).set (.wm i) m 0).set (.ws i) st 0).set (.wh i) hd 0).set (.wk i) x dx).dx (.wk i) = dx := fset_self
      show H x = some (.ins X.w ((((((B.set (.wp i) D 0).set (.wm i) m 0).set (.ws i) st 0).set (.wh i) hd 0).set (.wk i) x dx).dx (.wk i)) (wf (B.lv i) (.ref ((((((B.set (.wp i) D 0).set (.wm i) m 0).set (.ws i) st 0).set (.wh i) hd 0).set (.wk i) x dx).ad (.wp i))) (.ref ((((((B.set (.wp i) D 0).set (.wm i) m 0).set (.ws i) st 0).set (.wh i) hd 0).set (.wk i) x dx).ad .so)) (.ref ((((((B.set (.wp i) D 0).set (.wm i) m 0).set (.ws i) st 0).set (.wh i) hd 0).set (.wk i) x dx).ad (.wm i))) (.int (S.hold i)) (.bl (S.over i)) (.bl (S.loose i)) (.ref ((((((y.set (.wp i) D).set (.wm i) m).set (.ws i) st).set (.wh i) hd).set (.wk i) x).s i)) (.ref ((((((y.set (.wp i) D).set (.wm i) m).set (.ws i) st).set (.wh i) hd).set (.wk i) x).h i))))
      rw [f1, f2, f3, f4, f5, f6]
      exact ex) (fun j z ln h => by cases z; exact hln ln h)
  refine ⟨_, _, R5.cong hasI_line, rfl, ?_, fun j hj => ?_, ad_set_self, fun mg ne => ?_⟩
  · rw [ad_set_ne (by intro z; cases z), ad_set_ne (by intro z; cases z), ad_set_ne (by intro z; cases z), ad_set_ne (by intro z; cases z), ad_set_ne (by intro z; cases z)]
  · rw [ad_set_ne (by intro z; cases z; omega), ad_set_ne (by intro z; cases z), ad_set_ne (by intro z; cases z), ad_set_ne (by intro z; cases z), ad_set_ne (by intro z; cases z)]
  · have g1 := mg.grow2 (l := .wp i) (p := D) (dx := 0) (fun b o e h => (ne b o e h).1) (nh _ (.inr (.inl rfl)))
    have g2 := g1.grow2 (l := .wm i) (p := m) (dx := 0) (fun b o e h => (ne b o e h).2.1) (fun h => by rcases h with h | h; exact nh _ (.inr (.inr (.inl rfl))) h; cases h)
    have g3 := g2.grow2 (l := .ws i) (p := st) (dx := 0) (fun b o e h => (ne b o e h).2.2.1) (fun h => by rcases h with (h | h) | h; exact nh _ (.inr (.inr (.inr (.inl rfl)))) h; cases h; cases h)
    have g4 := g3.grow2 (l := .wh i) (p := hd) (dx := 0) (fun b o e h => (ne b o e h).2.2.2.1) (fun h => by rcases h with ((h | h) | h) | h; exact nh _ (.inr (.inr (.inr (.inr rfl)))) h; cases h; cases h; cases h)
    have g5 := g4.grow2 (l := .wk i) (p := x) (dx := dx) (fun b o e h => (ne b o e h).2.2.2.2) (fun h => by rcases h with (((h | h) | h) | h) | h; exact nh _ (.inl rfl) h; cases h; cases h; cases h; cases h)
    exact g5.cong hasI_line
end
theorem insI_perm (x : Int) : ∀ ys : List Int, (insI x ys).Perm (x :: ys)
  | [] => List.Perm.refl _
  | y :: ys => by
    show (if x ≤ y then x :: y :: ys else y :: insI x ys).Perm (x :: y :: ys)
    split
    · exact List.Perm.refl _
    · exact ((insI_perm x ys).cons y).trans (List.Perm.swap x y ys)
theorem sortI_perm : ∀ xs : List Int, (sortI xs).Perm xs
  | [] => List.Perm.refl _
  | x :: xs => (insI_perm x (sortI xs)).trans ((sortI_perm xs).cons x)
theorem insI_sorted {x : Int} : ∀ {ys : List Int}, ys.Pairwise (· ≤ ·) → (insI x ys).Pairwise (· ≤ ·)
  | [], _ => List.pairwise_singleton _ _
  | y :: ys, h => by
    obtain ⟨h1, h2⟩ := List.pairwise_cons.mp h
    show (if x ≤ y then x :: y :: ys else y :: insI x ys).Pairwise (· ≤ ·)
    split
    · rename_i c
      refine List.pairwise_cons.mpr ⟨fun z hz => ?_, h⟩
      rcases List.mem_cons.mp hz with rfl | hz
      · exact c
      · exact Int.le_trans c (h1 z hz)
    · rename_i c
      refine List.pairwise_cons.mpr ⟨fun z hz => ?_, insI_sorted h2⟩
      rcases List.mem_cons.mp ((insI_perm x ys).mem_iff.mp hz) with rfl | hz
      · omega
      · exact h1 z hz
theorem sortI_sorted : ∀ xs : List Int, (sortI xs).Pairwise (· ≤ ·)
  | [] => .nil
  | x :: xs => insI_sorted (sortI_sorted xs)
theorem sortI_unique {xs ys : List Int} (p : ys.Perm xs) (s : ys.Pairwise (· ≤ ·)) : ys = sortI xs :=
  List.Perm.eq_of_pairwise (le := (· ≤ ·)) (fun a b _ _ h1 h2 => Int.le_antisymm h1 h2) s (sortI_sorted xs) (p.trans (sortI_perm xs).symm)
def rSortedN (K : PySem.W.Frag) : List V → Hp → VK → Prop := fun xs H Q => ∃ (a : Addr) (ns : List Int), xs = [.ref a] ∧ Acc K H a (ns.map PyData.int) ∧ ∀ p H', H p = none → Same H H' → TK K H H' → Acc K H' p ((sortI ns).map PyData.int) → Q (.ref p) H'
theorem cr_sortedN {X : Cx} : CallR X (.builtin "sorted") (rSortedN X.K) := CallR.imp cr_sortedI fun xs H Q q => by
  obtain ⟨a, ns, rfl, ha, k⟩ := q
  refine ⟨a, ns, rfl, SqL.of (acc_raw ha), fun ns' p hp hs hn => ?_⟩
  rw [sortI_unique hp hs]
  have s := same_new (o := HO.lst ((sortI ns).map V.int)) hn
  exact k p _ hn s (same_tk s) (raw_acc upd_same)
section
variable {K : PySem.W.Frag} {X : Cs} {C : Ct} {B B' B1 : Bk} {has has' has1 : Lab → Prop} {y y' y1 : Dy} {S S' : Ms} {H H' H1 H2 : Hp}
/-- a new list of those that were let go -/
theorem Rep.newLeft (R : Rep K X C B has y S H) {q : Addr} {ns : List Int} (h : has .so) (hs : has .sf) (n : H q = none) (s : Same H H1) (a : Acc K H1 q (ns.map PyData.int)) (b : But (B.ad .so) H1 H2)
    (e : H2 (B.ad .so) = some (.ins X.s (B.dx .so) (sff C.lists.length (.ref (B.ad .sl)) (.ref (B.ad .sn)) (.ref (B.ad .sa)) (.ref q)))) :
    Rep K X C (B.set .sf q 0) has y { S with left := ns } H2 ∧ Mg K B has y H (B.set .sf q 0) has y H2 := by
  have t1 := same_tk (K := K) s
  have R1 := R.same s
  have t2 : TK K H1 H2 := R1.tkw h b
  have qn : ∀ l, has l → adr B y l ≠ q := fun l hl => R.ne_new hl n
  have ae : ∀ l, l ≠ .sf → adr (B.set .sf q 0) y l = adr B y l := fun l hl => adr_set_ne (y := y) (l := .sf) hl
  have ai : adr (B.set .sf q 0) y .sf = q := adr_set_self (y := y) (l := .sf)
  have ne : q ≠ B.ad .so := fun z => qn _ h z.symm
  refine ⟨⟨fun l m hl hm z => ?_, fun m hm => ?_, fun j l h1 h2 => ((R.ln j l h1 h2).u t1).u t2⟩, ⟨fun c o e0 hn => ⟨b c o (fun z => hn _ h z.symm) (s _ _ e0), fun l hl => ?_⟩, t1.trans t2⟩⟩
  · by_cases e1 : l = .sf
    · by_cases e2 : m = .sf
      · rw [e1, e2]
      · rw [e1, ai, ae m e2] at z
        exact absurd z.symm (qn m hm)
    · by_cases e2 : m = .sf
      · rw [e2, ai, ae l e1] at z
        exact absurd z (qn l hl)
      · rw [ae l e1, ae m e2] at z
        exact R.inj l m hl hm z
  · by_cases e1 : m = .sf
    · subst e1
      rw [ai]
      exact a.but b t2 ne
    · rw [ae m e1]
      by_cases e2 : m = .so
      · subst e2
        exact e
      · have c : cont X C (B.set .sf q 0) y { S with left := ns } m = cont X C B y S m := by
          have c1 : cont X C (B.set .sf q 0) y { S with left := ns } m = cont X C (B.set .sf q 0) y S m := by
            cases m <;> first | rfl | exact absurd rfl e1
          rw [c1]
          refine cont_set (y := y) (l := .sf) e1 fun u => ?_
          cases m with
          | wk j => rcases u with u | u | u | u | u <;> cases u
          | wp j => obtain ⟨_, u⟩ := u; cases u
          | pl p => have u : Lab.sf = .wk (C.tgt p) := u; cases u
          | so => exact e2 rfl
          | sl => obtain ⟨_, u⟩ := u; cases u
          | oo => have u : Lab.sf = .ol := u; cases u
          | ol => obtain ⟨_, u⟩ := u; cases u
          | ru => rcases u with u | u <;> cases u
          | _ => exact u
        rw [c]
        exact Cell.but (R1.at_ m hm) b t2 fun z => e2 (R.inj m .so hm h z)
  · by_cases e1 : l = .sf
    · rw [e1, ai]
      exact (ne_of_none e0 n).symm
    · rw [ae l e1]
      exact hn l hl
end
section
variable (K : PySem.W.Frag) (X : Cs)
def spLeaveUn : Sp := fun vs H Q _ => ∃ (v v2 : V), vs = [v, v2] ∧ Hold (∃ (C : Ct) (B : Bk) (has : Lab → Prop) (y : Dy) (S : Ms) (pb : Addr), v = .ref (B.ad .so) ∧ v2 = .ref pb ∧ Core C has ∧ Rep K X C B has y S H ∧ Acc K H pb ((srcs C.ls).map PyData.int) ∧ C.lists.length ≤ 1000 ∧ S.left.length < 900000 ∧
  ∀ q H', Mg K B has y H (B.set .sf q 0) has y H' → Rep K X C (B.set .sf q 0) has y { S with left := sortI (S.left ++ unnamed C) } H' → Q .non H')
def spOutInit : Sp := fun vs H Q _ => ∃ (v v2 v3 v4 : V), vs = [v, v2, v3, v4] ∧ Hold (∃ (x dx lw po : Addr) (xs : List V) (C : Ct) (B : Bk) (y : Dy) (S9 : Ms), v = .ref x ∧ v2 = .ref lw ∧ v3 = .ref po ∧ v4 = .ref (B.ad .so) ∧ RunOk C ∧ H x = some (.ins X.o dx []) ∧ H lw = some (.lst xs) ∧ Ims K H xs (C.ls.map Ln.d) ∧ (∀ i x, xs[i]? = some x → B.lv i = x) ∧
  Rep K X C B (HasI C 0 0) y (S0 C) H ∧ Out B (HasI C 0 0) y lw ∧ Out B (HasI C 0 0) y x ∧ H po = some (.lst (C.outs.map fun (n : Nat) => V.int (n : Int))) ∧ Out B (HasI C 0 0) y po ∧ startM C = some S9 ∧
  ∀ B' y' H', B'.ad .so = B.ad .so → B'.ad .oo = x → B'.lv = B.lv → (∀ b o, H b = some o → b ≠ x → Out B (HasI C 0 0) y b → H' b = some o ∧ Out B' (HasR C) y' b) → TK K H H' → Rep K X C B' (HasR C) y' S9 H' → Q .non H')
end
open PySem PySem.Spec PyProof.Rows L2
/-! ### the whole lists, line by line -/
def Wl (C : Ct) (i : Nat) : List PyData := (plainD C.ls C.lists).getD i []
theorem plainD_pre (lists : List (List Int)) : ∀ (ys xs : List Ln), (plainD (xs ++ ys) lists).take xs.length = plainD xs lists
  | [], xs => by rw [List.append_nil, List.take_of_length_le (by rw [plainD_len]; exact Nat.le_refl _)]
  | y :: ys, xs => by
    have ih := plainD_pre lists ys (xs ++ [y])
    rw [List.append_assoc, List.singleton_append, plainD_snoc] at ih
    have e := congrArg (List.take xs.length) ih
    rw [List.take_take, List.length_append, List.length_singleton, Nat.min_eq_left (by omega), List.take_append_of_le_length (by rw [plainD_len]; exact Nat.le_refl _)] at e
    rw [e, List.take_of_length_le (by rw [plainD_len]; exact Nat.le_refl _)]
theorem plainD_take (ls : List Ln) (lists : List (List Int)) (i : Nat) : plainD (ls.take i) lists = (plainD ls lists).take i := by
  by_cases h : i ≤ ls.length
  · have e := plainD_pre lists (ls.drop i) (ls.take i)
    rw [List.take_append_drop, List.length_take, Nat.min_eq_left h] at e
    exact e.symm
  · rw [List.take_of_length_le (by omega), List.take_of_length_le (by rw [plainD_len]; omega)]
theorem getD_take {α : Type} {xs : List α} {i a : Nat} {d : α} (h : a < i) : (xs.take i).getD a d = xs.getD a d := by
  rw [List.getD_eq_getElem?_getD, List.getD_eq_getElem?_getD, List.getElem?_take]
  rw [if_pos h]
theorem Wl_eq {C : Ct} {i : Nat} {l : Ln} (h : C.ls[i]? = some l) : Wl C i = listD l ((plainD C.ls C.lists).take i) C.lists := by
  have hi := (List.getElem?_eq_some_iff.mp h).1
  have e : plainD (C.ls.take (i + 1)) C.lists = (plainD C.ls C.lists).take i ++ [listD l ((plainD C.ls C.lists).take i) C.lists] := by
    rw [take_succ h, plainD_snoc, plainD_take]
  rw [plainD_take] at e
  unfold Wl
  rw [← getD_take (i := i + 1) (Nat.lt_succ_self i), e, List.getD_eq_getElem?_getD, List.getElem?_append_right (by rw [List.length_take]; omega)]
  rw [List.length_take, plainD_len, Nat.min_eq_left (by omega), Nat.sub_self]
  rfl
theorem Wl_src {C : Ct} {i : Nat} {k : Int} (h : C.ls[i]? = some (.source k)) : Wl C i = (C.lists.getD k.toNat []).map PyData.int := Wl_eq h
theorem Wl_one {C : Ct} (ok : CtOk C) {i : Nat} {l : Ln} {a : Int} (h : C.ls[i]? = some l) (e : l.names = [a]) : Wl C i = oneD l (Wl C (C.tgt (.at i 0))) := by
  rw [Wl_eq h, listD_one e]
  obtain ⟨h1, h2⟩ := ok.nm i l a h (by rw [e]; exact List.mem_singleton.mpr rfl)
  have t : C.tgt (.at i 0) = a.toNat := by
    show (match C.ls[i]? with | some l => lnN l 0 | none => 0) = _
    rw [h]; show (l.names.getD 0 0).toNat = _; rw [e]; rfl
  rw [t, getD_take (by omega)]
  rfl
theorem Wl_two {C : Ct} (ok : CtOk C) {i : Nat} {l : Ln} {a b : Int} (h : C.ls[i]? = some l) (e : l.names = [a, b]) : Wl C i = twoD l (Wl C (C.tgt (.at i 0))) (Wl C (C.tgt (.at i 1))) := by
  rw [Wl_eq h, listD_two e]
  obtain ⟨h1, h2⟩ := ok.nm i l a h (by rw [e]; exact List.mem_cons_self)
  obtain ⟨h3, h4⟩ := ok.nm i l b h (by rw [e]; exact List.mem_cons_of_mem _ List.mem_cons_self)
  have t : C.tgt (.at i 0) = a.toNat := by
    show (match C.ls[i]? with | some l => lnN l 0 | none => 0) = _
    rw [h]; show (l.names.getD 0 0).toNat = _; rw [e]; rfl
  have t2 : C.tgt (.at i 1) = b.toNat := by
    show (match C.ls[i]? with | some l => lnN l 1 | none => 0) = _
    rw [h]; show (l.names.getD 1 0).toNat = _; rw [e]; rfl
  rw [t, t2, getD_take (by omega), getD_take (by omega)]
  rfl
/-- a run of a good weave -/
structure Gd (C : Ct) (ks : List Kd) : Prop where
  run : RunOk C
  good : GoodW C.lists.length C.ls ks
  ls : OkLists C.lists
  tw : twos C.ls ≤ 7
  l24 : C.ls.length ≤ 24
theorem Gd.has {C : Ct} {ks : List Kd} (g : Gd C ks) {i : Nat} {k : Kd} (h : ks[i]? = some k) : ∀ x ∈ Wl C i, Has k x := by
  obtain ⟨ah, _⟩ := plain_ok g.good g.ls (by have := g.tw; omega)
  have hi := (List.getElem?_eq_some_iff.mp h).1
  have e : (plainD C.ls C.lists)[i]? = some (Wl C i) := by
    unfold Wl
    rw [List.getD_eq_getElem?_getD, List.getElem?_eq_getElem (by rw [ah.len]; exact hi)]
    rfl
  exact ah.has i _ _ e h
theorem Gd.len {C : Ct} {ks : List Kd} (g : Gd C ks) (i : Nat) : (Wl C i).length ≤ 50000 := by
  obtain ⟨_, rl⟩ := plain_ok g.good g.ls (by have := g.tw; omega)
  have p7 : 2 ^ twos C.ls ≤ 2 ^ 7 := Nat.pow_le_pow_right (by decide) g.tw
  have := getD_len rl i
  unfold Wl
  omega
theorem tgt_at {C : Ct} {i s : Nat} {l : Ln} {a : Int} (h : C.ls[i]? = some l) (e : l.names[s]? = some a) : C.tgt (.at i s) = a.toNat := by
  show (match C.ls[i]? with | some l => lnN l s | none => 0) = _
  rw [h]
  show (l.names.getD s 0).toNat = _
  rw [List.getD_eq_getElem?_getD, e]
  rfl
/-- the kinds of what a line names -/
theorem Gd.kinds {C : Ct} {ks : List Kd} (g : Gd C ks) {i : Nat} {l : Ln} (h : C.ls[i]? = some l) : ∃ kn k, kn.length = l.names.length ∧ kindN l kn = some k ∧ ∀ s k', kn[s]? = some k' → ∀ x ∈ Wl C (C.tgt (.at i s)), Has k' x := by
  obtain ⟨k, _, g2, g3, g4, _, _⟩ := g.good.at h
  obtain ⟨kn, hkn, hkN⟩ := kindL_some g4
  obtain ⟨lkn, fkn⟩ := namedK_at hkn
  refine ⟨kn, k, lkn.symm, hkN, fun s k' hs => ?_⟩
  have hsl := (List.getElem?_eq_some_iff.mp hs).1
  have ha : l.names[s]? = some l.names[s] := List.getElem?_eq_getElem (by omega)
  obtain ⟨k2, h1, h2⟩ := fkn s _ ha
  rw [hs] at h2
  cases h2
  rw [tgt_at h ha]
  refine g.has (k := k') ?_
  have hlt := (List.getElem?_eq_some_iff.mp h1).1
  rw [List.length_take] at hlt
  rw [List.getElem?_take] at h1
  split at h1
  · exact h1
  · cases h1
/-! ### sums over lines -/
def tot (f : Nat → Nat) : Nat → Nat
  | 0 => 0
  | n + 1 => tot f n + f n
theorem tot_same {f g : Nat → Nat} : ∀ {n : Nat}, (∀ i, i < n → f i = g i) → tot f n = tot g n
  | 0, _ => rfl
  | n + 1, h => by
    show tot f n + f n = tot g n + g n
    rw [tot_same fun i hi => h i (Nat.lt_succ_of_lt hi), h n (Nat.lt_succ_self n)]
theorem tot_up {f g : Nat → Nat} {i : Nat} : ∀ {n : Nat}, i < n → (∀ j, j ≠ i → f j = g j) → g i = f i + 1 → tot g n = tot f n + 1
  | 0, h, _, _ => absurd h (Nat.not_lt_zero i)
  | n + 1, h, hs, hi => by
    show tot g n + g n = tot f n + f n + 1
    by_cases e : i = n
    · subst e
      rw [hi, tot_same (f := g) (g := f) fun j hj => (hs j (by omega)).symm]
      omega
    · rw [tot_up (by omega) hs hi, hs n (fun z => e z.symm)]
      omega
theorem tot_le {f : Nat → Nat} {c : Nat} : ∀ {n : Nat}, (∀ i, i < n → f i ≤ c) → tot f n ≤ n * c
  | 0, _ => Nat.zero_le _
  | n + 1, h => by
    have h1 := tot_le (n := n) fun i hi => h i (Nat.lt_succ_of_lt hi)
    have h2 := h n (Nat.lt_succ_self n)
    show tot f n + f n ≤ (n + 1) * c
    rw [Nat.succ_mul]
    omega
def b2n (b : Bool) : Nat := if b then 1 else 0
/-- how often a line's source has been asked -/
def asks1 (C : Ct) (S : Ms) (i : Nat) : Nat := match C.ls[i]? with
  | some (.source _) => (S.made i).length + b2n (S.over i)
  | _ => 0
/-- what holds at all times -/
structure Glob (C : Ct) (S : Ms) : Prop where
  pre : ∀ i, i < C.ls.length → S.made i = (Wl C i).take (S.made i).length ∧ (S.made i).length ≤ (Wl C i).length
  fin : ∀ i, i < C.ls.length → S.over i = true → S.made i = Wl C i
  asks : S.asks.length = tot (asks1 C S) C.ls.length
  left : S.left.length ≤ tot (fun i => b2n (S.loose i)) C.ls.length + C.lists.length
  nl : S.nexts.length = C.lists.length
/-! ### what a line's state says, while it is not at its end -/
def remI (W : List PyData) (pos : Nat) (h : PyData) : List Int := (if h = .none then W.drop pos else h :: W.drop pos).map toI
def LnOk (C : Ct) (S : Ms) (i : Nat) (l : Ln) : Prop :=
  let k := (S.made i).length
  let A := Wl C (C.tgt (.at i 0))
  let B := Wl C (C.tgt (.at i 1))
  let p0 := S.pos (.at i 0)
  let p1 := S.pos (.at i 1)
  match l with
  | .source s => S.nexts.getD s.toNat 0 = (k : Int)
  | .map _ _ => p0 = k
  | .fold _ _ _ => p0 = k
  | .whil ts _ => p0 = k ∧ ∀ x ∈ A.take k, met ts x = true
  | .take n _ => p0 = k ∧ (k : Int) ≤ n
  | .keep ts _ => (A.take p0).filter (met ts) = S.made i
  | .skip n _ => (k = 0 ∧ p0 = 0) ∨ (0 < k ∧ (p0 : Int) = n + k)
  | .window n _ => (k = 0 ∧ p0 = 0) ∨ (0 < k ∧ (p0 : Int) = n + k - 1)
  | .group m _ => ∃ gs : List (Int × List Int), S.made i = gs.map grD ∧ groupI m ((A.take p0).map toI) = gs ++ (if S.str i = [] then [] else [((S.str i).getD 0 0 % m, S.str i)]) ∧ (S.str i = [] → (p0 = 0 ∧ k = 0) ∨ p0 = A.length) ∧ ∀ z ∈ S.str i, z % m = (S.str i).getD 0 0 % m
  | .chain _ _ => (p0 = k ∧ p1 = 0 ∧ k ≤ A.length) ∨ (p0 = A.length ∧ k = A.length + p1)
  | .pair _ _ => S.h0 i = .none ∧ S.h1 i = .none ∧ p0 = k ∧ p1 = k
  | .merge _ _ => (S.h0 i = .none ∨ isI (S.h0 i)) ∧ (S.h1 i = .none ∨ isI (S.h1 i)) ∧ (Wl C i).map toI = (S.made i).map toI ++ mergeI (remI A p0 (S.h0 i)) (remI B p1 (S.h1 i))
/-- the lines ahead of i are in order -/
def Low (C : Ct) (S : Ms) (i : Nat) : Prop := ∀ j l, j < i → C.ls[j]? = some l → (S.over j = false → LnOk C S j l) ∧ ∀ s, s < l.names.length → S.pos (.at j s) ≤ (S.made (C.tgt (.at j s))).length
/-- what a pull at p may have changed: lines up to j, and p -/
structure Frm (C : Ct) (j : Nat) (p : Pl) (S S' : Ms) : Prop where
  made : ∀ i, j < i → S'.made i = S.made i
  over : ∀ i, j < i → S'.over i = S.over i
  str : ∀ i, j < i → S'.str i = S.str i
  h0 : ∀ i, j < i → S'.h0 i = S.h0 i
  h1 : ∀ i, j < i → S'.h1 i = S.h1 i
  pos : ∀ q, q ≠ p → (∀ i s, i ≤ j → q ≠ .at i s) → S'.pos q = S.pos q
  nx : ∀ s : Nat, (∀ i, i ≤ j → C.ls[i]? ≠ some (.source s)) → S'.nexts.getD s 0 = S.nexts.getD s 0
  len : ∀ i, (S.made i).length ≤ (S'.made i).length
  gone : S'.gone = S.gone
/-- what a pull gives -/
structure Got (C : Ct) (p : Pl) (S : Ms) (x : PyData) (S' : Ms) : Prop where
  frm : Frm C (C.tgt p) p S S'
  glob : Glob C S'
  low : Low C S' (C.tgt p + 1)
  hit : S.pos p < (Wl C (C.tgt p)).length → (Wl C (C.tgt p))[S.pos p]? = some x ∧ S'.pos p = S.pos p + 1
  miss : ¬ S.pos p < (Wl C (C.tgt p)).length → x = .none ∧ S'.pos p = S.pos p
  le : S'.pos p ≤ (S'.made (C.tgt p)).length
def Pulls (C : Ct) (pl : Pull) (i : Nat) : Prop := ∀ p S, C.tgt p < i → Low C S (C.tgt p + 1) → Glob C S → S.pos p ≤ (S.made (C.tgt p)).length → (∀ j s, j ≤ C.tgt p → p ≠ .at j s) → ∃ x S', pl p S = some (x, S') ∧ Got C p S x S'
open PySem PySem.Spec PyProof.Rows L2
section
variable {C : Ct} {ks : List Kd} {S S' S1 S2 : Ms} {i j : Nat} {p : Pl}
theorem Gd.src {C : Ct} {ks : List Kd} (g : Gd C ks) {i : Nat} {k : Int} (h : C.ls[i]? = some (.source k)) : 0 ≤ k ∧ k < C.lists.length ∧ ∀ j, j < i → C.ls[j]? ≠ some (.source k) := by
  obtain ⟨_, _, hp, _⟩ := g.good.at h
  have hp : ((decide (0 ≤ k) && decide (k < C.lists.length)) && !decide (k ∈ srcs (C.ls.take i))) = true := hp
  rw [Bool.and_eq_true, Bool.and_eq_true, decide_eq_true_eq, decide_eq_true_eq] at hp
  obtain ⟨⟨h1, h2⟩, h3⟩ := hp
  refine ⟨h1, h2, fun j hj e => ?_⟩
  have hm : k ∈ srcs (C.ls.take i) := by
    refine List.mem_filterMap.mpr ⟨.source k, List.mem_of_getElem? (i := j) ?_, rfl⟩
    rw [List.getElem?_take, if_pos hj]
    exact e
  rw [decide_eq_true hm] at h3
  cases h3
theorem Gd.uniq (g : Gd C ks) {k : Int} (h1 : C.ls[i]? = some (.source k)) (h2 : C.ls[j]? = some (.source k)) : i = j := by
  have a := (g.src h1).2.2 j
  have b := (g.src h2).2.2 i
  by_cases c : j < i
  · exact absurd h2 (a c)
  · by_cases d : i < j
    · exact absurd h1 (b d)
    · omega
/-- all but letting go stays -/
structure Sam (S S' : Ms) : Prop where
  made : S'.made = S.made
  over : S'.over = S.over
  str : S'.str = S.str
  h0 : S'.h0 = S.h0
  h1 : S'.h1 = S.h1
  pos : S'.pos = S.pos
  nexts : S'.nexts = S.nexts
  asks : S'.asks = S.asks
  gone : S'.gone = S.gone
theorem Sam.refl : Sam S S := ⟨rfl, rfl, rfl, rfl, rfl, rfl, rfl, rfl, rfl⟩
theorem Sam.trans (a : Sam S S1) (b : Sam S1 S2) : Sam S S2 := ⟨b.made.trans a.made, b.over.trans a.over, b.str.trans a.str, b.h0.trans a.h0, b.h1.trans a.h1, b.pos.trans a.pos, b.nexts.trans a.nexts, b.asks.trans a.asks, b.gone.trans a.gone⟩
theorem LnOk.same {l : Ln} (h : LnOk C S i l) (e1 : S'.made i = S.made i) (e2 : S'.str i = S.str i) (e3 : S'.h0 i = S.h0 i) (e4 : S'.h1 i = S.h1 i) (e5 : S'.pos (.at i 0) = S.pos (.at i 0)) (e6 : S'.pos (.at i 1) = S.pos (.at i 1)) (e7 : ∀ k, l = .source k → S'.nexts.getD k.toNat 0 = S.nexts.getD k.toNat 0) : LnOk C S' i l := by
  unfold LnOk at h ⊢
  dsimp only at h ⊢
  rw [e1, e2, e3, e4, e5, e6]
  cases l with
  | source k =>
    dsimp only at h ⊢
    rw [e7 k rfl]
    exact h
  | _ => exact h
theorem Sam.ln {l : Ln} (s : Sam S S') (h : LnOk C S i l) : LnOk C S' i l := h.same (by rw [s.made]) (by rw [s.str]) (by rw [s.h0]) (by rw [s.h1]) (by rw [s.pos]) (by rw [s.pos]) (fun k _ => by rw [s.nexts])
theorem Sam.low (s : Sam S S') (h : Low C S i) : Low C S' i := fun j l hj hl => by
  obtain ⟨h1, h2⟩ := h j l hj hl
  refine ⟨fun ho => s.ln (h1 (by rw [← s.over]; exact ho)), fun t ht => ?_⟩
  rw [s.pos, s.made]
  exact h2 t ht
/-- the rest of Glob, and room for what is let go of -/
theorem Sam.glob (s : Sam S S') (g : Glob C S) (hl : S'.left.length ≤ tot (fun i => b2n (S'.loose i)) C.ls.length + C.lists.length) : Glob C S' := by
  refine ⟨fun i hi => by rw [s.made]; exact g.pre i hi, fun i hi ho => by rw [s.made]; exact g.fin i hi (by rw [← s.over]; exact ho), ?_, hl, by rw [s.nexts]; exact g.nl⟩
  rw [s.asks, g.asks]
  refine tot_same fun i _ => ?_
  unfold asks1
  rw [s.made, s.over]
theorem b2n_le (b : Bool) : b2n b ≤ 1 := by cases b <;> decide
def TL (C : Ct) (S : Ms) : Nat := tot (fun i => b2n (S.loose i)) C.ls.length
theorem TL_le (C : Ct) (S : Ms) : TL C S ≤ C.ls.length := by
  have := tot_le (f := fun i => b2n (S.loose i)) (c := 1) (n := C.ls.length) fun i _ => b2n_le _
  unfold TL
  omega
/-- it lets go, and no more sources than lines -/
structure Lgo (C : Ct) (S S' : Ms) : Prop where
  sam : Sam S S'
  room : S'.left.length + TL C S ≤ S.left.length + TL C S'
theorem Lgo.refl : Lgo C S S := ⟨Sam.refl, Nat.le_refl _⟩
theorem Lgo.trans (a : Lgo C S S1) (b : Lgo C S1 S2) : Lgo C S S2 := ⟨a.sam.trans b.sam, by have := a.room; have := b.room; omega⟩
theorem Lgo.glob (a : Lgo C S S') (g : Glob C S) : Glob C S' := a.sam.glob g (by have := a.room; have := g.left; unfold TL at *; omega)
theorem letGo_ok (ok : CtOk C) (hm : C.lists.length ≤ 1000) : ∀ (f i : Nat) (S : Ms), i < f → i < C.ls.length → S.left.length ≤ TL C S + C.lists.length → ∃ S', letGo C f i S = some S' ∧ Lgo C S S' := by
  intro f
  induction f with
  | zero => intro i S h; exact absurd h (Nat.not_lt_zero i)
  | succ f ih =>
    intro i S hf hi g
    have l24 := ok.l24
    have lv : ∀ (s : Nat) (S : Ms) (l : Ln), C.ls[i]? = some l → s < l.names.length → S.left.length ≤ TL C S + C.lists.length → ∃ S', leaveW C (letGo C f) (.at i s) S = some S' ∧ Lgo C S S' := fun s S l hl hs g => by
      have ht := ok.tgt hl hs
      unfold leaveW
      dsimp only
      have sm : Lgo C S (S.setHold (C.tgt (.at i s)) (S.hold (C.tgt (.at i s)) - 1)) := ⟨⟨rfl, rfl, rfl, rfl, rfl, rfl, rfl, rfl, rfl⟩, Nat.le_refl _⟩
      split
      · obtain ⟨S', e, s'⟩ := ih (C.tgt (.at i s)) (S.setHold (C.tgt (.at i s)) (S.hold (C.tgt (.at i s)) - 1)) (by omega) (by omega) g
        exact ⟨S', e, sm.trans s'⟩
      · exact ⟨_, rfl, sm⟩
    show ∃ S', letGoW C (leaveW C (letGo C f)) i S = some S' ∧ Lgo C S S'
    unfold letGoW
    cases c : S.loose i with
    | true => rw [if_pos rfl]; exact ⟨S, rfl, Lgo.refl⟩
    | false =>
      rw [if_neg (by decide)]
      have hl : C.ls[i]? = some C.ls[i] := List.getElem?_eq_getElem hi
      generalize C.ls[i] = l at hl
      rw [hl]
      dsimp only
      have up : TL C (S.setLoose i) = TL C S + 1 := by
        refine tot_up hi (fun j hj => ?_) ?_
        · show b2n (S.loose j) = b2n (fset S.loose i true j)
          rw [fset_ne hj]
        · show b2n (fset S.loose i true i) = b2n (S.loose i) + 1
          rw [fset_self, c]; rfl
      have fold : ∀ (ss : List Nat) (S : Ms), (∀ s ∈ ss, s < l.names.length) → S.left.length ≤ TL C S + C.lists.length → ∃ S', foldP (fun s => leaveW C (letGo C f) (.at i s)) ss S = some S' ∧ Lgo C S S' := by
        intro ss
        induction ss with
        | nil => intro S _ _; exact ⟨S, rfl, Lgo.refl⟩
        | cons s ss ihs =>
          intro S hs g
          obtain ⟨S1, e1, s1⟩ := lv s S l hl (hs s List.mem_cons_self) g
          obtain ⟨S2, e2, s2⟩ := ihs S1 (fun t ht => hs t (List.mem_cons_of_mem _ ht)) (by have := s1.room; omega)
          refine ⟨S2, ?_, s1.trans s2⟩
          unfold foldP
          rw [e1]
          exact e2
      obtain ⟨S2, e2, s2⟩ := fold (List.range l.names.length) (S.setLoose i) (fun s hs => List.mem_range.mp hs) (by rw [up]; show S.left.length ≤ _; omega)
      rw [e2]
      dsimp only
      have sm : Sam S (S.setLoose i) := ⟨rfl, rfl, rfl, rfl, rfl, rfl, rfl, rfl, rfl⟩
      have r2 := s2.room
      rw [up] at r2
      have r2 : S2.left.length + (TL C S + 1) ≤ S.left.length + TL C S2 := r2
      have t2 := TL_le C S2
      cases l.src with
      | none => exact ⟨S2, rfl, ⟨sm.trans s2.sam, by omega⟩⟩
      | some k =>
        refine ⟨S2.leaveS k, gd_pos (by omega), ⟨sm.trans (s2.sam.trans ⟨rfl, rfl, rfl, rfl, rfl, rfl, rfl, rfl, rfl⟩), ?_⟩⟩
        show (S2.left ++ [k]).length + TL C S ≤ S.left.length + TL C S2
        rw [List.length_append, List.length_singleton]
        omega
theorem leaveM_ok (ok : CtOk C) (hm : C.lists.length ≤ 1000) (h25 : C.ls.length ≤ 24) {p : Pl} (ht : C.tgt p < C.ls.length) (g : S.left.length ≤ TL C S + C.lists.length) : ∃ S', leaveM C 25 p S = some S' ∧ Lgo C S S' := by
  unfold leaveM leaveW
  dsimp only
  have sm : Lgo C S (S.setHold (C.tgt p) (S.hold (C.tgt p) - 1)) := ⟨⟨rfl, rfl, rfl, rfl, rfl, rfl, rfl, rfl, rfl⟩, Nat.le_refl _⟩
  split
  · obtain ⟨S', e, s'⟩ := letGo_ok ok hm 25 (C.tgt p) (S.setHold (C.tgt p) (S.hold (C.tgt p) - 1)) (by omega) ht g
    exact ⟨S', e, sm.trans s'⟩
  · exact ⟨_, rfl, sm⟩
/-! ### what pulls ahead leave as it was -/
theorem Frm.refl : Frm C j p S S := ⟨fun _ _ => rfl, fun _ _ => rfl, fun _ _ => rfl, fun _ _ => rfl, fun _ _ => rfl, fun _ _ _ => rfl, fun _ _ => rfl, fun _ => Nat.le_refl _, rfl⟩
/-- in a step of line i: lines ahead of it, and its places -/
structure Bel (C : Ct) (i : Nat) (S S' : Ms) : Prop where
  made : ∀ j, i ≤ j → S'.made j = S.made j
  over : ∀ j, i ≤ j → S'.over j = S.over j
  str : ∀ j, i ≤ j → S'.str j = S.str j
  h0 : ∀ j, i ≤ j → S'.h0 j = S.h0 j
  h1 : ∀ j, i ≤ j → S'.h1 j = S.h1 j
  pos : ∀ q, (∀ j s, j ≤ i → q ≠ .at j s) → S'.pos q = S.pos q
  nx : ∀ s : Nat, (∀ j, j < i → C.ls[j]? ≠ some (.source s)) → S'.nexts.getD s 0 = S.nexts.getD s 0
  len : ∀ j, (S.made j).length ≤ (S'.made j).length
  gone : S'.gone = S.gone
theorem Bel.refl : Bel C i S S := ⟨fun _ _ => rfl, fun _ _ => rfl, fun _ _ => rfl, fun _ _ => rfl, fun _ _ => rfl, fun _ _ => rfl, fun _ _ => rfl, fun _ => Nat.le_refl _, rfl⟩
theorem Bel.trans (a : Bel C i S S1) (b : Bel C i S1 S2) : Bel C i S S2 := ⟨fun j h => (b.made j h).trans (a.made j h), fun j h => (b.over j h).trans (a.over j h), fun j h => (b.str j h).trans (a.str j h), fun j h => (b.h0 j h).trans (a.h0 j h), fun j h => (b.h1 j h).trans (a.h1 j h),
  fun q h => (b.pos q h).trans (a.pos q h), fun s h => (b.nx s h).trans (a.nx s h), fun j => Nat.le_trans (a.len j) (b.len j), b.gone.trans a.gone⟩
theorem Got.bel {s : Nat} {x : PyData} (h : Got C (.at i s) S x S') (ht : C.tgt (.at i s) < i) : Bel C i S S' :=
  ⟨fun j hj => h.frm.made j (by omega), fun j hj => h.frm.over j (by omega), fun j hj => h.frm.str j (by omega), fun j hj => h.frm.h0 j (by omega), fun j hj => h.frm.h1 j (by omega),
    fun q hq => h.frm.pos q (hq i s (Nat.le_refl i)) (fun j t hj => hq j t (by omega)), fun t ht' => h.frm.nx t fun j hj => ht' j (by omega), h.frm.len, h.frm.gone⟩
theorem Got.low_of {s : Nat} {x : PyData} (gd : Gd C ks) (h : Got C (.at i s) S x S') (ht : C.tgt (.at i s) < i) (low : Low C S i) : Low C S' i := fun j l hj hl => by
  by_cases c : j < C.tgt (.at i s) + 1
  · exact h.low j l c hl
  · obtain ⟨h1, h2⟩ := low j l hj hl
    have pe : ∀ t, S'.pos (.at j t) = S.pos (.at j t) := fun t => h.frm.pos _ (by intro z; cases z; omega) (fun j' t' hj' z => by cases z; omega)
    refine ⟨fun ho => (h1 (by rw [← h.frm.over j (by omega)]; exact ho)).same (h.frm.made j (by omega)) (h.frm.str j (by omega)) (h.frm.h0 j (by omega)) (h.frm.h1 j (by omega)) (pe 0) (pe 1) (fun k hk => ?_), fun t ht' => ?_⟩
    · subst hk
      obtain ⟨k0, _, ku⟩ := gd.src hl
      refine h.frm.nx k.toNat fun j' hj' e => ?_
      rw [Int.toNat_of_nonneg k0] at e
      exact ku j' (by omega) e
    · rw [pe t]
      exact Nat.le_trans (h2 t ht') (h.frm.len _)
/-- pulls of line i's own places -/
theorem Pulls.at {pl : Pull} (hp : Pulls C pl i) (gd : Gd C ks) {l : Ln} (hl : C.ls[i]? = some l) {s : Nat} (hs : s < l.names.length) (low : Low C S i) (g : Glob C S) (le : S.pos (.at i s) ≤ (S.made (C.tgt (.at i s))).length) :
    ∃ x S', pl (.at i s) S = some (x, S') ∧ Glob C S' ∧ Low C S' i ∧ Bel C i S S' ∧ (∀ t, t ≠ s → S'.pos (.at i t) = S.pos (.at i t)) ∧ S'.pos (.at i s) ≤ (S'.made (C.tgt (.at i s))).length ∧
      (S.pos (.at i s) < (Wl C (C.tgt (.at i s))).length → (Wl C (C.tgt (.at i s)))[S.pos (.at i s)]? = some x ∧ S'.pos (.at i s) = S.pos (.at i s) + 1) ∧ (¬ S.pos (.at i s) < (Wl C (C.tgt (.at i s))).length → x = .none ∧ S'.pos (.at i s) = S.pos (.at i s)) := by
  have ht := gd.run.ct.tgt hl hs
  obtain ⟨x, S', e, got⟩ := hp (.at i s) S ht (fun j l hj h => low j l (by omega) h) g le (fun j t hj z => by cases z; omega)
  refine ⟨x, S', e, got.glob, got.low_of gd ht low, got.bel ht, fun t hne => got.frm.pos _ (by intro z; cases z; exact hne rfl) (fun j' t' hj' z => by cases z; omega), got.le, got.hit, got.miss⟩
end
open PySem PySem.Spec PyProof.Rows L2
/-- Glob, but for e askings more -/
structure GlobE (C : Ct) (S : Ms) (e : Nat) : Prop where
  pre : ∀ i, i < C.ls.length → S.made i = (Wl C i).take (S.made i).length ∧ (S.made i).length ≤ (Wl C i).length
  fin : ∀ i, i < C.ls.length → S.over i = true → S.made i = Wl C i
  asks : S.asks.length = tot (asks1 C S) C.ls.length + e
  left : S.left.length ≤ tot (fun i => b2n (S.loose i)) C.ls.length + C.lists.length
  nl : S.nexts.length = C.lists.length
def isSrc : Ln → Bool
  | .source _ => true
  | _ => false
structure StepR (C : Ct) (i : Nat) (l : Ln) (S : Ms) (x : PyData) (S' : Ms) : Prop where
  glob : GlobE C S' (b2n (isSrc l))
  low : Low C S' i
  own : ∀ s, s < l.names.length → S'.pos (.at i s) ≤ (S'.made (C.tgt (.at i s))).length
  made : ∀ j, i ≤ j → S'.made j = S.made j
  over : ∀ j, i ≤ j → S'.over j = S.over j
  str : ∀ j, i < j → S'.str j = S.str j
  h0 : ∀ j, i < j → S'.h0 j = S.h0 j
  h1 : ∀ j, i < j → S'.h1 j = S.h1 j
  pos : ∀ q, (∀ j s, j ≤ i → q ≠ .at j s) → S'.pos q = S.pos q
  nx : ∀ s : Nat, (∀ j, j ≤ i → C.ls[j]? ≠ some (.source s)) → S'.nexts.getD s 0 = S.nexts.getD s 0
  len : ∀ j, (S.made j).length ≤ (S'.made j).length
  gone : S'.gone = S.gone
  hit : (S.made i).length < (Wl C i).length → (Wl C i)[(S.made i).length]? = some x ∧ LnOk C (S'.push i x) i l
  miss : ¬ (S.made i).length < (Wl C i).length → x = .none
section
variable {C : Ct} {ks : List Kd} {S S' S1 S2 : Ms} {i j : Nat} {p : Pl} {pl : Pull} {L : Nat} {l : Ln}
theorem Glob.e0 (g : Glob C S) : GlobE C S 0 := ⟨g.pre, g.fin, g.asks, g.left, g.nl⟩
/-- what a step of one pull leaves -/
theorem StepR.of_bel {x : PyData} (hs : isSrc l = false) (g : Glob C S') (low : Low C S' i) (own : ∀ s, s < l.names.length → S'.pos (.at i s) ≤ (S'.made (C.tgt (.at i s))).length) (b : Bel C i S S')
    (hit : (S.made i).length < (Wl C i).length → (Wl C i)[(S.made i).length]? = some x ∧ LnOk C (S'.push i x) i l) (miss : ¬ (S.made i).length < (Wl C i).length → x = .none) : StepR C i l S x S' :=
  ⟨by rw [hs]; exact g.e0, low, own, b.made, b.over, fun j hj => b.str j (Nat.le_of_lt hj), fun j hj => b.h0 j (Nat.le_of_lt hj), fun j hj => b.h1 j (Nat.le_of_lt hj), b.pos, fun s h => b.nx s fun j hj => h j (Nat.le_of_lt hj), b.len, b.gone, hit, miss⟩
theorem has_ne {k : Kd} {x : PyData} (h : Has k x) : x ≠ .none := by
  intro e
  subst e
  cases h
theorem pushed {x : PyData} : (S.push i x).made i = S.made i ++ [x] := fset_self
/-- the own line's state through such a pull -/
structure Own (C : Ct) (i : Nat) (S S' : Ms) : Prop where
  glob : Glob C S'
  low : Low C S' i
  bel : Bel C i S S'
theorem getE {α : Type} {xs : List α} {k : Nat} {x : α} (h : xs[k]? = some x) : k < xs.length := (List.getElem?_eq_some_iff.mp h).1
/-- map, fold, while, take, keep ..: one place -/
structure Pull0 (C : Ct) (i : Nat) (S : Ms) (x : PyData) (S1 : Ms) : Prop where
  own : Own C i S S1
  le : S1.pos (.at i 0) ≤ (S1.made (C.tgt (.at i 0))).length
  hit : S.pos (.at i 0) < (Wl C (C.tgt (.at i 0))).length → (Wl C (C.tgt (.at i 0)))[S.pos (.at i 0)]? = some x ∧ x ≠ .none ∧ S1.pos (.at i 0) = S.pos (.at i 0) + 1
  miss : ¬ S.pos (.at i 0) < (Wl C (C.tgt (.at i 0))).length → x = .none ∧ S1.pos (.at i 0) = S.pos (.at i 0)
  oth : ∀ t, t ≠ 0 → S1.pos (.at i t) = S.pos (.at i t)
theorem pull0 (gd : Gd C ks) (hp : Pulls C pl i) (hl : C.ls[i]? = some l) (h0 : 0 < l.names.length) (low : Low C S i) (g : Glob C S) (le : S.pos (.at i 0) ≤ (S.made (C.tgt (.at i 0))).length) :
    ∃ x S1, pl (.at i 0) S = some (x, S1) ∧ Pull0 C i S x S1 := by
  obtain ⟨x, S1, e, g1, l1, b1, o1, le1, hit, miss⟩ := hp.at gd hl h0 low g le
  obtain ⟨kn, k, h1, h2, h3⟩ := gd.kinds hl
  refine ⟨x, S1, e, ⟨g1, l1, b1⟩, le1, fun h => ?_, miss, o1⟩
  obtain ⟨a, b⟩ := hit h
  have hk : kn[0]? = some kn[0] := List.getElem?_eq_getElem (by omega)
  exact ⟨a, has_ne (h3 0 _ hk x (List.mem_of_getElem? a)), b⟩
theorem Gd.one (gd : Gd C ks) (hl : C.ls[i]? = some l) {a : Int} (e : l.names = [a]) : ∃ ka k, kindN l [ka] = some k ∧ ∀ x ∈ Wl C (C.tgt (.at i 0)), Has ka x := by
  obtain ⟨kn, k, h1, h2, h3⟩ := gd.kinds hl
  rw [e] at h1
  match kn, h1 with
  | [ka], _ => exact ⟨ka, k, h2, h3 0 ka rfl⟩
theorem Gd.two' (gd : Gd C ks) (hl : C.ls[i]? = some l) {a b : Int} (e : l.names = [a, b]) : ∃ ka kb k, kindN l [ka, kb] = some k ∧ (∀ x ∈ Wl C (C.tgt (.at i 0)), Has ka x) ∧ ∀ x ∈ Wl C (C.tgt (.at i 1)), Has kb x := by
  obtain ⟨kn, k, h1, h2, h3⟩ := gd.kinds hl
  rw [e] at h1
  match kn, h1 with
  | [ka, kb], _ => exact ⟨ka, kb, k, h2, h3 0 ka rfl, h3 1 kb rfl⟩
theorem take_snoc {α : Type} {xs : List α} {k : Nat} {x : α} (h : xs[k]? = some x) : xs.take (k + 1) = xs.take k ++ [x] := by
  rw [List.take_add_one, h]; rfl
theorem step_map (gd : Gd C ks) (hp : Pulls C pl i) {ds : List Deed} {a : Int} (hl : C.ls[i]? = some (.map ds a)) (low : Low C S i) (g : Glob C S) (own : ∀ s, s < 1 → S.pos (.at i s) ≤ (S.made (C.tgt (.at i s))).length) (hk : LnOk C S i (.map ds a)) :
    ∃ x S', stepL C pl L i S (.map ds a) = some (x, S') ∧ StepR C i (.map ds a) S x S' := by
  obtain ⟨x, S1, e, P⟩ := pull0 gd hp hl Nat.zero_lt_one low g (own 0 Nat.zero_lt_one)
  obtain ⟨ka, k', hkk, hty⟩ := gd.one hl rfl
  have hW := Wl_one gd.run.ct hl rfl
  have hW : Wl C i = (Wl C (C.tgt (.at i 0))).map (doneAll ds) := hW
  have hk : S.pos (.at i 0) = (S.made i).length := hk
  have lw : (Wl C i).length = (Wl C (C.tgt (.at i 0))).length := by rw [hW, List.length_map]
  have mi := P.own.bel.made i (Nat.le_refl i)
  have own1 : ∀ s, s < 1 → S1.pos (.at i s) ≤ (S1.made (C.tgt (.at i s))).length := fun s hs => by
    obtain rfl : s = 0 := by omega
    exact P.le
  unfold stepL
  rw [e]
  dsimp only
  by_cases c : S.pos (.at i 0) < (Wl C (C.tgt (.at i 0))).length
  · obtain ⟨h1, h2, h3⟩ := P.hit c
    rw [if_neg h2, gd_pos ⟨ka, k', hty x (List.mem_of_getElem? h1), hkk⟩]
    refine ⟨_, _, rfl, .of_bel rfl P.own.glob P.own.low own1 P.own.bel (fun _ => ⟨?_, ?_⟩) (fun h => absurd (by omega) h)⟩
    · rw [hW, List.getElem?_map, ← hk, h1]; rfl
    · show S1.pos (.at i 0) = ((S1.push i (doneAll ds x)).made i).length
      rw [pushed, List.length_append, h3, mi, hk]; rfl
  · obtain ⟨h1, h2⟩ := P.miss c
    rw [if_pos h1]
    refine ⟨_, _, rfl, .of_bel rfl P.own.glob P.own.low own1 P.own.bel (fun h => absurd (by omega) c) (fun _ => rfl)⟩
theorem foldI_at {f : Fw} : ∀ {ns : List Int} {n : Int} {k : Nat} {x : Int}, ns[k]? = some x → (foldI f n ns)[k]? = some (foldF f ((ns.take k).foldl (foldF f) n) x)
  | [], _, k, _, h => by simp at h
  | y :: ys, n, 0, x, h => by
    have h : y = x := by simpa using h
    subst h; rfl
  | y :: ys, n, k + 1, x, h => foldI_at (ns := ys) (n := foldF f n y) (by simpa using h)
theorem foldI_take {f : Fw} : ∀ {ns : List Int} {n : Int} {k : Nat}, (foldI f n ns).take k = foldI f n (ns.take k)
  | [], _, k => by simp [foldI]
  | y :: ys, n, 0 => rfl
  | y :: ys, n, k + 1 => congrArg (foldF f n y :: ·) (foldI_take (ns := ys) (n := foldF f n y))
theorem foldI_lastD {f : Fw} {n : Int} (ns : List Int) : ((foldI f n ns).map PyData.int).getLastD (.int n) = .int (ns.foldl (foldF f) n) := by
  have h := foldI_last (f := f) (ns := ns) (n := n)
  rcases List.eq_nil_or_concat ns with e | ⟨ini, la, e⟩
  · subst e; rfl
  · rw [List.concat_eq_append] at e
    subst e
    rw [foldI_snoc, List.map_append, List.foldl_append]
    simp
theorem step_fold (gd : Gd C ks) (hp : Pulls C pl i) {f : Fw} {n a : Int} (hl : C.ls[i]? = some (.fold f n a)) (low : Low C S i) (g : Glob C S) (own : ∀ s, s < 1 → S.pos (.at i s) ≤ (S.made (C.tgt (.at i s))).length) (hk : LnOk C S i (.fold f n a)) :
    ∃ x S', stepL C pl L i S (.fold f n a) = some (x, S') ∧ StepR C i (.fold f n a) S x S' := by
  obtain ⟨x, S1, e, P⟩ := pull0 gd hp hl Nat.zero_lt_one low g (own 0 Nat.zero_lt_one)
  obtain ⟨ka, k', hkk, hty⟩ := gd.one hl rfl
  obtain ⟨rfl, rfl⟩ := ifnum hkk
  obtain ⟨io, nu⟩ := ints_of hty
  have hi := (List.getElem?_eq_some_iff.mp hl).1
  have hN : Num n := isNum_iff.mp (gd.run.ct.num i _ hl)
  have hW : Wl C i = (foldI f n ((Wl C (C.tgt (.at i 0))).map toI)).map PyData.int := Wl_one gd.run.ct hl rfl
  have hk : S.pos (.at i 0) = (S.made i).length := hk
  have lw : (Wl C i).length = (Wl C (C.tgt (.at i 0))).length := by rw [hW, List.length_map, foldI_len, List.length_map]
  have mi := P.own.bel.made i (Nat.le_refl i)
  have own1 : ∀ s, s < 1 → S1.pos (.at i s) ≤ (S1.made (C.tgt (.at i s))).length := fun s hs => by
    obtain rfl : s = 0 := by omega
    exact P.le
  unfold stepL
  rw [e]
  dsimp only
  by_cases c : S.pos (.at i 0) < (Wl C (C.tgt (.at i 0))).length
  · obtain ⟨h1, h2, h3⟩ := P.hit c
    have hx := hty x (List.mem_of_getElem? h1)
    obtain ⟨z, rfl, hz⟩ := hx.int
    have hz1 : ((Wl C (C.tgt (.at i 0))).map toI)[(S.made i).length]? = some z := by rw [List.getElem?_map, ← hk, h1]; rfl
    have pm := (g.pre i hi).1
    have md : S1.made i = (foldI f n (((Wl C (C.tgt (.at i 0))).map toI).take (S.made i).length)).map PyData.int := by
      rw [mi, pm, hW, ← List.map_take, foldI_take, List.length_map, foldI_len, List.length_take]
      congr 2
      rw [Nat.min_eq_left (by rw [List.length_map]; omega)]
    have ld : (S1.made i).getLastD (.int n) = .int ((((Wl C (C.tgt (.at i 0))).map toI).take (S.made i).length).foldl (foldF f) n) := by
      rw [md, foldI_lastD]
    rw [if_neg h2, ld, gd_pos ⟨hx, .num (foldl_num hN fun q hq => nu q (List.mem_of_mem_take hq))⟩]
    refine ⟨_, _, rfl, .of_bel rfl P.own.glob P.own.low own1 P.own.bel (fun _ => ⟨?_, ?_⟩) (fun h => absurd (by omega) h)⟩
    · rw [hW, List.getElem?_map, foldI_at hz1]; rfl
    · show S1.pos (.at i 0) = ((S1.push i _).made i).length
      rw [pushed, List.length_append, h3, mi, hk]; rfl
  · obtain ⟨h1, h2⟩ := P.miss c
    rw [if_pos h1]
    refine ⟨_, _, rfl, .of_bel rfl P.own.glob P.own.low own1 P.own.bel (fun h => absurd (by omega) c) (fun _ => rfl)⟩
end
open PySem PySem.Spec PyProof.Rows L2
theorem tw_gen {α : Type} {p : α → Bool} : ∀ {xs : List α} {k : Nat} {x : α}, xs[k]? = some x → (∀ y ∈ xs.take k, p y = true) → (p x = true → (xs.takeWhile p)[k]? = some x) ∧ (p x = false → (xs.takeWhile p).length = k)
  | [], k, x, h, _ => by simp at h
  | y :: ys, 0, x, h, _ => by
    have h : y = x := by simpa using h
    subst h
    refine ⟨fun e => ?_, fun e => ?_⟩
    · rw [List.takeWhile_cons_of_pos e]; rfl
    · rw [List.takeWhile_cons_of_neg (by rw [e]; decide)]; rfl
  | y :: ys, k + 1, x, h, g => by
    have g0 := g y (by simp)
    obtain ⟨h1, h2⟩ := tw_gen (p := p) (xs := ys) (k := k) (x := x) (by simpa using h) (fun z hz => g z (by rw [List.take_succ_cons]; exact List.mem_cons_of_mem _ hz))
    refine ⟨fun e => ?_, fun e => ?_⟩
    · rw [List.takeWhile_cons_of_pos g0]; exact h1 e
    · rw [List.takeWhile_cons_of_pos g0, List.length_cons, h2 e]
section
variable {C : Ct} {ks : List Kd} {S S' S1 S2 : Ms} {i j : Nat} {p : Pl} {pl : Pull} {L : Nat} {l : Ln}
theorem own_one (P : Pull0 C i S x S1) : ∀ s, s < 1 → S1.pos (.at i s) ≤ (S1.made (C.tgt (.at i s))).length := fun s hs => by
  obtain rfl : s = 0 := by omega
  exact P.le
theorem step_whil (gd : Gd C ks) (hp : Pulls C pl i) {ts : List Tst} {a : Int} (hl : C.ls[i]? = some (.whil ts a)) (low : Low C S i) (g : Glob C S) (own : ∀ s, s < 1 → S.pos (.at i s) ≤ (S.made (C.tgt (.at i s))).length) (hk : LnOk C S i (.whil ts a)) :
    ∃ x S', stepL C pl L i S (.whil ts a) = some (x, S') ∧ StepR C i (.whil ts a) S x S' := by
  obtain ⟨x, S1, e, P⟩ := pull0 gd hp hl Nat.zero_lt_one low g (own 0 Nat.zero_lt_one)
  obtain ⟨ka, k', hkk, hty⟩ := gd.one hl rfl
  obtain ⟨rfl, rfl⟩ := ifnum hkk
  have hW : Wl C i = (Wl C (C.tgt (.at i 0))).takeWhile (met ts) := Wl_one gd.run.ct hl rfl
  obtain ⟨hk, hm⟩ := (show S.pos (.at i 0) = (S.made i).length ∧ ∀ x ∈ (Wl C (C.tgt (.at i 0))).take (S.made i).length, met ts x = true from hk)
  have lw : (Wl C i).length ≤ (Wl C (C.tgt (.at i 0))).length := by rw [hW]; exact (List.takeWhile_sublist _).length_le
  have mi := P.own.bel.made i (Nat.le_refl i)
  unfold stepL
  rw [e]
  dsimp only
  by_cases c : S.pos (.at i 0) < (Wl C (C.tgt (.at i 0))).length
  · obtain ⟨h1, h2, h3⟩ := P.hit c
    obtain ⟨z, rfl, hz⟩ := (hty x (List.mem_of_getElem? h1)).int
    rw [hk] at h1
    obtain ⟨w1, w2⟩ := tw_gen (p := met ts) h1 hm
    rw [if_neg h2, gd_pos (p := isI (.int z)) trivial]
    by_cases c2 : met ts (.int z) = true
    · rw [if_pos c2]
      have hw := w1 c2
      rw [← hW] at hw
      refine ⟨_, _, rfl, .of_bel rfl P.own.glob P.own.low (own_one P) P.own.bel (fun _ => ⟨hw, ?_, ?_⟩) (fun h => absurd (getE hw) h)⟩
      · show S1.pos (.at i 0) = ((S1.push i _).made i).length
        rw [pushed, List.length_append, h3, mi, hk]; rfl
      · intro y hy
        have hy : y ∈ (Wl C (C.tgt (.at i 0))).take ((S1.push i (.int z)).made i).length := hy
        rw [pushed, List.length_append, mi] at hy
        have hy : y ∈ (Wl C (C.tgt (.at i 0))).take ((S.made i).length + 1) := hy
        rw [take_snoc h1] at hy
        rcases List.mem_append.mp hy with hy | hy
        · exact hm y hy
        · rw [List.mem_singleton.mp hy]; exact c2
    · rw [if_neg c2]
      have hw := w2 (Bool.eq_false_iff.mpr c2)
      rw [← hW] at hw
      exact ⟨_, _, rfl, .of_bel rfl P.own.glob P.own.low (own_one P) P.own.bel (fun h => absurd h (by omega)) (fun _ => rfl)⟩
  · obtain ⟨h1, h2⟩ := P.miss c
    rw [if_pos h1]
    exact ⟨_, _, rfl, .of_bel rfl P.own.glob P.own.low (own_one P) P.own.bel (fun h => absurd (by omega) c) (fun _ => rfl)⟩
theorem step_take (gd : Gd C ks) (hp : Pulls C pl i) {n a : Int} (hl : C.ls[i]? = some (.take n a)) (low : Low C S i) (g : Glob C S) (own : ∀ s, s < 1 → S.pos (.at i s) ≤ (S.made (C.tgt (.at i s))).length) (hk : LnOk C S i (.take n a)) :
    ∃ x S', stepL C pl L i S (.take n a) = some (x, S') ∧ StepR C i (.take n a) S x S' := by
  obtain ⟨x, S1, e, P⟩ := pull0 gd hp hl Nat.zero_lt_one low g (own 0 Nat.zero_lt_one)
  have hn : (decide (0 ≤ n) && decide (n ≤ 9999)) = true := gd.run.ct.num i _ hl
  rw [Bool.and_eq_true, decide_eq_true_eq] at hn
  have hW : Wl C i = (Wl C (C.tgt (.at i 0))).take n.toNat := Wl_one gd.run.ct hl rfl
  obtain ⟨hk, hm⟩ := (show S.pos (.at i 0) = (S.made i).length ∧ ((S.made i).length : Int) ≤ n from hk)
  have lw : (Wl C i).length = min n.toNat (Wl C (C.tgt (.at i 0))).length := by rw [hW, List.length_take]
  have mi := P.own.bel.made i (Nat.le_refl i)
  unfold stepL
  dsimp only
  by_cases c0 : ((S.made i).length : Int) = n
  · rw [if_pos c0]
    exact ⟨_, _, rfl, .of_bel rfl g low own Bel.refl (fun h => absurd h (by omega)) (fun _ => rfl)⟩
  · rw [if_neg c0]
    by_cases c : S.pos (.at i 0) < (Wl C (C.tgt (.at i 0))).length
    · obtain ⟨h1, h2, h3⟩ := P.hit c
      refine ⟨_, _, e, .of_bel rfl P.own.glob P.own.low (own_one P) P.own.bel (fun _ => ⟨?_, ?_, ?_⟩) (fun h => absurd (by omega) h)⟩
      · rw [hW, List.getElem?_take, if_pos (by omega), ← hk]; exact h1
      · show S1.pos (.at i 0) = ((S1.push i _).made i).length
        rw [pushed, List.length_append, h3, mi, hk]; rfl
      · show (((S1.push i x).made i).length : Int) ≤ n
        rw [pushed, List.length_append, mi]
        show (((S.made i).length + 1 : Nat) : Int) ≤ n
        omega
    · obtain ⟨h1, h2⟩ := P.miss c
      subst h1
      exact ⟨_, _, e, .of_bel rfl P.own.glob P.own.low (own_one P) P.own.bel (fun h => absurd (by omega) c) (fun _ => rfl)⟩
/-- a loop of pulls: what holds from the beginning of the step -/
structure Lp (C : Ct) (i : Nat) (S S1 : Ms) : Prop where
  own : Own C i S S1
  le : S1.pos (.at i 0) ≤ (S1.made (C.tgt (.at i 0))).length
  oth : ∀ t, t ≠ 0 → S1.pos (.at i t) = S.pos (.at i t)
theorem Lp.start (low : Low C S i) (g : Glob C S) (le : S.pos (.at i 0) ≤ (S.made (C.tgt (.at i 0))).length) : Lp C i S S := ⟨⟨g, low, Bel.refl⟩, le, fun _ _ => rfl⟩
theorem Pull0.lp {x : PyData} (P : Pull0 C i S x S1) : Lp C i S S1 := ⟨P.own, P.le, P.oth⟩
theorem Lp.next {x : PyData} (a : Lp C i S S1) (P : Pull0 C i S1 x S2) : Lp C i S S2 := ⟨⟨P.own.glob, P.own.low, a.own.bel.trans P.own.bel⟩, P.le, fun t h => (P.oth t h).trans (a.oth t h)⟩
theorem Lp.pull (gd : Gd C ks) (hp : Pulls C pl i) (hl : C.ls[i]? = some l) (h0 : 0 < l.names.length) (a : Lp C i S S1) : ∃ x S2, pl (.at i 0) S1 = some (x, S2) ∧ Pull0 C i S1 x S2 := pull0 gd hp hl h0 a.own.low a.own.glob a.le
theorem Lp.leA (gd : Gd C ks) (hl : C.ls[i]? = some l) (h0 : 0 < l.names.length) (a : Lp C i S S1) : S1.pos (.at i 0) ≤ (Wl C (C.tgt (.at i 0))).length := by
  have ht := gd.run.ct.tgt hl h0
  have hi := (List.getElem?_eq_some_iff.mp hl).1
  exact Nat.le_trans a.le (a.own.glob.pre _ (by omega)).2
theorem skipL_ok (gd : Gd C ks) (hp : Pulls C pl i) (hl : C.ls[i]? = some l) (h0 : 0 < l.names.length) {t : Int} : ∀ (L : Nat) (S1 : Ms), Lp C i S S1 → (t - S1.pos (.at i 0)).toNat < L →
    ∃ b S2, skipL pl i t L S1 = some (b, S2) ∧ Lp C i S S2 ∧ (b = false → (S2.pos (.at i 0) : Int) = max (S1.pos (.at i 0) : Int) t) ∧ (b = true → ((Wl C (C.tgt (.at i 0))).length : Int) < t ∧ S2.pos (.at i 0) = (Wl C (C.tgt (.at i 0))).length) := by
  intro L
  induction L with
  | zero => intro S1 _ h; exact absurd h (Nat.not_lt_zero _)
  | succ L ih =>
    intro S1 a hL
    unfold skipL
    by_cases c : (S1.pos (.at i 0) : Int) < t
    · rw [if_pos c]
      obtain ⟨x, S2, e, P⟩ := a.pull gd hp hl h0
      rw [e]
      dsimp only
      by_cases c2 : S1.pos (.at i 0) < (Wl C (C.tgt (.at i 0))).length
      · obtain ⟨h1, h2, h3⟩ := P.hit c2
        rw [if_neg h2]
        obtain ⟨b, S3, e3, l3, b1, b2⟩ := ih S2 (a.next P) (by omega)
        exact ⟨b, S3, e3, l3, fun h => by rw [b1 h, h3]; omega, b2⟩
      · obtain ⟨h1, h2⟩ := P.miss c2
        rw [if_pos h1]
        have := a.leA gd hl h0
        exact ⟨true, S2, rfl, a.next P, (fun h => nomatch h), fun _ => ⟨by omega, by omega⟩⟩
    · rw [if_neg c]
      exact ⟨false, S1, rfl, a, fun _ => by omega, (fun h => nomatch h)⟩
theorem Lp.own1 (a : Lp C i S S1) : ∀ s, s < 1 → S1.pos (.at i s) ≤ (S1.made (C.tgt (.at i s))).length := fun s hs => by
  obtain rfl : s = 0 := by omega
  exact a.le
theorem step_skip (gd : Gd C ks) (hp : Pulls C pl i) {n a : Int} (hl : C.ls[i]? = some (.skip n a)) (hL : 60000 ≤ L) (low : Low C S i) (g : Glob C S) (own : ∀ s, s < 1 → S.pos (.at i s) ≤ (S.made (C.tgt (.at i s))).length) (hk : LnOk C S i (.skip n a)) :
    ∃ x S', stepL C pl L i S (.skip n a) = some (x, S') ∧ StepR C i (.skip n a) S x S' := by
  have hn : (decide (0 ≤ n) && decide (n ≤ 9999)) = true := gd.run.ct.num i _ hl
  rw [Bool.and_eq_true, decide_eq_true_eq, decide_eq_true_eq] at hn
  have hW : Wl C i = (Wl C (C.tgt (.at i 0))).drop n.toNat := Wl_one gd.run.ct hl rfl
  have lw : (Wl C i).length = (Wl C (C.tgt (.at i 0))).length - n.toNat := by rw [hW, List.length_drop]
  have hk : ((S.made i).length = 0 ∧ S.pos (.at i 0) = 0) ∨ (0 < (S.made i).length ∧ (S.pos (.at i 0) : Int) = n + (S.made i).length) := hk
  obtain ⟨b, S1, e1, a1, b1, b2⟩ := skipL_ok gd hp hl Nat.zero_lt_one (t := n) L S (.start low g (own 0 Nat.zero_lt_one)) (by omega)
  unfold stepL
  dsimp only
  rw [e1]
  dsimp only
  cases b with
  | true =>
    obtain ⟨c1, c2⟩ := b2 rfl
    rw [if_pos rfl]
    exact ⟨_, _, rfl, .of_bel rfl a1.own.glob a1.own.low a1.own1 a1.own.bel (fun h => absurd h (by omega)) (fun _ => rfl)⟩
  | false =>
    have c1 := b1 rfl
    rw [if_neg (by decide)]
    obtain ⟨x, S2, e2, P⟩ := a1.pull gd hp hl Nat.zero_lt_one
    have a2 := a1.next P
    have mi := a2.own.bel.made i (Nat.le_refl i)
    have pz : S1.pos (.at i 0) = n.toNat + (S.made i).length := by omega
    by_cases c : S1.pos (.at i 0) < (Wl C (C.tgt (.at i 0))).length
    · obtain ⟨h1, h2, h3⟩ := P.hit c
      refine ⟨_, _, e2, .of_bel rfl a2.own.glob a2.own.low a2.own1 a2.own.bel (fun _ => ⟨?_, .inr ⟨?_, ?_⟩⟩) (fun h => absurd (by omega) h)⟩
      · rw [hW, List.getElem?_drop, ← pz]; exact h1
      · show 0 < ((S2.push i x).made i).length
        rw [pushed, List.length_append]
        exact Nat.succ_pos _
      · show (S2.pos (.at i 0) : Int) = n + ((S2.push i x).made i).length
        rw [pushed, List.length_append, mi, h3]
        show ((S1.pos (.at i 0) + 1 : Nat) : Int) = n + ((S.made i).length + 1 : Nat)
        omega
    · obtain ⟨h1, h2⟩ := P.miss c
      subst h1
      exact ⟨_, _, e2, .of_bel rfl a2.own.glob a2.own.low a2.own1 a2.own.bel (fun h => absurd (by omega) c) (fun _ => rfl)⟩
theorem step_window (gd : Gd C ks) (hp : Pulls C pl i) {n a : Int} (hl : C.ls[i]? = some (.window n a)) (hL : 60000 ≤ L) (low : Low C S i) (g : Glob C S) (own : ∀ s, s < 1 → S.pos (.at i s) ≤ (S.made (C.tgt (.at i s))).length) (hk : LnOk C S i (.window n a)) :
    ∃ x S', stepL C pl L i S (.window n a) = some (x, S') ∧ StepR C i (.window n a) S x S' := by
  have hn : (decide (1 ≤ n) && decide (n ≤ 9)) = true := gd.run.ct.num i _ hl
  rw [Bool.and_eq_true, decide_eq_true_eq, decide_eq_true_eq] at hn
  have hi := (List.getElem?_eq_some_iff.mp hl).1
  have ht := gd.run.ct.tgt hl (s := 0) Nat.zero_lt_one
  have hW : Wl C i = windows n.toNat (Wl C (C.tgt (.at i 0))) := Wl_one gd.run.ct hl rfl
  have lw : (Wl C i).length = (Wl C (C.tgt (.at i 0))).length + 1 - n.toNat := by rw [hW]; unfold windows; rw [List.length_map, List.length_range]
  have hk : ((S.made i).length = 0 ∧ S.pos (.at i 0) = 0) ∨ (0 < (S.made i).length ∧ (S.pos (.at i 0) : Int) = n + (S.made i).length - 1) := hk
  have l5 := gd.len (C.tgt (.at i 0))
  have ml := (g.pre i hi).2
  obtain ⟨b, S1, e1, a1, b1, b2⟩ := skipL_ok gd hp hl Nat.zero_lt_one (t := (S.made i).length + n) L S (.start low g (own 0 Nat.zero_lt_one)) (by omega)
  unfold stepL
  dsimp only
  rw [e1]
  dsimp only
  have mi := a1.own.bel.made i (Nat.le_refl i)
  cases b with
  | true =>
    obtain ⟨c1, c2⟩ := b2 rfl
    rw [if_pos rfl]
    exact ⟨_, _, rfl, .of_bel rfl a1.own.glob a1.own.low a1.own1 a1.own.bel (fun h => absurd h (by omega)) (fun _ => rfl)⟩
  | false =>
    have c1 := b1 rfl
    rw [if_neg (by decide)]
    have pz : S1.pos (.at i 0) = (S.made i).length + n.toNat := by omega
    have la := a1.leA gd hl Nat.zero_lt_one
    have pm := (a1.own.glob.pre (C.tgt (.at i 0)) (by omega)).1
    have tk : (S1.made (C.tgt (.at i 0))).take (S1.pos (.at i 0)) = (Wl C (C.tgt (.at i 0))).take (S1.pos (.at i 0)) := by
      rw [pm, List.take_take, Nat.min_eq_left a1.le]
    refine ⟨_, _, rfl, .of_bel rfl a1.own.glob a1.own.low a1.own1 a1.own.bel (fun _ => ⟨?_, .inr ⟨?_, ?_⟩⟩) (fun h => absurd (by omega) h)⟩
    · rw [tk, hW]
      unfold windows
      rw [List.getElem?_map, List.getElem?_range (by omega)]
      show some (PyData.tuple _) = some (.tuple _)
      rw [pz, List.drop_take, Nat.add_sub_cancel_left]
    · show 0 < ((S1.push i _).made i).length
      rw [pushed, List.length_append]
      exact Nat.succ_pos _
    · show (S1.pos (.at i 0) : Int) = n + ((S1.push i _).made i).length - 1
      rw [pushed, List.length_append, mi, pz]
      show (((S.made i).length + n.toNat : Nat) : Int) = n + ((S.made i).length + 1 : Nat) - 1
      omega
theorem keepL_ok (gd : Gd C ks) (hp : Pulls C pl i) {ts : List Tst} {a : Int} (hl : C.ls[i]? = some (.keep ts a)) (hty : ∀ x ∈ Wl C (C.tgt (.at i 0)), Has .num x) : ∀ (L : Nat) (x : PyData) (S1 : Ms), Lp C i S S1 →
    ((0 < L ∧ x = .none ∧ S1.pos (.at i 0) = (Wl C (C.tgt (.at i 0))).length ∧ (Wl C (C.tgt (.at i 0))).filter (met ts) = S.made i) ∨ ((Wl C (C.tgt (.at i 0))).length - S1.pos (.at i 0) + 1 < L ∧ ∃ q, S1.pos (.at i 0) = q + 1 ∧ (Wl C (C.tgt (.at i 0)))[q]? = some x ∧ ((Wl C (C.tgt (.at i 0))).take q).filter (met ts) = S.made i)) →
    ∃ y S2, keepL pl i ts L x S1 = some (y, S2) ∧ Lp C i S S2 ∧ ((y = .none ∧ (Wl C (C.tgt (.at i 0))).filter (met ts) = S.made i) ∨ (∃ q, S2.pos (.at i 0) = q + 1 ∧ (Wl C (C.tgt (.at i 0)))[q]? = some y ∧ ((Wl C (C.tgt (.at i 0))).take q).filter (met ts) = S.made i ∧ met ts y = true)) := by
  intro L
  induction L with
  | zero => intro x S1 _ h; rcases h with ⟨h, _⟩ | ⟨h, _⟩ <;> exact absurd h (Nat.not_lt_zero _)
  | succ L ih =>
    intro x S1 a1 h
    unfold keepL
    rcases h with ⟨_, rfl, h1, h2⟩ | ⟨hL, q, h1, h2, h3⟩
    · rw [if_pos rfl]
      exact ⟨_, _, rfl, a1, .inl ⟨rfl, h2⟩⟩
    · obtain ⟨z, rfl, hz⟩ := (hty x (List.mem_of_getElem? h2)).int
      rw [if_neg (fun e => nomatch e), gd_pos (p := isI (.int z)) trivial]
      by_cases c : met ts (.int z) = true
      · rw [if_pos c]
        exact ⟨_, _, rfl, a1, .inr ⟨q, h1, h2, h3, c⟩⟩
      · rw [if_neg c]
        obtain ⟨y, S2, e, P⟩ := a1.pull gd hp hl Nat.zero_lt_one
        rw [e]
        dsimp only
        have hq := getE h2
        have f1 : ((Wl C (C.tgt (.at i 0))).take (q + 1)).filter (met ts) = S.made i := by
          rw [take_snoc h2, List.filter_append, h3, List.filter_cons_of_neg c, List.filter_nil, List.append_nil]
        by_cases c2 : S1.pos (.at i 0) < (Wl C (C.tgt (.at i 0))).length
        · obtain ⟨g1, g2, g3⟩ := P.hit c2
          exact ih y S2 (a1.next P) (.inr ⟨by omega, q + 1, by omega, by rw [← h1]; exact g1, f1⟩)
        · obtain ⟨g1, g2⟩ := P.miss c2
          refine ih y S2 (a1.next P) (.inl ⟨by omega, g1, by omega, ?_⟩)
          rw [← f1, List.take_of_length_le (by omega)]
theorem step_keep (gd : Gd C ks) (hp : Pulls C pl i) {ts : List Tst} {a : Int} (hl : C.ls[i]? = some (.keep ts a)) (hL : 60000 ≤ L) (low : Low C S i) (g : Glob C S) (own : ∀ s, s < 1 → S.pos (.at i s) ≤ (S.made (C.tgt (.at i s))).length) (hk : LnOk C S i (.keep ts a)) :
    ∃ x S', stepL C pl L i S (.keep ts a) = some (x, S') ∧ StepR C i (.keep ts a) S x S' := by
  obtain ⟨x, S1, e, P⟩ := pull0 gd hp hl Nat.zero_lt_one low g (own 0 Nat.zero_lt_one)
  obtain ⟨ka, k', hkk, hty⟩ := gd.one hl rfl
  obtain ⟨rfl, rfl⟩ := ifnum hkk
  have hW : Wl C i = (Wl C (C.tgt (.at i 0))).filter (met ts) := Wl_one gd.run.ct hl rfl
  have hk : ((Wl C (C.tgt (.at i 0))).take (S.pos (.at i 0))).filter (met ts) = S.made i := hk
  have l5 := gd.len (C.tgt (.at i 0))
  have lA := (Lp.start low g (own 0 Nat.zero_lt_one)).leA gd hl Nat.zero_lt_one
  unfold stepL
  rw [e]
  dsimp only
  obtain ⟨y, S2, e2, a2, h⟩ := keepL_ok gd hp hl hty L x S1 P.lp (by
    by_cases c : S.pos (.at i 0) < (Wl C (C.tgt (.at i 0))).length
    · obtain ⟨h1, h2, h3⟩ := P.hit c
      exact .inr ⟨by omega, _, h3, h1, hk⟩
    · obtain ⟨h1, h2⟩ := P.miss c
      refine .inl ⟨by omega, h1, by omega, ?_⟩
      rw [← hk, List.take_of_length_le (by omega)])
  rw [e2]
  have mi := a2.own.bel.made i (Nat.le_refl i)
  rcases h with ⟨rfl, h⟩ | ⟨q, h1, h2, h3, h4⟩
  · exact ⟨_, _, rfl, .of_bel rfl a2.own.glob a2.own.low a2.own1 a2.own.bel (fun hh => absurd hh (by rw [hW, h]; omega)) (fun _ => rfl)⟩
  · have sp : Wl C i = S.made i ++ y :: ((Wl C (C.tgt (.at i 0))).drop (q + 1)).filter (met ts) := by
      rw [hW, ← h3]
      conv => lhs; rw [← List.take_append_drop q (Wl C (C.tgt (.at i 0)))]
      rw [List.filter_append, drop_at h2, List.filter_cons_of_pos h4]
    refine ⟨_, _, rfl, .of_bel rfl a2.own.glob a2.own.low a2.own1 a2.own.bel (fun _ => ⟨?_, ?_⟩) (fun hh => absurd (by rw [sp, List.length_append, List.length_cons]; omega) hh)⟩
    · rw [sp, List.getElem?_append_right (Nat.le_refl _), Nat.sub_self]; rfl
    · show ((Wl C (C.tgt (.at i 0))).take (S2.pos (.at i 0))).filter (met ts) = (S2.push i y).made i
      rw [pushed, mi, h1, take_snoc h2, List.filter_append, h3, List.filter_cons_of_pos h4, List.filter_nil]
end
open PySem PySem.Spec PyProof.Rows L2
/-- a step's frame, where the line's own holdings may change -/
structure BelS (C : Ct) (i : Nat) (S S' : Ms) : Prop where
  made : ∀ j, i ≤ j → S'.made j = S.made j
  over : ∀ j, i ≤ j → S'.over j = S.over j
  str : ∀ j, i < j → S'.str j = S.str j
  h0 : ∀ j, i < j → S'.h0 j = S.h0 j
  h1 : ∀ j, i < j → S'.h1 j = S.h1 j
  pos : ∀ q, (∀ j s, j ≤ i → q ≠ .at j s) → S'.pos q = S.pos q
  nx : ∀ s : Nat, (∀ j, j ≤ i → C.ls[j]? ≠ some (.source s)) → S'.nexts.getD s 0 = S.nexts.getD s 0
  len : ∀ j, (S.made j).length ≤ (S'.made j).length
  gone : S'.gone = S.gone
section
variable {C : Ct} {ks : List Kd} {S S' S1 S2 : Ms} {i j : Nat} {p : Pl} {pl : Pull} {L : Nat} {l : Ln}
theorem Bel.s (b : Bel C i S S') : BelS C i S S' := ⟨b.made, b.over, fun j hj => b.str j (Nat.le_of_lt hj), fun j hj => b.h0 j (Nat.le_of_lt hj), fun j hj => b.h1 j (Nat.le_of_lt hj), b.pos, fun s h => b.nx s fun j hj => h j (Nat.le_of_lt hj), b.len, b.gone⟩
theorem BelS.trans (a : BelS C i S S1) (b : BelS C i S1 S2) : BelS C i S S2 := ⟨fun j h => (b.made j h).trans (a.made j h), fun j h => (b.over j h).trans (a.over j h), fun j h => (b.str j h).trans (a.str j h), fun j h => (b.h0 j h).trans (a.h0 j h), fun j h => (b.h1 j h).trans (a.h1 j h),
  fun q h => (b.pos q h).trans (a.pos q h), fun s h => (b.nx s h).trans (a.nx s h), fun j => Nat.le_trans (a.len j) (b.len j), b.gone.trans a.gone⟩
theorem StepR.of_belS {x : PyData} (hs : isSrc l = false) (g : Glob C S') (low : Low C S' i) (own : ∀ s, s < l.names.length → S'.pos (.at i s) ≤ (S'.made (C.tgt (.at i s))).length) (b : BelS C i S S')
    (hit : (S.made i).length < (Wl C i).length → (Wl C i)[(S.made i).length]? = some x ∧ LnOk C (S'.push i x) i l) (miss : ¬ (S.made i).length < (Wl C i).length → x = .none) : StepR C i l S x S' :=
  ⟨by rw [hs]; exact g.e0, low, own, b.made, b.over, b.str, b.h0, b.h1, b.pos, b.nx, b.len, b.gone, hit, miss⟩
/-- what line i alone holds is of no matter to the rest -/
theorem Glob.own {S' : Ms} (g : Glob C S) (e1 : S'.made = S.made) (e2 : S'.over = S.over) (e3 : S'.asks = S.asks) (e4 : S'.left = S.left) (e5 : S'.loose = S.loose) (e6 : S'.nexts = S.nexts) : Glob C S' := by
  refine ⟨fun i hi => by rw [e1]; exact g.pre i hi, fun i hi ho => by rw [e1]; exact g.fin i hi (by rw [← e2]; exact ho), ?_, by rw [e4, e5]; exact g.left, by rw [e6]; exact g.nl⟩
  rw [e3, g.asks]
  refine tot_same fun i _ => ?_
  unfold asks1
  rw [e1, e2]
theorem Low.own {S' : Ms} (low : Low C S i) (e1 : S'.made = S.made) (e2 : S'.over = S.over) (e3 : S'.pos = S.pos) (e4 : S'.nexts = S.nexts) (e5 : ∀ j, j < i → S'.str j = S.str j ∧ S'.h0 j = S.h0 j ∧ S'.h1 j = S.h1 j) : Low C S' i := fun j l hj hl => by
  obtain ⟨h1, h2⟩ := low j l hj hl
  obtain ⟨a, b, c⟩ := e5 j hj
  refine ⟨fun ho => (h1 (by rw [← e2]; exact ho)).same (by rw [e1]) a b c (by rw [e3]) (by rw [e3]) (fun k _ => by rw [e4]), fun s hs => ?_⟩
  rw [e3, e1]
  exact h2 s hs
theorem setH_flat (S : Ms) (i s : Nat) (d : PyData) : (S.setH i s d).made = S.made ∧ (S.setH i s d).over = S.over ∧ (S.setH i s d).asks = S.asks ∧ (S.setH i s d).left = S.left ∧ (S.setH i s d).loose = S.loose ∧ (S.setH i s d).nexts = S.nexts ∧ (S.setH i s d).pos = S.pos ∧ (S.setH i s d).str = S.str ∧ (S.setH i s d).gone = S.gone ∧
    (∀ j, j ≠ i → (S.setH i s d).h0 j = S.h0 j ∧ (S.setH i s d).h1 j = S.h1 j) := by
  unfold Ms.setH
  split
  · exact ⟨rfl, rfl, rfl, rfl, rfl, rfl, rfl, rfl, rfl, fun j hj => ⟨fset_ne hj, rfl⟩⟩
  · exact ⟨rfl, rfl, rfl, rfl, rfl, rfl, rfl, rfl, rfl, fun j hj => ⟨rfl, fset_ne hj⟩⟩
theorem setH_own (S : Ms) (i s : Nat) (d : PyData) (g : Glob C S) (low : Low C S i) : Glob C (S.setH i s d) ∧ Low C (S.setH i s d) i ∧ BelS C i S (S.setH i s d) := by
  obtain ⟨a1, a2, a3, a4, a5, a6, a7, a8, a9, a10⟩ := setH_flat S i s d
  refine ⟨g.own a1 a2 a3 a4 a5 a6, low.own a1 a2 a7 a6 (fun j hj => ⟨by rw [a8], (a10 j (by omega)).1, (a10 j (by omega)).2⟩), ⟨fun j _ => by rw [a1], fun j _ => by rw [a2], fun j _ => by rw [a8], fun j hj => (a10 j (by omega)).1, fun j hj => (a10 j (by omega)).2, fun q _ => by rw [a7], fun s _ => by rw [a6], fun j => by rw [a1]; exact Nat.le_refl _, a9⟩⟩
theorem setH0 (S : Ms) (i : Nat) (d : PyData) : (S.setH i 0 d).h0 i = d ∧ (S.setH i 0 d).h1 i = S.h1 i := ⟨fset_self (f := S.h0), rfl⟩
theorem setH1 (S : Ms) (i : Nat) (d : PyData) : (S.setH i 1 d).h0 i = S.h0 i ∧ (S.setH i 1 d).h1 i = d := ⟨rfl, fset_self (f := S.h1)⟩
/-- a pull at one of two places -/
structure Pull2 (C : Ct) (i s : Nat) (S : Ms) (x : PyData) (S1 : Ms) : Prop where
  own : Own C i S S1
  le : S1.pos (.at i s) ≤ (S1.made (C.tgt (.at i s))).length
  hit : S.pos (.at i s) < (Wl C (C.tgt (.at i s))).length → (Wl C (C.tgt (.at i s)))[S.pos (.at i s)]? = some x ∧ x ≠ .none ∧ S1.pos (.at i s) = S.pos (.at i s) + 1
  miss : ¬ S.pos (.at i s) < (Wl C (C.tgt (.at i s))).length → x = .none ∧ S1.pos (.at i s) = S.pos (.at i s)
  oth : ∀ t, t ≠ s → S1.pos (.at i t) = S.pos (.at i t)
theorem pull2 (gd : Gd C ks) (hp : Pulls C pl i) (hl : C.ls[i]? = some l) {s : Nat} (h0 : s < l.names.length) (low : Low C S i) (g : Glob C S) (le : S.pos (.at i s) ≤ (S.made (C.tgt (.at i s))).length) :
    ∃ x S1, pl (.at i s) S = some (x, S1) ∧ Pull2 C i s S x S1 := by
  obtain ⟨x, S1, e, g1, l1, b1, o1, le1, hit, miss⟩ := hp.at gd hl h0 low g le
  obtain ⟨kn, k, h1, h2, h3⟩ := gd.kinds hl
  refine ⟨x, S1, e, ⟨g1, l1, b1⟩, le1, fun h => ?_, miss, o1⟩
  obtain ⟨a, b⟩ := hit h
  have hk : kn[s]? = some kn[s] := List.getElem?_eq_getElem (by omega)
  exact ⟨a, has_ne (h3 s _ hk x (List.mem_of_getElem? a)), b⟩
theorem own_two (h0 : S'.pos (.at i 0) ≤ (S'.made (C.tgt (.at i 0))).length) (h1 : S'.pos (.at i 1) ≤ (S'.made (C.tgt (.at i 1))).length) : ∀ s, s < 2 → S'.pos (.at i s) ≤ (S'.made (C.tgt (.at i s))).length := fun s hs => by
  match s, hs with
  | 0, _ => exact h0
  | 1, _ => exact h1
theorem leW (gd : Gd C ks) (hl : C.ls[i]? = some l) {s : Nat} (hs : s < l.names.length) (g : Glob C S) (le : S.pos (.at i s) ≤ (S.made (C.tgt (.at i s))).length) : S.pos (.at i s) ≤ (Wl C (C.tgt (.at i s))).length := by
  have ht := gd.run.ct.tgt hl hs
  have hi := (List.getElem?_eq_some_iff.mp hl).1
  exact Nat.le_trans le (g.pre _ (by omega)).2
theorem step_chain (gd : Gd C ks) (hp : Pulls C pl i) {a b : Int} (hl : C.ls[i]? = some (.chain a b)) (low : Low C S i) (g : Glob C S) (own : ∀ s, s < 2 → S.pos (.at i s) ≤ (S.made (C.tgt (.at i s))).length) (hk : LnOk C S i (.chain a b)) :
    ∃ x S', stepL C pl L i S (.chain a b) = some (x, S') ∧ StepR C i (.chain a b) S x S' := by
  obtain ⟨x, S1, e, P⟩ := pull2 gd hp hl (s := 0) (Nat.zero_lt_succ 1) low g (own 0 (by decide))
  have hW : Wl C i = Wl C (C.tgt (.at i 0)) ++ Wl C (C.tgt (.at i 1)) := Wl_two gd.run.ct hl rfl
  have lw : (Wl C i).length = (Wl C (C.tgt (.at i 0))).length + (Wl C (C.tgt (.at i 1))).length := by rw [hW, List.length_append]
  have hk : (S.pos (.at i 0) = (S.made i).length ∧ S.pos (.at i 1) = 0 ∧ (S.made i).length ≤ (Wl C (C.tgt (.at i 0))).length) ∨ (S.pos (.at i 0) = (Wl C (C.tgt (.at i 0))).length ∧ (S.made i).length = (Wl C (C.tgt (.at i 0))).length + S.pos (.at i 1)) := hk
  have mi := P.own.bel.made i (Nat.le_refl i)
  have p1 := P.oth 1 (by decide)
  have le1 : S1.pos (.at i 1) ≤ (S1.made (C.tgt (.at i 1))).length := by rw [p1]; exact Nat.le_trans (own 1 (by decide)) (P.own.bel.len _)
  unfold stepL
  dsimp only
  rw [e]
  dsimp only
  by_cases c : S.pos (.at i 0) < (Wl C (C.tgt (.at i 0))).length
  · obtain ⟨h1, h2, h3⟩ := P.hit c
    rcases hk with ⟨k1, k2, k3⟩ | ⟨k1, _⟩
    · rw [if_neg h2]
      refine ⟨_, _, rfl, .of_bel rfl P.own.glob P.own.low (own_two P.le le1) P.own.bel (fun _ => ⟨?_, .inl ⟨?_, ?_, ?_⟩⟩) (fun h => absurd (by omega) h)⟩
      · rw [hW, List.getElem?_append_left (by omega), ← k1]; exact h1
      · show S1.pos (.at i 0) = ((S1.push i _).made i).length
        rw [pushed, List.length_append, h3, mi, k1]; rfl
      · show S1.pos (.at i 1) = 0
        rw [p1]; exact k2
      · show ((S1.push i x).made i).length ≤ _
        rw [pushed, List.length_append, mi]
        show (S.made i).length + 1 ≤ _
        omega
    · omega
  · obtain ⟨h1, h2⟩ := P.miss c
    rw [if_pos h1]
    obtain ⟨y, S2, e2, P2⟩ := pull2 gd hp hl (s := 1) (Nat.lt_succ_self 1) P.own.low P.own.glob le1
    have mi2 := P2.own.bel.made i (Nat.le_refl i)
    have bel := P.own.bel.trans P2.own.bel
    have p02 := P2.oth 0 (by decide)
    have le0 : S2.pos (.at i 0) ≤ (S2.made (C.tgt (.at i 0))).length := by rw [p02]; exact Nat.le_trans P.le (P2.own.bel.len _)
    have l0 := leW gd hl (s := 0) (Nat.zero_lt_succ 1) g (own 0 (by decide))
    have kk : (S.made i).length = (Wl C (C.tgt (.at i 0))).length + S.pos (.at i 1) := by
      rcases hk with ⟨k1, k2, k3⟩ | ⟨k1, k2⟩
      · omega
      · exact k2
    by_cases c2 : S.pos (.at i 1) < (Wl C (C.tgt (.at i 1))).length
    · obtain ⟨g1, g2, g3⟩ := P2.hit (by rw [p1]; exact c2)
      rw [p1] at g1 g3
      refine ⟨_, _, e2, .of_bel rfl P2.own.glob P2.own.low (own_two le0 P2.le) bel (fun _ => ⟨?_, .inr ⟨?_, ?_⟩⟩) (fun h => absurd (by omega) h)⟩
      · rw [hW, List.getElem?_append_right (by omega), kk, Nat.add_sub_cancel_left]; exact g1
      · show S2.pos (.at i 0) = _
        rw [p02, h2]; omega
      · show ((S2.push i y).made i).length = _ + S2.pos (.at i 1)
        rw [pushed, List.length_append, mi2, mi, g3]
        show (S.made i).length + 1 = _
        omega
    · obtain ⟨g1, g2⟩ := P2.miss (by rw [p1]; exact c2)
      subst g1
      exact ⟨_, _, e2, .of_bel rfl P2.own.glob P2.own.low (own_two le0 P2.le) bel (fun h => absurd h (by omega)) (fun _ => rfl)⟩
theorem step_pair (gd : Gd C ks) (hp : Pulls C pl i) {a b : Int} (hl : C.ls[i]? = some (.pair a b)) (low : Low C S i) (g : Glob C S) (own : ∀ s, s < 2 → S.pos (.at i s) ≤ (S.made (C.tgt (.at i s))).length) (hk : LnOk C S i (.pair a b)) :
    ∃ x S', stepL C pl L i S (.pair a b) = some (x, S') ∧ StepR C i (.pair a b) S x S' := by
  obtain ⟨x, S1, e, P⟩ := pull2 gd hp hl (s := 0) (Nat.zero_lt_succ 1) low g (own 0 (by decide))
  have hW : Wl C i = List.zipWith (fun x y => PyData.tuple [x, y]) (Wl C (C.tgt (.at i 0))) (Wl C (C.tgt (.at i 1))) := Wl_two gd.run.ct hl rfl
  have lw : (Wl C i).length = min (Wl C (C.tgt (.at i 0))).length (Wl C (C.tgt (.at i 1))).length := by rw [hW, List.length_zipWith]
  obtain ⟨n0, n1, k0, k1⟩ := (show S.h0 i = .none ∧ S.h1 i = .none ∧ S.pos (.at i 0) = (S.made i).length ∧ S.pos (.at i 1) = (S.made i).length from hk)
  have mi := P.own.bel.made i (Nat.le_refl i)
  have p1 := P.oth 1 (by decide)
  have le1 : S1.pos (.at i 1) ≤ (S1.made (C.tgt (.at i 1))).length := by rw [p1]; exact Nat.le_trans (own 1 (by decide)) (P.own.bel.len _)
  have hh : holdM pl i 0 S = some (x, S1.setH i 0 x) := by
    unfold holdM
    rw [show S.hd i 0 = .none from n0, if_pos rfl, e]
  obtain ⟨g2, low2, b2⟩ := setH_own S1 i 0 x P.own.glob P.own.low
  obtain ⟨f1, _, _, _, _, _, f7, _⟩ := setH_flat S1 i 0 x
  have B2 : BelS C i S (S1.setH i 0 x) := P.own.bel.s.trans b2
  have le0' : (S1.setH i 0 x).pos (.at i 0) ≤ ((S1.setH i 0 x).made (C.tgt (.at i 0))).length := by rw [f7, f1]; exact P.le
  have le1' : (S1.setH i 0 x).pos (.at i 1) ≤ ((S1.setH i 0 x).made (C.tgt (.at i 1))).length := by rw [f7, f1]; exact le1
  unfold stepL
  dsimp only
  rw [hh]
  dsimp only
  by_cases c : S.pos (.at i 0) < (Wl C (C.tgt (.at i 0))).length
  · obtain ⟨h1, h2, h3⟩ := P.hit c
    rw [if_neg h2]
    obtain ⟨y, S2, e2, P2⟩ := pull2 gd hp hl (s := 1) (Nat.lt_succ_self 1) low2 g2 le1'
    have p1' : (S1.setH i 0 x).pos (.at i 1) = (S.made i).length := by rw [f7, p1, k1]
    have hh2 : holdM pl i 1 (S1.setH i 0 x) = some (y, S2.setH i 1 y) := by
      unfold holdM
      rw [show (S1.setH i 0 x).hd i 1 = .none from by show (S1.setH i 0 x).h1 i = .none; rw [(setH0 S1 i x).2, P.own.bel.h1 i (Nat.le_refl i)]; exact n1, if_pos rfl, e2]
    rw [hh2]
    dsimp only
    obtain ⟨g3, low3, b3⟩ := setH_own S2 i 1 y P2.own.glob P2.own.low
    obtain ⟨q1, _, _, _, _, _, q7, _⟩ := setH_flat S2 i 1 y
    have B3 : BelS C i S (S2.setH i 1 y) := (B2.trans P2.own.bel.s).trans b3
    have p02 := P2.oth 0 (by decide)
    have le0'' : (S2.setH i 1 y).pos (.at i 0) ≤ ((S2.setH i 1 y).made (C.tgt (.at i 0))).length := by rw [q7, q1, p02]; exact Nat.le_trans le0' (P2.own.bel.len _)
    have le1'' : (S2.setH i 1 y).pos (.at i 1) ≤ ((S2.setH i 1 y).made (C.tgt (.at i 1))).length := by rw [q7, q1]; exact P2.le
    have mi2 := P2.own.bel.made i (Nat.le_refl i)
    rw [f1] at mi2
    by_cases c2 : (S.made i).length < (Wl C (C.tgt (.at i 1))).length
    · obtain ⟨g1, g2, g3'⟩ := P2.hit (by rw [p1']; exact c2)
      rw [p1'] at g1 g3'
      rw [if_neg g2]
      have hh : Glob C ((S2.setH i 1 y).setHH i) := g3.own rfl rfl rfl rfl rfl rfl
      have hlo : Low C ((S2.setH i 1 y).setHH i) i := low3.own rfl rfl rfl rfl (fun j hj => ⟨rfl, fset_ne (by omega), fset_ne (by omega)⟩)
      have hb : BelS C i S ((S2.setH i 1 y).setHH i) := B3.trans ⟨fun _ _ => rfl, fun _ _ => rfl, fun _ _ => rfl, fun j hj => fset_ne (by omega), fun j hj => fset_ne (by omega), fun _ _ => rfl, fun _ _ => rfl, fun _ => Nat.le_refl _, rfl⟩
      refine ⟨_, _, rfl, .of_belS rfl hh hlo (own_two le0'' le1'') hb (fun _ => ⟨?_, ?_, ?_, ?_, ?_⟩) (fun h => absurd (by omega) h)⟩
      · rw [hW, List.getElem?_zipWith, ← k0, h1, k0, g1]
      · exact fset_self
      · exact fset_self
      · show (S2.setH i 1 y).pos (.at i 0) = ((((S2.setH i 1 y).setHH i).push i _).made i).length
        rw [pushed, List.length_append]
        show _ = ((S2.setH i 1 y).made i).length + 1
        rw [q1, mi2, mi, q7, p02, f7, h3, k0]
      · show (S2.setH i 1 y).pos (.at i 1) = ((((S2.setH i 1 y).setHH i).push i _).made i).length
        rw [pushed, List.length_append]
        show _ = ((S2.setH i 1 y).made i).length + 1
        rw [q1, mi2, mi, q7, g3']
    · obtain ⟨g1, g2⟩ := P2.miss (by rw [p1']; exact c2)
      rw [if_pos g1]
      exact ⟨_, _, rfl, .of_belS rfl g3 low3 (own_two le0'' le1'') B3 (fun h => absurd h (by omega)) (fun _ => rfl)⟩
  · obtain ⟨h1, h2⟩ := P.miss c
    rw [if_pos h1]
    exact ⟨_, _, rfl, .of_belS rfl g2 low2 (own_two le0' le1') B2 (fun h => absurd h (by omega)) (fun _ => rfl)⟩
/-- what a merge holds of one side, after it has seen to it -/
structure Held (C : Ct) (i s : Nat) (S : Ms) (x : PyData) (S' : Ms) : Prop where
  glob : Glob C S'
  low : Low C S' i
  bel : BelS C i S S'
  le : S'.pos (.at i s) ≤ (S'.made (C.tgt (.at i s))).length
  oth : ∀ t, t ≠ s → S'.pos (.at i t) = S.pos (.at i t)
  val : S'.hd i s = x
  ohd : ∀ t, t ≤ 1 → s ≤ 1 → t ≠ s → S'.hd i t = S.hd i t
  isi : x = .none ∨ isI x
  rem : remI (Wl C (C.tgt (.at i s))) (S'.pos (.at i s)) x = remI (Wl C (C.tgt (.at i s))) (S.pos (.at i s)) (S.hd i s)
  emp : x = .none → remI (Wl C (C.tgt (.at i s))) (S'.pos (.at i s)) x = []
theorem held_ok (gd : Gd C ks) (hp : Pulls C pl i) (hl : C.ls[i]? = some l) {s : Nat} (hs : s < l.names.length) (s1 : s ≤ 1) (hty : ∀ x ∈ Wl C (C.tgt (.at i s)), Has .num x) (low : Low C S i) (g : Glob C S) (le : S.pos (.at i s) ≤ (S.made (C.tgt (.at i s))).length) (hi : S.hd i s = .none ∨ isI (S.hd i s)) :
    ∃ x S', holdM pl i s S = some (x, S') ∧ Held C i s S x S' := by
  by_cases c : S.hd i s = .none
  · obtain ⟨x, S1, e, P⟩ := pull2 gd hp hl hs low g le
    have hh : holdM pl i s S = some (x, S1.setH i s x) := by
      unfold holdM
      rw [if_pos c, e]
    obtain ⟨g2, low2, b2⟩ := setH_own S1 i s x P.own.glob P.own.low
    obtain ⟨f1, _, _, _, _, _, f7, _⟩ := setH_flat S1 i s x
    have hv : (S1.setH i s x).hd i s = x := by
      match s, s1 with
      | 0, _ => exact (setH0 S1 i x).1
      | 1, _ => exact (setH1 S1 i x).2
    have ho : ∀ t, t ≤ 1 → s ≤ 1 → t ≠ s → (S1.setH i s x).hd i t = S.hd i t := fun t t1 _ hne => by
      match s, t, s1, t1 with
      | 0, 1, _, _ => exact ((setH0 S1 i x).2).trans (P.own.bel.h1 i (Nat.le_refl i))
      | 1, 0, _, _ => exact ((setH1 S1 i x).1).trans (P.own.bel.h0 i (Nat.le_refl i))
      | 0, 0, _, _ => exact absurd rfl hne
      | 1, 1, _, _ => exact absurd rfl hne
    have base : remI (Wl C (C.tgt (.at i s))) (S.pos (.at i s)) (S.hd i s) = ((Wl C (C.tgt (.at i s))).drop (S.pos (.at i s))).map toI := by
      unfold remI
      rw [if_pos c]
    by_cases c2 : S.pos (.at i s) < (Wl C (C.tgt (.at i s))).length
    · obtain ⟨h1, h2, h3⟩ := P.hit c2
      obtain ⟨z, rfl, hz⟩ := (hty x (List.mem_of_getElem? h1)).int
      refine ⟨_, _, hh, g2, low2, P.own.bel.s.trans b2, by rw [f7, f1]; exact P.le, fun t ht => by rw [f7]; exact P.oth t ht, hv, ho, .inr trivial, ?_, fun z => nomatch z⟩
      rw [base, f7, h3]
      unfold remI
      rw [if_neg (fun e => nomatch e), drop_at h1]
    · obtain ⟨h1, h2⟩ := P.miss c2
      subst h1
      have em : (Wl C (C.tgt (.at i s))).drop (S.pos (.at i s)) = [] := List.drop_eq_nil_of_le (by omega)
      refine ⟨_, _, hh, g2, low2, P.own.bel.s.trans b2, by rw [f7, f1]; exact P.le, fun t ht => by rw [f7]; exact P.oth t ht, hv, ho, .inl rfl, ?_, fun _ => ?_⟩
      · rw [base, f7, h2]
        unfold remI
        rw [if_pos rfl]
      · rw [f7, h2]
        unfold remI
        rw [if_pos rfl, em]; rfl
  · have hh : holdM pl i s S = some (S.hd i s, S) := by
      unfold holdM
      rw [if_neg c]
    exact ⟨_, _, hh, g, low, Bel.refl.s, le, fun _ _ => rfl, rfl, fun _ _ _ _ => rfl, hi, rfl, fun e => absurd e c⟩
theorem step_merge (gd : Gd C ks) (hp : Pulls C pl i) {a b : Int} (hl : C.ls[i]? = some (.merge a b)) (low : Low C S i) (g : Glob C S) (own : ∀ s, s < 2 → S.pos (.at i s) ≤ (S.made (C.tgt (.at i s))).length) (hk : LnOk C S i (.merge a b)) :
    ∃ x S', stepL C pl L i S (.merge a b) = some (x, S') ∧ StepR C i (.merge a b) S x S' := by
  obtain ⟨ka, kb, k', hkk, ta, tb⟩ := gd.two' hl rfl
  have hkk : (if ka = .num ∧ kb = .num then some Kd.num else none) = some k' := hkk
  have cc : ka = .num ∧ kb = .num := by
    by_cases c : ka = .num ∧ kb = .num
    · exact c
    · rw [if_neg c] at hkk; cases hkk
  obtain ⟨rfl, rfl⟩ := cc
  have hi := (List.getElem?_eq_some_iff.mp hl).1
  have hW : Wl C i = (mergeI ((Wl C (C.tgt (.at i 0))).map toI) ((Wl C (C.tgt (.at i 1))).map toI)).map PyData.int := Wl_two gd.run.ct hl rfl
  obtain ⟨i0, i1, hm⟩ := (show (S.h0 i = .none ∨ isI (S.h0 i)) ∧ (S.h1 i = .none ∨ isI (S.h1 i)) ∧ (Wl C i).map toI = (S.made i).map toI ++ mergeI (remI (Wl C (C.tgt (.at i 0))) (S.pos (.at i 0)) (S.h0 i)) (remI (Wl C (C.tgt (.at i 1))) (S.pos (.at i 1)) (S.h1 i)) from hk)
  obtain ⟨x, S1, e1, H1⟩ := held_ok gd hp hl (s := 0) (Nat.zero_lt_succ 1) (by decide) ta low g (own 0 (by decide)) i0
  have p1 : S1.pos (.at i 1) = S.pos (.at i 1) := H1.oth 1 (by decide)
  have le1 : S1.pos (.at i 1) ≤ (S1.made (C.tgt (.at i 1))).length := by rw [p1]; exact Nat.le_trans (own 1 (by decide)) (H1.bel.len _)
  have hd1 : S1.hd i 1 = S.hd i 1 := H1.ohd 1 (by decide) (by decide) (by decide)
  obtain ⟨y, S2, e2, H2⟩ := held_ok gd hp hl (s := 1) (Nat.lt_succ_self 1) (by decide) tb H1.low H1.glob le1 (by rw [hd1]; exact i1)
  have p02 : S2.pos (.at i 0) = S1.pos (.at i 0) := H2.oth 0 (by decide)
  have le0 : S2.pos (.at i 0) ≤ (S2.made (C.tgt (.at i 0))).length := by rw [p02]; exact Nat.le_trans H1.le (H2.bel.len _)
  have h02 : S2.h0 i = x := (H2.ohd 0 (by decide) (by decide) (by decide)).trans H1.val
  have h12 : S2.h1 i = y := H2.val
  have B := H1.bel.trans H2.bel
  have mi : S2.made i = S.made i := B.made i (Nat.le_refl i)
  have r0 : remI (Wl C (C.tgt (.at i 0))) (S1.pos (.at i 0)) x = remI (Wl C (C.tgt (.at i 0))) (S.pos (.at i 0)) (S.h0 i) := H1.rem
  have r1 := H2.rem
  rw [p1, hd1] at r1
  have r1 : remI (Wl C (C.tgt (.at i 1))) (S2.pos (.at i 1)) y = remI (Wl C (C.tgt (.at i 1))) (S.pos (.at i 1)) (S.h1 i) := r1
  rw [← r0, ← r1] at hm
  have z0 := H1.emp
  have z1 := H2.emp
  rw [← p02] at hm z0
  unfold stepL
  dsimp only
  rw [e1]
  dsimp only
  rw [e2]
  dsimp only
  rw [gd_pos ⟨H1.isi, H2.isi⟩]
  -- the two ways out
  have isx : ∀ d : PyData, isI d → d = .int (toI d) := fun d h => by
    cases d with
    | int _ => rfl
    | _ => exact h.elim
  have wi : ∀ (k : Nat) (z : PyData), (Wl C i)[k]? = some z → z = .int (toI z) := fun k z h => by
    rw [hW, List.getElem?_map] at h
    obtain ⟨n, _, rfl⟩ := Option.map_eq_some_iff.mp h
    rfl
  have at_ : ∀ (z : Int) (rest : List Int), (Wl C i).map toI = (S.made i).map toI ++ z :: rest → (Wl C i)[(S.made i).length]? = some (.int z) := fun z rest h => by
    have h2 : ((Wl C i).map toI)[(S.made i).length]? = some z := by
      rw [h, List.getElem?_append_right (by rw [List.length_map]; exact Nat.le_refl _), List.length_map, Nat.sub_self]; rfl
    rw [List.getElem?_map] at h2
    obtain ⟨d, h3, h4⟩ := Option.map_eq_some_iff.mp h2
    rw [h3, wi _ _ h3, h4]
  have end_ : (Wl C i).map toI = (S.made i).map toI ++ [] → ¬ (S.made i).length < (Wl C i).length := fun h => by
    have := congrArg List.length h
    rw [List.length_append, List.length_map, List.length_map] at this
    simp at this
    omega
  by_cases c : x = .none ∨ (y ≠ .none ∧ toI y < toI x)
  · rw [if_pos c]
    obtain ⟨g3, low3, b3⟩ := setH_own S2 i 1 .none H2.glob H2.low
    obtain ⟨q1, _, _, _, _, _, q7, _⟩ := setH_flat S2 i 1 .none
    have own' := own_two (C := C) (i := i) (S' := S2.setH i 1 .none) (by rw [q7, q1]; exact le0) (by rw [q7, q1]; exact H2.le)
    by_cases cy : y = .none
    · -- both at their ends
      have cx : x = .none := by
        rcases c with c | ⟨c, _⟩
        · exact c
        · exact absurd cy c
      rw [z0 cx, z1 cy, nil_merge] at hm
      exact ⟨_, _, rfl, .of_belS rfl g3 low3 own' (B.trans b3) (fun h => absurd h (end_ hm)) (fun _ => cy)⟩
    · have hy := isx y (H2.isi.resolve_left cy)
      have ry : remI (Wl C (C.tgt (.at i 1))) (S2.pos (.at i 1)) y = toI y :: ((Wl C (C.tgt (.at i 1))).drop (S2.pos (.at i 1))).map toI := by
        unfold remI
        rw [if_neg cy]; rfl
      have mg : mergeI (remI (Wl C (C.tgt (.at i 0))) (S2.pos (.at i 0)) x) (toI y :: ((Wl C (C.tgt (.at i 1))).drop (S2.pos (.at i 1))).map toI) = toI y :: mergeI (remI (Wl C (C.tgt (.at i 0))) (S2.pos (.at i 0)) x) (((Wl C (C.tgt (.at i 1))).drop (S2.pos (.at i 1))).map toI) := by
        rcases c with c | ⟨_, c⟩
        · rw [z0 c, nil_merge, nil_merge]
        · by_cases cx : x = .none
          · rw [z0 cx, nil_merge, nil_merge]
          · have rx : remI (Wl C (C.tgt (.at i 0))) (S2.pos (.at i 0)) x = toI x :: ((Wl C (C.tgt (.at i 0))).drop (S2.pos (.at i 0))).map toI := by
              unfold remI
              rw [if_neg cx]; rfl
            rw [rx, merge_gt (by omega)]
      rw [ry, mg] at hm
      have hat := at_ _ _ hm
      refine ⟨_, _, rfl, .of_belS rfl g3 low3 own' (B.trans b3) (fun _ => ⟨by rw [hat, ← hy], ?_, ?_, ?_⟩) (fun h => absurd (getE hat) h)⟩
      · show (S2.setH i 1 .none).h0 i = .none ∨ isI ((S2.setH i 1 .none).h0 i)
        rw [(setH1 S2 i .none).1, h02]
        exact H1.isi
      · show (S2.setH i 1 .none).h1 i = .none ∨ isI ((S2.setH i 1 .none).h1 i)
        rw [(setH1 S2 i .none).2]
        exact .inl rfl
      · show (Wl C i).map toI = (((S2.setH i 1 .none).push i y).made i).map toI ++ mergeI (remI (Wl C (C.tgt (.at i 0))) ((S2.setH i 1 .none).pos (.at i 0)) ((S2.setH i 1 .none).h0 i)) (remI (Wl C (C.tgt (.at i 1))) ((S2.setH i 1 .none).pos (.at i 1)) ((S2.setH i 1 .none).h1 i))
        rw [pushed, q1, mi, q7, (setH1 S2 i .none).1, (setH1 S2 i .none).2, h02, hm, List.map_append, List.append_assoc]
        congr 1
  · rw [if_neg c]
    have cx : ¬ x = .none := fun h => c (.inl h)
    obtain ⟨g3, low3, b3⟩ := setH_own S2 i 0 .none H2.glob H2.low
    obtain ⟨q1, _, _, _, _, _, q7, _⟩ := setH_flat S2 i 0 .none
    have own' := own_two (C := C) (i := i) (S' := S2.setH i 0 .none) (by rw [q7, q1]; exact le0) (by rw [q7, q1]; exact H2.le)
    have hx := isx x (H1.isi.resolve_left cx)
    have rx : remI (Wl C (C.tgt (.at i 0))) (S2.pos (.at i 0)) x = toI x :: ((Wl C (C.tgt (.at i 0))).drop (S2.pos (.at i 0))).map toI := by
      unfold remI
      rw [if_neg cx]; rfl
    have mg : mergeI (toI x :: ((Wl C (C.tgt (.at i 0))).drop (S2.pos (.at i 0))).map toI) (remI (Wl C (C.tgt (.at i 1))) (S2.pos (.at i 1)) y) = toI x :: mergeI (((Wl C (C.tgt (.at i 0))).drop (S2.pos (.at i 0))).map toI) (remI (Wl C (C.tgt (.at i 1))) (S2.pos (.at i 1)) y) := by
      by_cases cy : y = .none
      · rw [z1 cy, merge_nil, merge_nil]
      · have ry : remI (Wl C (C.tgt (.at i 1))) (S2.pos (.at i 1)) y = toI y :: ((Wl C (C.tgt (.at i 1))).drop (S2.pos (.at i 1))).map toI := by
          unfold remI
          rw [if_neg cy]; rfl
        rw [ry, merge_le (by
          have : ¬ (y ≠ .none ∧ toI y < toI x) := fun h => c (.inr h)
          by_cases d : toI x ≤ toI y
          · exact d
          · exact absurd ⟨cy, by omega⟩ this)]
    rw [rx, mg] at hm
    have hat := at_ _ _ hm
    refine ⟨_, _, rfl, .of_belS rfl g3 low3 own' (B.trans b3) (fun _ => ⟨by rw [hat, ← hx], ?_, ?_, ?_⟩) (fun h => absurd (getE hat) h)⟩
    · show (S2.setH i 0 .none).h0 i = .none ∨ isI ((S2.setH i 0 .none).h0 i)
      rw [(setH0 S2 i .none).1]
      exact .inl rfl
    · show (S2.setH i 0 .none).h1 i = .none ∨ isI ((S2.setH i 0 .none).h1 i)
      rw [(setH0 S2 i .none).2, h12]
      exact H2.isi
    · show (Wl C i).map toI = (((S2.setH i 0 .none).push i x).made i).map toI ++ mergeI (remI (Wl C (C.tgt (.at i 0))) ((S2.setH i 0 .none).pos (.at i 0)) ((S2.setH i 0 .none).h0 i)) (remI (Wl C (C.tgt (.at i 1))) ((S2.setH i 0 .none).pos (.at i 1)) ((S2.setH i 0 .none).h1 i))
      rw [pushed, q1, mi, q7, (setH0 S2 i .none).1, (setH0 S2 i .none).2, h12, hm, List.map_append, List.append_assoc]
      congr 1
end
open PySem PySem.Spec PyProof.Rows L2
def tailG (m : Int) (xs : List Int) : List (Int × List Int) := if xs = [] then [] else [(xs.getD 0 0 % m, xs)]
theorem grp_init (m : Int) : ∀ (zs : List Int) (acc : List (Int × List Int)) (t : Int × List Int), (∃ r, zs.foldl (groupS m) (acc ++ [t]) = acc ++ r ∧ r ≠ [])
  | [], acc, t => ⟨[t], rfl, by simp⟩
  | z :: zs, acc, (r, xs) => by
    rw [List.foldl_cons, groupS_snoc]
    split
    · exact grp_init m zs acc _
    · obtain ⟨r', h, _⟩ := grp_init m zs (acc ++ [(r, xs)]) (z % m, [z])
      exact ⟨(r, xs) :: r', by rw [h, List.append_assoc]; rfl, by simp⟩
theorem grp_take {m : Int} {A : List PyData} {q : Nat} {z : Int} (h : A[q]? = some (.int z)) : groupI m ((A.take (q + 1)).map toI) = groupS m (groupI m ((A.take q).map toI)) z := by
  rw [take_snoc h, List.map_append]
  unfold groupI
  rw [List.foldl_append]
  rfl
theorem tail_ne {m : Int} {xs : List Int} (h : xs ≠ []) : tailG m xs = [(xs.getD 0 0 % m, xs)] := if_neg h
section
variable {C : Ct} {ks : List Kd} {S S' S1 S2 : Ms} {i j : Nat} {p : Pl} {pl : Pull} {L : Nat} {l : Ln}
structure LpS (C : Ct) (i : Nat) (S S1 : Ms) : Prop where
  glob : Glob C S1
  low : Low C S1 i
  bel : BelS C i S S1
  le : S1.pos (.at i 0) ≤ (S1.made (C.tgt (.at i 0))).length
theorem LpS.pull {x : PyData} (a : LpS C i S S1) (P : Pull0 C i S1 x S2) : LpS C i S S2 := ⟨P.own.glob, P.own.low, a.bel.trans P.own.bel.s, P.le⟩
theorem LpS.str (a : LpS C i S S1) (xs : List Int) : LpS C i S (S1.setStr i xs) :=
  ⟨a.glob.own rfl rfl rfl rfl rfl rfl, a.low.own rfl rfl rfl rfl (fun j hj => ⟨fset_ne (by omega), rfl, rfl⟩), a.bel.trans ⟨fun _ _ => rfl, fun _ _ => rfl, fun j hj => fset_ne (by omega), fun _ _ => rfl, fun _ _ => rfl, fun _ _ => rfl, fun _ _ => rfl, fun _ => Nat.le_refl _, rfl⟩, a.le⟩
theorem grpL_ok (gd : Gd C ks) (hp : Pulls C pl i) {m a : Int} (hl : C.ls[i]? = some (.group m a)) (hty : ∀ x ∈ Wl C (C.tgt (.at i 0)), Has .num x) {gs : List (Int × List Int)} : ∀ (L : Nat) (x : PyData) (S1 : Ms), LpS C i S S1 → (∀ z ∈ S1.str i, z % m = (S1.str i).getD 0 0 % m) →
    ((0 < L ∧ x = .none ∧ S1.pos (.at i 0) = (Wl C (C.tgt (.at i 0))).length ∧ groupI m ((Wl C (C.tgt (.at i 0))).map toI) = gs ++ tailG m (S1.str i)) ∨
      ((Wl C (C.tgt (.at i 0))).length - S1.pos (.at i 0) + 1 < L ∧ ∃ q z, S1.pos (.at i 0) = q + 1 ∧ x = .int z ∧ (Wl C (C.tgt (.at i 0)))[q]? = some (.int z) ∧ groupI m (((Wl C (C.tgt (.at i 0))).take q).map toI) = gs ++ tailG m (S1.str i) ∧ (S1.str i = [] → q = 0))) →
    ∃ y S2, grpL pl i m L x S1 = some (y, S2) ∧ LpS C i S S2 ∧ (∀ z ∈ S2.str i, z % m = (S2.str i).getD 0 0 % m) ∧
      ((y = .none ∧ S2.pos (.at i 0) = (Wl C (C.tgt (.at i 0))).length ∧ groupI m ((Wl C (C.tgt (.at i 0))).map toI) = gs ++ tailG m (S2.str i)) ∨
        ∃ q z, S2.pos (.at i 0) = q + 1 ∧ y = .int z ∧ (Wl C (C.tgt (.at i 0)))[q]? = some (.int z) ∧ groupI m (((Wl C (C.tgt (.at i 0))).take q).map toI) = gs ++ tailG m (S2.str i) ∧ S2.str i ≠ [] ∧ ¬ z % m = (S2.str i).getD 0 0 % m) := by
  intro L
  induction L with
  | zero => intro x S1 _ _ h; rcases h with ⟨h, _⟩ | ⟨h, _⟩ <;> exact absurd h (Nat.not_lt_zero _)
  | succ L ih =>
    intro x S1 a1 hs h
    unfold grpL
    rcases h with ⟨_, rfl, h1, h2⟩ | ⟨hL, q, z, h1, rfl, h2, h3, h4⟩
    · rw [if_pos rfl]
      exact ⟨_, _, rfl, a1, hs, .inl ⟨rfl, h1, h2⟩⟩
    · rw [if_neg (fun e => nomatch e), gd_pos (p := isI (.int z)) trivial]
      have hq := getE h2
      by_cases c : S1.str i = [] ∨ toI (.int z) % m = (S1.str i).getD 0 0 % m
      · rw [if_pos c]
        have hlen : (S1.str i).length < 90000 := by
          by_cases e : S1.str i = []
          · rw [e]; decide
          · rw [tail_ne e] at h3
            have := (group_len m (((Wl C (C.tgt (.at i 0))).take q).map toI)).2 ((S1.str i).getD 0 0 % m, S1.str i) (by rw [h3]; exact List.mem_append.mpr (.inr (List.mem_singleton.mpr rfl)))
            rw [List.length_map, List.length_take] at this
            have l5 := gd.len (C.tgt (.at i 0))
            have this : (S1.str i).length ≤ _ := this
            omega
        rw [gd_pos hlen]
        have a2 := a1.str (S1.str i ++ [z])
        obtain ⟨y, S3, e, P⟩ := pull0 gd hp hl Nat.zero_lt_one a2.low a2.glob a2.le
        have e : pl (.at i 0) (S1.setStr i (S1.str i ++ [toI (.int z)])) = some (y, S3) := e
        rw [e]
        dsimp only
        have st : (S1.setStr i (S1.str i ++ [z])).str i = S1.str i ++ [z] := fset_self
        have st3 : S3.str i = S1.str i ++ [z] := (P.own.bel.str i (Nat.le_refl i)).trans st
        have g1 : groupI m (((Wl C (C.tgt (.at i 0))).take (q + 1)).map toI) = gs ++ tailG m (S3.str i) := by
          rw [grp_take h2, h3, st3]
          by_cases e : S1.str i = []
          · rw [e]
            have q0 := h4 e
            subst q0
            have g0 : gs = [] := by
              rw [e] at h3
              have h3 : [] = gs ++ [] := h3
              rw [List.append_nil] at h3
              exact h3.symm
            subst g0
            rfl
          · have c := c.resolve_left e
            have c : z % m = (S1.str i).getD 0 0 % m := c
            rw [tail_ne e, groupS_snoc, if_pos c.symm, tail_ne (by simp)]
            congr 3
            cases h : S1.str i with
            | nil => exact absurd h e
            | cons u us => rfl
        have hs3 : ∀ u ∈ S3.str i, u % m = (S3.str i).getD 0 0 % m := fun u hu => by
          rw [st3] at hu ⊢
          cases h : S1.str i with
          | nil =>
            rw [h] at hu
            rw [List.mem_singleton.mp hu]
            rfl
          | cons v vs =>
            rw [h] at hu hs c
            have c : z % m = v % m := c.resolve_left (by simp)
            rcases List.mem_append.mp hu with hu | hu
            · exact hs u hu
            · rw [List.mem_singleton.mp hu]; exact c
        by_cases c2 : (S1.setStr i (S1.str i ++ [z])).pos (.at i 0) < (Wl C (C.tgt (.at i 0))).length
        · obtain ⟨k1, k2, k3⟩ := P.hit c2
          have pz : (S1.setStr i (S1.str i ++ [z])).pos (.at i 0) = q + 1 := h1
          rw [pz] at k1 k3
          obtain ⟨z', rfl, hz'⟩ := (hty y (List.mem_of_getElem? k1)).int
          exact ih _ S3 (a2.pull P) hs3 (.inr ⟨by omega, q + 1, z', k3, rfl, k1, g1, fun e => by rw [st3] at e; simp at e⟩)
        · obtain ⟨k1, k2⟩ := P.miss c2
          have pz : (S1.setStr i (S1.str i ++ [z])).pos (.at i 0) = q + 1 := h1
          rw [pz] at k2 c2
          refine ih _ S3 (a2.pull P) hs3 (.inl ⟨by omega, k1, by omega, ?_⟩)
          rw [← g1, List.take_of_length_le (by omega)]
      · rw [if_neg c]
        refine ⟨_, _, rfl, a1, hs, .inr ⟨q, z, h1, rfl, h2, h3, fun e => c (.inl e), fun e => c (.inr e)⟩⟩
theorem step_group (gd : Gd C ks) (hp : Pulls C pl i) {m a : Int} (hl : C.ls[i]? = some (.group m a)) (hL : 60000 ≤ L) (low : Low C S i) (g : Glob C S) (own : ∀ s, s < 1 → S.pos (.at i s) ≤ (S.made (C.tgt (.at i s))).length) (hk : LnOk C S i (.group m a)) :
    ∃ x S', stepL C pl L i S (.group m a) = some (x, S') ∧ StepR C i (.group m a) S x S' := by
  obtain ⟨x, S1, e, P⟩ := pull0 gd hp hl Nat.zero_lt_one low g (own 0 Nat.zero_lt_one)
  obtain ⟨ka, k', hkk, hty⟩ := gd.one hl rfl
  obtain ⟨rfl, rfl⟩ := ifnum hkk
  have hW : Wl C i = (groupI m ((Wl C (C.tgt (.at i 0))).map toI)).map grD := Wl_one gd.run.ct hl rfl
  obtain ⟨gs, h1, h2, h3, h4⟩ := (show ∃ gs : List (Int × List Int), S.made i = gs.map grD ∧ groupI m (((Wl C (C.tgt (.at i 0))).take (S.pos (.at i 0))).map toI) = gs ++ tailG m (S.str i) ∧ (S.str i = [] → (S.pos (.at i 0) = 0 ∧ (S.made i).length = 0) ∨ S.pos (.at i 0) = (Wl C (C.tgt (.at i 0))).length) ∧ ∀ z ∈ S.str i, z % m = (S.str i).getD 0 0 % m from hk)
  have l5 := gd.len (C.tgt (.at i 0))
  have lA := (Lp.start low g (own 0 Nat.zero_lt_one)).leA gd hl Nat.zero_lt_one
  have st : S1.str i = S.str i := P.own.bel.str i (Nat.le_refl i)
  have kl : (S.made i).length = gs.length := by rw [h1, List.length_map]
  unfold stepL
  dsimp only
  rw [e]
  dsimp only
  obtain ⟨y, S2, e2, a2, hs2, h⟩ := grpL_ok gd hp hl hty (gs := gs) L x S1 (⟨P.own.glob, P.own.low, P.own.bel.s, P.le⟩ : LpS C i S S1) (by rw [st]; exact h4) (by
    by_cases c : S.pos (.at i 0) < (Wl C (C.tgt (.at i 0))).length
    · obtain ⟨k1, k2, k3⟩ := P.hit c
      obtain ⟨z, rfl, hz⟩ := (hty x (List.mem_of_getElem? k1)).int
      refine .inr ⟨by omega, S.pos (.at i 0), z, k3, rfl, k1, by rw [st]; exact h2, fun e => ?_⟩
      rw [st] at e
      rcases h3 e with h | h
      · exact h.1
      · omega
    · obtain ⟨k1, k2⟩ := P.miss c
      refine .inl ⟨by omega, k1, by omega, ?_⟩
      rw [st, ← h2, List.take_of_length_le (by omega)])
  rw [e2]
  dsimp only
  have mi : S2.made i = S.made i := a2.bel.made i (Nat.le_refl i)
  have fin : ∀ xs : List Int, LpS C i S (S2.setStr i xs) := fun xs => a2.str xs
  have own' : ∀ xs : List Int, ∀ s, s < 1 → (S2.setStr i xs).pos (.at i s) ≤ ((S2.setStr i xs).made (C.tgt (.at i s))).length := fun xs s hs => by
    obtain rfl : s = 0 := by omega
    exact a2.le
  rcases h with ⟨rfl, k1, k2⟩ | ⟨q, z, k1, rfl, k2, k3, k4, k5⟩
  · by_cases c : S2.str i = []
    · rw [if_pos c]
      refine ⟨_, _, rfl, .of_belS rfl (fin _).glob (fin _).low (own' _) (fin _).bel (fun h => absurd h ?_) (fun _ => rfl)⟩
      rw [hW, k2, c, List.length_map, List.length_append, kl]
      show ¬ gs.length < gs.length + 0
      omega
    · rw [if_neg c]
      rw [tail_ne c] at k2
      have hw : (Wl C i)[(S.made i).length]? = some (grD ((S2.str i).getD 0 0 % m, S2.str i)) := by
        rw [hW, k2, List.getElem?_map, kl, List.getElem?_append_right (Nat.le_refl _), Nat.sub_self]; rfl
      refine ⟨_, _, rfl, .of_belS rfl (fin _).glob (fin _).low (own' _) (fin _).bel (fun _ => ⟨hw, gs ++ [((S2.str i).getD 0 0 % m, S2.str i)], ?_, ?_, fun _ => .inr k1, fun u hu => ?_⟩) (fun h => absurd (getE hw) h)⟩
      · rw [pushed]
        show S2.made i ++ _ = _
        rw [mi, h1, List.map_append]; rfl
      · show groupI m (((Wl C (C.tgt (.at i 0))).take (S2.pos (.at i 0))).map toI) = _ ++ (if (fset S2.str i [] i) = [] then [] else _)
        rw [fset_self, if_pos rfl, List.append_nil, ← k2, List.take_of_length_le (by omega)]
      · have hu : u ∈ fset S2.str i [] i := hu
        rw [fset_self] at hu
        cases hu
  · rw [if_neg k4, if_neg (fun e => nomatch e)]
    rw [tail_ne k4] at k3
    have g1 : groupI m (((Wl C (C.tgt (.at i 0))).take (q + 1)).map toI) = (gs ++ [((S2.str i).getD 0 0 % m, S2.str i)]) ++ [(z % m, [z])] := by
      rw [grp_take k2, k3, groupS_snoc, if_neg (fun e => k5 e.symm)]
    have sp : ∃ r, groupI m ((Wl C (C.tgt (.at i 0))).map toI) = (gs ++ [((S2.str i).getD 0 0 % m, S2.str i)]) ++ r := by
      obtain ⟨r, hr, _⟩ := grp_init m (((Wl C (C.tgt (.at i 0))).drop (q + 1)).map toI) (gs ++ [((S2.str i).getD 0 0 % m, S2.str i)]) (z % m, [z])
      refine ⟨r, ?_⟩
      rw [← hr, ← g1]
      unfold groupI
      rw [← List.foldl_append, ← List.map_append, List.take_append_drop]
    obtain ⟨r, hr⟩ := sp
    have hw : (Wl C i)[(S.made i).length]? = some (grD ((S2.str i).getD 0 0 % m, S2.str i)) := by
      rw [hW, hr, List.getElem?_map, kl, List.append_assoc, List.getElem?_append_right (Nat.le_refl _), Nat.sub_self]; rfl
    refine ⟨_, _, rfl, .of_belS rfl (fin _).glob (fin _).low (own' _) (fin _).bel (fun _ => ⟨hw, gs ++ [((S2.str i).getD 0 0 % m, S2.str i)], ?_, ?_, fun e => ?_, fun u hu => ?_⟩) (fun h => absurd (getE hw) h)⟩
    · rw [pushed]
      show S2.made i ++ _ = _
      rw [mi, h1, List.map_append]; rfl
    · show groupI m (((Wl C (C.tgt (.at i 0))).take (S2.pos (.at i 0))).map toI) = _ ++ (if (fset S2.str i [z] i) = [] then [] else [((fset S2.str i [z] i).getD 0 0 % m, fset S2.str i [z] i)])
      rw [fset_self, if_neg (by simp), k1, g1]
      rfl
    · have e : fset S2.str i [z] i = [] := e
      rw [fset_self] at e
      cases e
    · have hu : u ∈ fset S2.str i [z] i := hu
      show u % m = (fset S2.str i [z] i).getD 0 0 % m
      rw [fset_self] at hu ⊢
      rw [List.mem_singleton.mp hu]
      rfl
theorem asks_small (gd : Gd C ks) (g : Glob C S) : S.asks.length ≤ 24 * 201 := by
  rw [g.asks]
  have h1 := tot_le (f := asks1 C S) (c := 201) (n := C.ls.length) fun i hi => by
    unfold asks1
    cases h : C.ls[i]? with
    | none => exact Nat.zero_le _
    | some l =>
      cases l with
      | source k =>
        dsimp only
        have h1 := (g.pre i hi).2
        have h2 := b2n_le (S.over i)
        rw [Wl_src h, List.length_map] at h1
        have h3 : (C.lists.getD k.toNat []).length ≤ 200 := by
          rw [List.getD_eq_getElem?_getD]
          cases e : C.lists[k.toNat]? with
          | none => exact Nat.zero_le _
          | some row => exact gd.ls.len row (List.mem_of_getElem? e)
        omega
      | _ => exact Nat.zero_le _
  have := gd.l24
  have h2 : C.ls.length * 201 ≤ 24 * 201 := Nat.mul_le_mul_right _ this
  omega
theorem step_source (gd : Gd C ks) {k : Int} (hl : C.ls[i]? = some (.source k)) (low : Low C S i) (g : Glob C S) (hk : LnOk C S i (.source k)) :
    ∃ x S', stepL C pl L i S (.source k) = some (x, S') ∧ StepR C i (.source k) S x S' := by
  obtain ⟨k0, k1, ku⟩ := gd.src hl
  have hW := Wl_src hl
  have hk : S.nexts.getD k.toNat 0 = ((S.made i).length : Int) := hk
  have hi := (List.getElem?_eq_some_iff.mp hl).1
  have ml := (g.pre i hi).2
  have lw : (Wl C i).length = (C.lists.getD k.toNat []).length := by rw [hW, List.length_map]
  have as := asks_small gd g
  have nl := g.nl
  unfold stepL askM
  dsimp only
  rw [hk, gd_pos ⟨k0, by omega, nl, by omega, by omega, by omega⟩]
  have low1 : ∀ S' : Ms, S'.made = S.made → S'.over = S.over → S'.pos = S.pos → S'.str = S.str → S'.h0 = S.h0 → S'.h1 = S.h1 → (∀ t : Nat, t ≠ k.toNat → S'.nexts.getD t 0 = S.nexts.getD t 0) → Low C S' i := fun S' e1 e2 e3 e4 e5 e6 e7 j l hj hl' => by
    obtain ⟨h1, h2⟩ := low j l hj hl'
    refine ⟨fun ho => (h1 (by rw [← e2]; exact ho)).same (by rw [e1]) (by rw [e4]) (by rw [e5]) (by rw [e6]) (by rw [e3]) (by rw [e3]) (fun k' hk' => ?_), fun s hs => by rw [e3, e1]; exact h2 s hs⟩
    subst hk'
    refine e7 _ fun z => ku j hj ?_
    have k0' := (gd.src hl').1
    rw [hl']
    congr 2
    omega
  have nx1 : ∀ s : Nat, (∀ j, j ≤ i → C.ls[j]? ≠ some (.source s)) → s ≠ k.toNat := fun s h z => by
    apply h i (Nat.le_refl i)
    rw [hl, z, Int.toNat_of_nonneg k0]
  by_cases c : ((S.made i).length : Int) = (C.lists.getD k.toNat []).length
  · rw [if_pos c]
    refine ⟨_, _, rfl, ⟨⟨g.pre, g.fin, ?_, g.left, g.nl⟩, low1 _ rfl rfl rfl rfl rfl rfl (fun _ _ => rfl), fun s hs => absurd hs (Nat.not_lt_zero s), fun _ _ => rfl, fun _ _ => rfl, fun _ _ => rfl, fun _ _ => rfl, fun _ _ => rfl, fun _ _ => rfl, fun _ _ => rfl, fun _ => Nat.le_refl _, rfl, fun h => absurd h (by omega), fun _ => rfl⟩⟩
    show (S.asks ++ [k]).length = _
    rw [List.length_append, g.asks]; rfl
  · rw [if_neg c]
    have nxe : ∀ t : Nat, t ≠ k.toNat → ((S.ask k).adv k.toNat ((S.made i).length + 1)).nexts.getD t 0 = S.nexts.getD t 0 := fun t ht => by
      show (S.nexts.set k.toNat _).getD t 0 = _
      rw [List.getD_eq_getElem?_getD, List.getElem?_set_ne (fun z => ht z.symm), ← List.getD_eq_getElem?_getD]
    refine ⟨_, _, rfl, ⟨⟨g.pre, g.fin, ?_, g.left, ?_⟩, low1 _ rfl rfl rfl rfl rfl rfl nxe, fun s hs => absurd hs (Nat.not_lt_zero s), fun _ _ => rfl, fun _ _ => rfl, fun _ _ => rfl, fun _ _ => rfl, fun _ _ => rfl, fun _ _ => rfl, fun s h => nxe s (nx1 s h), fun _ => Nat.le_refl _, rfl, fun _ => ⟨?_, ?_⟩, fun h => absurd (by omega) h⟩⟩
    · show (S.asks ++ [k]).length = _
      rw [List.length_append, g.asks]; rfl
    · show (S.nexts.set k.toNat _).length = _
      rw [List.length_set]; exact nl
    · rw [hW, List.getElem?_map, Int.toNat_natCast]
      have hlt : (S.made i).length < (C.lists.getD k.toNat []).length := by omega
      rw [List.getD_eq_getElem?_getD (l := C.lists.getD k.toNat []), List.getElem?_eq_getElem hlt]; rfl
    · show (S.nexts.set k.toNat ((S.made i).length + 1)).getD k.toNat 0 = (((((S.ask k).adv k.toNat ((S.made i).length + 1)).push i _).made i).length : Int)
      rw [pushed, List.length_append, List.getD_eq_getElem?_getD, List.getElem?_set_self (by omega)]
      rfl
/-- a step of any line -/
theorem step_ok (gd : Gd C ks) (hp : Pulls C pl i) (hL : 60000 ≤ L) (hl : C.ls[i]? = some l) (low : Low C S i) (g : Glob C S) (own : ∀ s, s < l.names.length → S.pos (.at i s) ≤ (S.made (C.tgt (.at i s))).length) (hk : LnOk C S i l) :
    ∃ x S', stepL C pl L i S l = some (x, S') ∧ StepR C i l S x S' := by
  cases l with
  | source k => exact step_source gd hl low g hk
  | map ds a => exact step_map gd hp hl low g own hk
  | keep ts a => exact step_keep gd hp hl hL low g own hk
  | whil ts a => exact step_whil gd hp hl low g own hk
  | take n a => exact step_take gd hp hl low g own hk
  | skip n a => exact step_skip gd hp hl hL low g own hk
  | group m a => exact step_group gd hp hl hL low g own hk
  | window n a => exact step_window gd hp hl hL low g own hk
  | fold f n a => exact step_fold gd hp hl low g own hk
  | chain a b => exact step_chain gd hp hl low g own hk
  | pair a b => exact step_pair gd hp hl low g own hk
  | merge a b => exact step_merge gd hp hl low g own hk
end
open PySem PySem.Spec PyProof.Rows L2
section
variable {C : Ct} {ks : List Kd} {S S' S1 S2 : Ms} {i j : Nat} {p : Pl} {pl : Pull} {L : Nat} {l : Ln}
/-- what making leaves -/
structure MakeR (C : Ct) (i : Nat) (S S' : Ms) : Prop where
  glob : Glob C S'
  low : Low C S' (i + 1)
  made : ∀ j, i < j → S'.made j = S.made j
  over : ∀ j, i < j → S'.over j = S.over j
  str : ∀ j, i < j → S'.str j = S.str j
  h0 : ∀ j, i < j → S'.h0 j = S.h0 j
  h1 : ∀ j, i < j → S'.h1 j = S.h1 j
  pos : ∀ q, (∀ j s, j ≤ i → q ≠ .at j s) → S'.pos q = S.pos q
  nx : ∀ s : Nat, (∀ j, j ≤ i → C.ls[j]? ≠ some (.source s)) → S'.nexts.getD s 0 = S.nexts.getD s 0
  len : ∀ j, (S.made j).length ≤ (S'.made j).length
  gone : S'.gone = S.gone
  hit : (S.made i).length < (Wl C i).length → (S'.made i).length = (S.made i).length + 1
  miss : ¬ (S.made i).length < (Wl C i).length → (S'.made i).length = (S.made i).length
theorem make_ok (gd : Gd C ks) (hp : Pulls C pl i) (hL : 60000 ≤ L) (hi : i < C.ls.length) (low : Low C S (i + 1)) (g : Glob C S) : ∃ S', makeM C pl L 25 i S = some S' ∧ MakeR C i S S' := by
  have hl : C.ls[i]? = some C.ls[i] := List.getElem?_eq_getElem hi
  generalize C.ls[i] = l at hl
  obtain ⟨lk, own⟩ := low i l (Nat.lt_succ_self i) hl
  have low0 : Low C S i := fun j l hj h => low j l (Nat.lt_succ_of_lt hj) h
  unfold makeM
  cases ho : S.over i with
  | true =>
    rw [if_pos rfl]
    have hf := g.fin i hi ho
    exact ⟨S, rfl, g, low, fun _ _ => rfl, fun _ _ => rfl, fun _ _ => rfl, fun _ _ => rfl, fun _ _ => rfl, fun _ _ => rfl, fun _ _ => rfl, fun _ => Nat.le_refl _, rfl, fun h => absurd h (by rw [hf]; omega), fun _ => rfl⟩
  | false =>
    rw [if_neg (by decide)]
    obtain ⟨x, S1, e, R⟩ := step_ok gd hp hL hl low0 g own (lk ho)
    unfold stepM
    rw [hl]
    dsimp only
    rw [e]
    dsimp only
    have mi := R.made i (Nat.le_refl i)
    have oi := R.over i (Nat.le_refl i)
    rw [ho] at oi
    have ml := (g.pre i hi).2
    by_cases c : (S.made i).length < (Wl C i).length
    · obtain ⟨hx, hk⟩ := R.hit c
      have xne : x ≠ .none := by
        obtain ⟨k, hk1, _⟩ := gd.good.at hl
        exact has_ne (gd.has hk1 x (List.mem_of_getElem? hx))
      have l5 := gd.len i
      rw [if_neg xne, gd_pos (by rw [mi]; omega)]
      have pm := (R.glob.pre i hi).1
      have glob : Glob C (S1.push i x) := by
        refine ⟨fun j hj => ?_, fun j hj h => ?_, ?_, R.glob.left, R.glob.nl⟩
        · by_cases ej : j = i
          · subst ej
            rw [pushed, mi, List.length_append]
            refine ⟨?_, by show (S.made j).length + 1 ≤ _; omega⟩
            show _ = (Wl C j).take ((S.made j).length + 1)
            rw [take_snoc hx, ← (g.pre j hj).1]
          · have e1 : (S1.push i x).made j = S1.made j := fset_ne ej
            rw [e1]; exact R.glob.pre j hj
        · have ej : j ≠ i := fun z => by
            subst z
            have h : S1.over j = true := h
            rw [oi] at h; cases h
          have e1 : (S1.push i x).made j = S1.made j := fset_ne ej
          rw [e1]; exact R.glob.fin j hj h
        · show S1.asks.length = _
          rw [R.glob.asks]
          cases hs : isSrc l with
          | true =>
            refine (tot_up hi (fun j hj => ?_) ?_).symm
            · unfold asks1
              rw [show (S1.push i x).made j = S1.made j from fset_ne hj]
              rfl
            · cases l with
              | source k =>
                unfold asks1
                rw [hl]
                dsimp only
                rw [pushed, List.length_append]
                show (S1.made i).length + 1 + b2n (S1.over i) = (S1.made i).length + b2n (S1.over i) + 1
                omega
              | _ => cases hs
          | false =>
            show _ + 0 = _
            rw [Nat.add_zero]
            refine tot_same fun j hj => ?_
            unfold asks1
            by_cases ej : j = i
            · subst ej
              rw [hl]
              cases l with
              | source k => cases hs
              | _ => rfl
            · rw [show (S1.push i x).made j = S1.made j from fset_ne ej]
              rfl
      refine ⟨_, rfl, glob, fun j l' hj hl' => ?_, fun j hj => ?_, fun j hj => R.over j (by omega), R.str, R.h0, R.h1, R.pos, R.nx, fun j => ?_, R.gone, fun _ => ?_, fun h => absurd c h⟩
      · by_cases ej : j = i
        · subst ej
          rw [hl] at hl'
          cases hl'
          refine ⟨fun _ => hk, fun s hs => ?_⟩
          have ht := gd.run.ct.tgt hl hs
          rw [show (S1.push j x).made (C.tgt (.at j s)) = S1.made (C.tgt (.at j s)) from fset_ne (by omega)]
          exact R.own s hs
        · obtain ⟨h1, h2⟩ := R.low j l' (by omega) hl'
          refine ⟨fun h => (h1 h).same (fset_ne ej) rfl rfl rfl rfl rfl (fun _ _ => rfl), fun s hs => ?_⟩
          have ht := gd.run.ct.tgt hl' hs
          rw [show (S1.push i x).made (C.tgt (.at j s)) = S1.made (C.tgt (.at j s)) from fset_ne (by omega)]
          exact h2 s hs
      · rw [show (S1.push i x).made j = S1.made j from fset_ne (by omega)]
        exact R.made j (by omega)
      · by_cases ej : j = i
        · subst ej
          rw [pushed, List.length_append, mi]
          exact Nat.le_succ _
        · rw [show (S1.push i x).made j = S1.made j from fset_ne ej]
          exact R.len j
      · rw [pushed, List.length_append, mi]; rfl
    · have hx := R.miss c
      rw [if_pos hx]
      have full : S.made i = Wl C i := by
        rw [(g.pre i hi).1, List.take_of_length_le (by omega)]
      have glob : Glob C (S1.setOver i) := by
        refine ⟨R.glob.pre, fun j hj h => ?_, ?_, R.glob.left, R.glob.nl⟩
        · show S1.made j = _
          by_cases ej : j = i
          · subst ej; rw [mi]; exact full
          · have h : (fset S1.over i true) j = true := h
            rw [fset_ne ej] at h
            exact R.glob.fin j hj h
        · show S1.asks.length = _
          rw [R.glob.asks]
          cases hs : isSrc l with
          | true =>
            refine (tot_up hi (fun j hj => ?_) ?_).symm
            · unfold asks1
              rw [show (S1.setOver i).over j = S1.over j from fset_ne hj]
              rfl
            · cases l with
              | source k =>
                unfold asks1
                rw [hl]
                dsimp only
                rw [show (S1.setOver i).over i = true from fset_self, oi]
                rfl
              | _ => cases hs
          | false =>
            show _ + 0 = _
            rw [Nat.add_zero]
            refine tot_same fun j hj => ?_
            unfold asks1
            by_cases ej : j = i
            · subst ej
              rw [hl]
              cases l with
              | source k => cases hs
              | _ => rfl
            · rw [show (S1.setOver i).over j = S1.over j from fset_ne ej]
              rfl
      have low2 : Low C (S1.setOver i) (i + 1) := fun j l' hj hl' => by
        by_cases ej : j = i
        · subst ej
          rw [hl] at hl'
          cases hl'
          refine ⟨fun h => ?_, R.own⟩
          have h : (fset S1.over j true) j = false := h
          rw [fset_self] at h; cases h
        · obtain ⟨h1, h2⟩ := R.low j l' (by omega) hl'
          refine ⟨fun h => (h1 ?_).same rfl rfl rfl rfl rfl rfl (fun _ _ => rfl), h2⟩
          have h : (fset S1.over i true) j = false := h
          rw [fset_ne ej] at h
          exact h
      obtain ⟨S2, e2, lg⟩ := letGo_ok gd.run.ct gd.run.n1 25 i (S1.setOver i) (by have := gd.l24; omega) hi glob.left
      have sm := lg.sam
      refine ⟨S2, e2, lg.glob glob, sm.low low2, fun j hj => ?_, fun j hj => ?_, fun j hj => ?_, fun j hj => ?_, fun j hj => ?_, fun q hq => ?_, fun s hs => ?_, fun j => ?_, ?_, fun h => absurd h c, fun _ => ?_⟩
      · rw [sm.made]; exact R.made j (by omega)
      · rw [sm.over]
        show (fset S1.over i true) j = _
        rw [fset_ne (by omega)]
        exact R.over j (by omega)
      · rw [sm.str]; exact R.str j hj
      · rw [sm.h0]; exact R.h0 j hj
      · rw [sm.h1]; exact R.h1 j hj
      · rw [sm.pos]; exact R.pos q hq
      · rw [sm.nexts]; exact R.nx s hs
      · rw [sm.made]; exact R.len j
      · rw [sm.gone]; exact R.gone
      · rw [sm.made]; show (S1.made i).length = _; rw [mi]
/-- a pull of a place whose owner lies behind -/
theorem pullW_ok (gd : Gd C ks) (hp : Pulls C pl (C.tgt p)) (hL : 60000 ≤ L) (hi : C.tgt p < C.ls.length) (low : Low C S (C.tgt p + 1)) (g : Glob C S) (le : S.pos p ≤ (S.made (C.tgt p)).length) (hpp : ∀ j s, j ≤ C.tgt p → p ≠ .at j s) :
    ∃ x S', pullW C (makeM C pl L 25) p S = some (x, S') ∧ Got C p S x S' := by
  -- behind the making, if any
  have fin : ∀ S1, Glob C S1 → Low C S1 (C.tgt p + 1) → Frm C (C.tgt p) p S S1 → S1.pos p = S.pos p → (S.pos p < (Wl C (C.tgt p)).length → S.pos p < (S1.made (C.tgt p)).length) → (¬ S.pos p < (Wl C (C.tgt p)).length → S.pos p = (S1.made (C.tgt p)).length) →
      ∃ x S', (if S1.pos p = (S1.made (C.tgt p)).length then some (PyData.none, S1) else Wv.gd (S1.pos p < (S1.made (C.tgt p)).length) (some ((S1.made (C.tgt p)).getD (S1.pos p) .none, S1.setPos p (S1.pos p + 1)))) = some (x, S') ∧ Got C p S x S' := fun S1 g1 l1 f1 p1 a b => by
    by_cases c : S.pos p < (Wl C (C.tgt p)).length
    · have hlt := a c
      rw [p1, if_neg (by omega), gd_pos hlt]
      have pm := g1.pre _ hi
      refine ⟨_, _, rfl, ⟨f1.made, f1.over, f1.str, f1.h0, f1.h1, fun q hq hq2 => ?_, f1.nx, f1.len, f1.gone⟩, g1.own rfl rfl rfl rfl rfl rfl, fun j l hj hl => ?_, fun _ => ⟨?_, ?_⟩, fun h => absurd c h, ?_⟩
      · rw [show (S1.setPos p (S.pos p + 1)).pos q = S1.pos q from fset_ne hq]
        exact f1.pos q hq hq2
      · obtain ⟨h1, h2⟩ := l1 j l hj hl
        have pe : ∀ s, (S1.setPos p (S.pos p + 1)).pos (.at j s) = S1.pos (.at j s) := fun s => fset_ne fun z => hpp j s (by omega) z.symm
        exact ⟨fun h => (h1 h).same rfl rfl rfl rfl (pe 0) (pe 1) (fun _ _ => rfl), fun s hs => by rw [pe s]; exact h2 s hs⟩
      · have e : (S1.made (C.tgt p))[S.pos p]? = (Wl C (C.tgt p))[S.pos p]? := by
          rw [pm.1, List.getElem?_take, if_pos hlt]
        rw [← e, List.getD_eq_getElem?_getD, List.getElem?_eq_getElem hlt]; rfl
      · exact fset_self
      · rw [show (S1.setPos p (S.pos p + 1)).pos p = S.pos p + 1 from fset_self]
        exact hlt
    · have heq := b c
      rw [p1, if_pos heq]
      exact ⟨_, _, rfl, f1, g1, l1, fun h => absurd h c, fun _ => ⟨rfl, p1⟩, by rw [p1]; exact Nat.le_of_eq heq⟩
  unfold pullW
  have ml := (g.pre _ hi).2
  by_cases c : S.pos p = (S.made (C.tgt p)).length
  · rw [if_pos c]
    obtain ⟨S1, e, R⟩ := make_ok gd hp hL hi low g
    rw [e]
    dsimp only
    refine fin S1 R.glob R.low ⟨R.made, R.over, R.str, R.h0, R.h1, fun q hq hq2 => R.pos q hq2, R.nx, R.len, R.gone⟩ (R.pos p fun j s hj => hpp j s hj) (fun h => ?_) (fun h => ?_)
    · rw [R.hit (by omega)]; omega
    · rw [R.miss (by omega)]; exact c
  · rw [if_neg c]
    dsimp only
    exact fin S g low Frm.refl rfl (fun h => by omega) (fun h => by omega)
theorem pulls_ok (gd : Gd C ks) (hL : 60000 ≤ L) : ∀ d, d ≤ C.ls.length → Pulls C (pullM C L 25 d) d
  | 0, _ => fun p S h => absurd h (Nat.not_lt_zero _)
  | d + 1, hd => fun p S ht low g le hpp => by
    have ih := pulls_ok gd hL d (by omega)
    exact pullW_ok gd (fun q S' hq => ih q S' (by omega)) hL (by omega) low g le hpp
/-- more depth does no harm -/
theorem pulls_more (gd : Gd C ks) (hL : 60000 ≤ L) : ∀ d, Pulls C (pullM C L 25 d) (min d C.ls.length)
  | 0 => fun p S h => absurd h (by omega)
  | d + 1 => fun p S ht low g le hpp => by
    have ih := pulls_more gd hL d
    exact pullW_ok gd (fun q S' hq => ih q S' (by omega)) hL (by omega) low g le hpp
theorem PL_ok (gd : Gd C ks) (hL : 60000 ≤ L) : Pulls C (PL C L) C.ls.length := by
  have h := pulls_more gd hL 25
  have := gd.l24
  rw [Nat.min_eq_right (by omega)] at h
  exact h
/-- between the turns of whoever pulls -/
structure Rest (C : Ct) (S : Ms) : Prop where
  glob : Glob C S
  low : Low C S C.ls.length
  out : ∀ j, j < C.outs.length → S.pos (.out j) ≤ (S.made (C.tgt (.out j))).length
/-- an outlet pulled -/
theorem pull_out (gd : Gd C ks) (hL : 60000 ≤ L) (r : Rest C S) (hj : j < C.outs.length) : ∃ x S', PL C L (.out j) S = some (x, S') ∧ Rest C S' ∧ S'.gone = S.gone ∧ (∀ j', j' ≠ j → S'.pos (.out j') = S.pos (.out j')) ∧
    (S.pos (.out j) < (Wl C (C.tgt (.out j))).length → (Wl C (C.tgt (.out j)))[S.pos (.out j)]? = some x ∧ S'.pos (.out j) = S.pos (.out j) + 1) ∧ (¬ S.pos (.out j) < (Wl C (C.tgt (.out j))).length → x = .none ∧ S'.pos (.out j) = S.pos (.out j)) := by
  have ht : C.tgt (.out j) < C.ls.length := gd.run.out j hj
  obtain ⟨x, S', e, got⟩ := PL_ok gd hL (.out j) S ht (fun j l h1 h2 => r.low j l (by omega) h2) r.glob (r.out j hj) (fun _ _ _ z => by cases z)
  refine ⟨x, S', e, ⟨got.glob, fun j' l hj' hl => ?_, fun j' hj' => ?_⟩, got.frm.gone, fun j' hne => got.frm.pos _ (by intro z; cases z; exact hne rfl) (fun _ _ _ z => by cases z), got.hit, got.miss⟩
  · by_cases c : j' < C.tgt (.out j) + 1
    · exact got.low j' l c hl
    · obtain ⟨h1, h2⟩ := r.low j' l hj' hl
      have pe : ∀ t, S'.pos (.at j' t) = S.pos (.at j' t) := fun t => got.frm.pos _ (fun z => by cases z) (fun i' t' hi' z => by cases z; omega)
      refine ⟨fun ho => (h1 (by rw [← got.frm.over j' (by omega)]; exact ho)).same (got.frm.made j' (by omega)) (got.frm.str j' (by omega)) (got.frm.h0 j' (by omega)) (got.frm.h1 j' (by omega)) (pe 0) (pe 1) (fun k hk => ?_), fun t ht' => ?_⟩
      · subst hk
        obtain ⟨k0, _, ku⟩ := gd.src hl
        refine got.frm.nx k.toNat fun i' hi' e => ?_
        rw [Int.toNat_of_nonneg k0] at e
        exact ku i' (by omega) e
      · rw [pe t]
        exact Nat.le_trans (h2 t ht') (got.frm.len _)
  · by_cases c : j' = j
    · subst c; exact got.le
    · rw [got.frm.pos _ (by intro z; cases z; exact c rfl) (fun _ _ _ z => by cases z)]
      exact Nat.le_trans (r.out j' hj') (got.frm.len _)
/-- an outlet let go -/
theorem leave_out (gd : Gd C ks) (r : Rest C S) (hj : j < C.outs.length) : ∃ S', leaveM C 25 (.out j) (S.drop j) = some S' ∧ Rest C S' ∧ S'.gone = fset S.gone j true ∧ S'.pos = S.pos ∧ S'.made = S.made ∧ S'.over = S.over ∧ S'.asks = S.asks := by
  have ht : C.tgt (.out j) < C.ls.length := gd.run.out j hj
  obtain ⟨S', e, lg⟩ := leaveM_ok (S := S.drop j) gd.run.ct gd.run.n1 gd.l24 (p := .out j) ht r.glob.left
  have sm := lg.sam
  refine ⟨S', e, ⟨lg.glob (r.glob.own rfl rfl rfl rfl rfl rfl), sm.low (r.low.own rfl rfl rfl rfl (fun _ _ => ⟨rfl, rfl, rfl⟩)), fun j' hj' => ?_⟩, sm.gone, sm.pos, sm.made, sm.over, sm.asks⟩
  rw [sm.pos, sm.made]
  exact r.out j' hj'
/-- the beginning -/
theorem stO_more (C : Ct) (j : Nat) : (stO C j).over = (S0 C).over ∧ (stO C j).loose = (S0 C).loose ∧ (stO C j).str = (S0 C).str ∧ (stO C j).h0 = (S0 C).h0 ∧ (stO C j).h1 = (S0 C).h1 ∧ (stO C j).made = (S0 C).made ∧ (stO C j).pos = (S0 C).pos ∧ (stO C j).gone = (S0 C).gone ∧ (stO C j).nexts = (S0 C).nexts ∧ (stO C j).asks = [] ∧ (stO C j).left = [] := by
  have al : ∀ (j : Nat) (xs : List Nat) (S : Ms), (xs.foldl (fun S s => addP C S (.at j s)) S).gone = S.gone ∧ (xs.foldl (fun S s => addP C S (.at j s)) S).nexts = S.nexts ∧ (xs.foldl (fun S s => addP C S (.at j s)) S).asks = S.asks ∧ (xs.foldl (fun S s => addP C S (.at j s)) S).left = S.left := by
    intro j xs
    induction xs with
    | nil => intro S; exact ⟨rfl, rfl, rfl, rfl⟩
    | cons x xs ih => intro S; exact ih _
  have hg : ∀ i, (stL C i).gone = (S0 C).gone ∧ (stL C i).nexts = (S0 C).nexts ∧ (stL C i).asks = [] ∧ (stL C i).left = [] := fun i => by
    induction i with
    | zero => exact ⟨rfl, rfl, rfl, rfl⟩
    | succ i ih =>
      rw [stL_succ]
      obtain ⟨a, b, c, d⟩ := al i (List.range (nPl C i)) (stL C i)
      exact ⟨a.trans ih.1, b.trans ih.2.1, c.trans ih.2.2.1, d.trans ih.2.2.2⟩
  obtain ⟨a1, a2, a3, a4, a5, a6, a7⟩ := stL_flat C C.ls.length
  obtain ⟨b1, b2, b3, b4⟩ := hg C.ls.length
  induction j with
  | zero => exact ⟨a2, a3, a4, a5, a6, a1, a7, b1, b2, b3, b4⟩
  | succ j ih => rw [stO_succ]; exact ih
theorem start_ok (gd : Gd C ks) : ∃ S, startM C = some S ∧ Rest C S ∧ S.asks = [] ∧ (∀ p, S.pos p = 0) ∧ (∀ i, S.made i = []) ∧ (∀ i, S.over i = false) ∧ ∀ j, S.gone j = false := by
  obtain ⟨e1, e2, e3, e4, e5, e6, e7, e8, e9, e10, e11⟩ := stO_more C C.outs.length
  have l0 : (stO C C.outs.length).left.length ≤ TL C (stO C C.outs.length) := by rw [e11]; exact Nat.zero_le _
  have fold : ∀ (is : List Nat) (S : Ms), (∀ i ∈ is, i < C.ls.length) → S.left.length ≤ TL C S → ∃ S', looseL C is S = some S' ∧ Lgo C S S' := by
    intro is
    induction is with
    | nil => intro S _ _; exact ⟨S, rfl, Lgo.refl⟩
    | cons i is ih =>
      intro S hi hl
      unfold looseL foldP
      by_cases c : S.hold i = 0
      · obtain ⟨S1, f1, s1⟩ := letGo_ok gd.run.ct gd.run.n1 25 i S (by have := hi i List.mem_cons_self; have := gd.l24; omega) (hi i List.mem_cons_self) (by omega)
        obtain ⟨S2, f2, s2⟩ := ih S1 (fun j hj => hi j (List.mem_cons_of_mem _ hj)) (by have := s1.room; omega)
        refine ⟨S2, ?_, s1.trans s2⟩
        rw [if_pos c, f1]
        exact f2
      · obtain ⟨S2, f2, s2⟩ := ih S (fun j hj => hi j (List.mem_cons_of_mem _ hj)) hl
        refine ⟨S2, ?_, s2⟩
        rw [if_neg c]
        exact f2
  obtain ⟨S1, f1, s1⟩ := fold (List.range C.ls.length) _ (fun i hi => List.mem_range.mp hi) l0
  have r1 := s1.room
  have t1 := TL_le C S1
  have l24 := gd.l24
  have sm := s1.sam
  have hl1 : S1.left.length ≤ TL C S1 := by omega
  unfold startM
  rw [f1]
  dsimp only
  rw [gd_pos (by omega)]
  have un : (unnamed C).length ≤ C.lists.length := by
    have := List.length_filter_le (fun k => !decide (k ∈ srcs C.ls)) ((List.range C.lists.length).map fun (k : Nat) => (k : Int))
    rw [List.length_map, List.length_range] at this
    exact this
  have made0 : ∀ i, S1.made i = [] := fun i => by rw [sm.made, e6]; rfl
  have over0 : ∀ i, S1.over i = false := fun i => by rw [sm.over, e1]; rfl
  have pos0 : ∀ p, S1.pos p = 0 := fun p => by rw [sm.pos, e7]; rfl
  refine ⟨_, rfl, ⟨⟨fun i hi => ?_, fun i hi h => ?_, ?_, ?_, ?_⟩, fun j l hj hl => ⟨fun _ => ?_, fun s hs => ?_⟩, fun j hj => ?_⟩, ?_, pos0, made0, over0, fun j => ?_⟩
  · show S1.made i = _ ∧ (S1.made i).length ≤ _
    rw [made0]; exact ⟨rfl, Nat.zero_le _⟩
  · have h : S1.over i = true := h
    rw [over0] at h; cases h
  · show S1.asks.length = _
    rw [sm.asks, e10]
    have z : tot (fun _ => 0) C.ls.length = 0 := by
      have := tot_le (f := fun _ => 0) (c := 0) (n := C.ls.length) (fun _ _ => Nat.le_refl _)
      omega
    show 0 = _
    rw [← z]
    refine (tot_same fun i _ => ?_).symm
    unfold asks1
    cases h : C.ls[i]? with
    | none => rfl
    | some l =>
      cases l with
      | source k =>
        show (S1.made i).length + b2n (S1.over i) = 0
        rw [made0, over0]; rfl
      | _ => rfl
  · show (sortI (S1.left ++ unnamed C)).length ≤ TL C S1 + C.lists.length
    rw [(sortI_perm _).length_eq, List.length_append]
    omega
  · show S1.nexts.length = _
    rw [sm.nexts, e9]
    show (List.replicate _ _).length = _
    rw [List.length_replicate]
  · have k0 : ∀ i, (S1.made i).length = 0 := fun i => by rw [made0]; rfl
    show LnOk C { S1 with left := sortI (S1.left ++ unnamed C) } j l
    unfold LnOk
    dsimp only
    cases l with
    | source k =>
      dsimp only
      rw [k0, sm.nexts, e9]
      show (List.replicate C.lists.length (0 : Int)).getD k.toNat 0 = _
      rw [List.getD_eq_getElem?_getD]
      cases h : (List.replicate C.lists.length (0 : Int))[k.toNat]? with
      | none => rfl
      | some z =>
        have := (List.getElem?_replicate (n := C.lists.length) (a := (0 : Int)) (i := k.toNat))
        rw [this] at h
        split at h
        · cases h; rfl
        · cases h
    | map ds a => dsimp only; rw [k0, pos0]
    | fold f n a => dsimp only; rw [k0, pos0]
    | whil ts a => dsimp only; rw [k0, pos0]; exact ⟨rfl, fun x hx => by cases hx⟩
    | take n a =>
      dsimp only
      rw [k0, pos0]
      have hn : (decide (0 ≤ n) && decide (n ≤ 9999)) = true := gd.run.ct.num j _ hl
      rw [Bool.and_eq_true, decide_eq_true_eq] at hn
      exact ⟨rfl, hn.1⟩
    | keep ts a => dsimp only; rw [pos0, made0]; rfl
    | skip n a => dsimp only; rw [k0, pos0]; exact .inl ⟨rfl, rfl⟩
    | window n a => dsimp only; rw [k0, pos0]; exact .inl ⟨rfl, rfl⟩
    | group m a =>
      dsimp only
      rw [pos0, made0, sm.str, e3]
      exact ⟨[], rfl, rfl, fun _ => .inl ⟨rfl, rfl⟩, fun z hz => by cases hz⟩
    | chain a b => dsimp only; rw [k0, pos0, pos0]; exact .inl ⟨rfl, rfl, Nat.zero_le _⟩
    | pair a b => dsimp only; rw [k0, pos0, pos0, sm.h0, sm.h1, e4, e5]; exact ⟨rfl, rfl, rfl, rfl⟩
    | merge a b =>
      dsimp only
      rw [pos0, pos0, made0, sm.h0, sm.h1, e4, e5]
      refine ⟨.inl rfl, .inl rfl, ?_⟩
      have hW : Wl C j = (mergeI ((Wl C (C.tgt (.at j 0))).map toI) ((Wl C (C.tgt (.at j 1))).map toI)).map PyData.int := Wl_two gd.run.ct hl rfl
      rw [hW, List.map_map]
      have ei : (toI ∘ PyData.int) = id := by funext z; rfl
      rw [ei, List.map_id]
      rfl
  · show S1.pos _ ≤ (S1.made _).length
    rw [pos0]; exact Nat.zero_le _
  · show S1.pos _ ≤ (S1.made _).length
    rw [pos0]; exact Nat.zero_le _
  · show S1.asks = []
    rw [sm.asks, e10]
  · show S1.gone j = false
    rw [sm.gone, e8]; rfl
end
open PySem PySem.Spec PyProof.Rows L2
/-! ### a run among the other objects of a law -/
section
variable {K : PySem.W.Frag} {X : Cs} {C : Ct} {B : Bk} {has : Lab → Prop} {y y' : Dy} {S S' : Ms} {H H' H1 : Hp} {a p D : Addr} {cs : Addr → Cell → Prop}
theorem Cell.seen {c : Cell} (h : c.At K H a) : ∃ o, H a = some o := by
  cases c with
  | ho o => exact ⟨o, h⟩
  | acc ds => obtain ⟨xs, q⟩ := Acc.at h; exact ⟨_, q⟩
theorem Cell.keep {c : Cell} (h : c.At K H a) (t : TK K H H') (e : ∀ o, H a = some o → H' a = some o) : c.At K H' a := by
  cases c with
  | ho o => exact e _ h
  | acc ds => exact Acc.keep h t fun _ z => e _ z
/-- the run, the dice, and what is only read -/
structure Bg (K : PySem.W.Frag) (X : Cs) (C : Ct) (B : Bk) (D : Addr) (cs : Addr → Cell → Prop) (y : Dy) (S : Ms) (H : Hp) : Prop where
  rep : Rep K X C B (Full C) y S H
  kps : ∀ a c, cs a c → c.At K H a ∧ Out B (Full C) y a ∧ a ≠ D
  dice : IsDice K H D
  od : Out B (Full C) y D
/-- what is apart from them -/
structure Fre (C : Ct) (B : Bk) (D : Addr) (cs : Addr → Cell → Prop) (y : Dy) (a : Addr) : Prop where
  out : Out B (Full C) y a
  nd : a ≠ D
  nc : ∀ c, ¬ cs a c
theorem Bg.same (b : Bg K X C B D cs y S H) (s : Same H H') : Bg K X C B D cs y S H' :=
  ⟨b.rep.same s, fun a c h => ⟨Cell.same (b.kps a c h).1 s, (b.kps a c h).2⟩, b.dice.same s, b.od⟩
theorem Bg.next (b : Bg K X C B D cs y S H) (u : But D H H') (d : IsDice K H' D) : Bg K X C B D cs y S H' :=
  ⟨b.rep.out b.od u (u.dtk b.dice), fun a c h => ⟨Cell.but (b.kps a c h).1 u (u.dtk b.dice) (b.kps a c h).2.2, (b.kps a c h).2⟩, d, b.od⟩
theorem Bg.mv (b : Bg K X C B D cs y S H) (m : Mv K B (Full C) y H y' H') (r : Rep K X C B (Full C) y' S' H') : Bg K X C B D cs y' S' H' := by
  refine ⟨r, fun a c h => ?_, ?_, ?_⟩
  · obtain ⟨h1, h2, h3⟩ := b.kps a c h
    obtain ⟨o, e⟩ := Cell.seen h1
    exact ⟨Cell.keep h1 m.tk fun o e => (m.keep a o e h2).1, (m.keep a o e h2).2, h3⟩
  · exact b.dice.keep m.tk fun xs e => (m.keep D _ e b.od).1
  · obtain ⟨xs, e⟩ := b.dice.at
    exact (m.keep D _ e b.od).2
theorem Fre.mv (f : Fre C B D cs y a) {o : HO} (e : H a = some o) (m : Mv K B (Full C) y H y' H') : Fre C B D cs y' a := ⟨(m.keep a o e f.out).2, f.nd, f.nc⟩
theorem Bg.fre (b : Bg K X C B D cs y S H) (n : H a = none) : Fre C B D cs y a :=
  ⟨b.rep.nout n, (b.dice.ne_new n).symm, fun c h => by
    obtain ⟨o, e⟩ := Cell.seen (b.kps a c h).1
    rw [n] at e
    cases e⟩
theorem Bg.but (b : Bg K X C B D cs y S H) (f : Fre C B D cs y a) (u : But a H H') (t : TK K H H') : Bg K X C B D cs y S H' :=
  ⟨b.rep.out f.out u t, fun d c h => ⟨Cell.but (b.kps d c h).1 u t (fun z => f.nc c (z ▸ h)), (b.kps d c h).2⟩, b.dice.keep t fun xs e => u _ _ (fun z => f.nd z.symm) e, b.od⟩
theorem Bg.put (b : Bg K X C B D cs y S H) (f : Fre C B D cs y a) {o o' : HO} (e : H a = some o) (w : wr o = true) : Bg K X C B D cs y S (upd H a o') := by
  have u : But a H (upd H a o') := fun b u hb z => by rw [upd_ne hb]; exact z
  exact b.but f u (u.tkW e w)
theorem Bg.acc (b : Bg K X C B D cs y S H) {ds : List PyData} (h : cs a (.acc ds)) : Acc K H a ds := (b.kps a _ h).1
theorem Bg.at (b : Bg K X C B D cs y S H) {o : HO} (h : cs a (.ho o)) : H a = some o := (b.kps a _ h).1
theorem Bg.sub {cs' : Addr → Cell → Prop} (b : Bg K X C B D cs y S H) (h : ∀ a c, cs' a c → cs a c) : Bg K X C B D cs' y S H := ⟨b.rep, fun a c q => b.kps a c (h a c q), b.dice, b.od⟩
theorem Bg.add (b : Bg K X C B D cs y S H) {c : Cell} (f : Fre C B D cs y a) (h : c.At K H a) : Bg K X C B D (fun d e => (d = a ∧ e = c) ∨ cs d e) y S H :=
  ⟨b.rep, fun d e q => by
    rcases q with ⟨rfl, rfl⟩ | q
    · exact ⟨h, f.out, f.nd⟩
    · exact b.kps d e q, b.dice, b.od⟩
/-- a list of lists among what is read -/
def Rw (p : Addr) (as : List Addr) (dss : List (List PyData)) : Addr → Cell → Prop := fun a c => (a = p ∧ c = .ho (.lst (as.map V.ref))) ∨ ∃ (i : Nat) (ds : List PyData), as[i]? = some a ∧ dss[i]? = some ds ∧ c = .acc ds
theorem Bg.ll (b : Bg K X C B D cs y S H) {as : List Addr} {dss : List (List PyData)} (hl : as.length = dss.length) (h : ∀ d c, Rw p as dss d c → cs d c) : LL K H p as dss := by
  refine ⟨(b.kps p _ (h p _ (.inl ⟨rfl, rfl⟩))).1, ?_⟩
  have : ∀ (i : Nat) a ds, as[i]? = some a → dss[i]? = some ds → Acc K H a ds := fun i a ds h1 h2 => (b.kps a _ (h a _ (.inr ⟨i, ds, h1, h2, rfl⟩))).1
  clear h
  induction as generalizing dss with
  | nil => cases dss with
    | nil => exact .nil
    | cons _ _ => cases hl
  | cons x xs ih => cases dss with
    | nil => cases hl
    | cons d ds => exact .cons (this 0 x d rfl rfl) (ih (by simpa using hl) fun i a e h1 h2 => this (i + 1) a e h1 h2)
theorem LL.rw {as : List Addr} {dss : List (List PyData)} (h : LL K H p as dss) : ∀ d c, Rw p as dss d c → c.At K H d := by
  rintro d c (⟨rfl, rfl⟩ | ⟨i, ds, h1, h2, rfl⟩)
  · exact h.1
  · obtain ⟨a, e1, e2⟩ := h.2.get h2
    rw [h1] at e1
    cases e1
    exact e2
end
/-! ### what is drawn makes a good run -/
def ctOf (ls : List Ln) (outs : List Int) (lists : List (List Int)) : Ct := ⟨ls, outs.map Int.toNat, lists⟩
theorem gd_of {ls : List Ln} {ks : List Kd} {many : Int} {outs : List Int} {lists : List (List Int)} (dw : DrawnW ls ks many) (hm : (lists.length : Int) = many) (okl : OkLists lists) (o5 : outs.length ≤ 5) (ho : ∀ o ∈ outs, 0 ≤ o ∧ o < (ls.length : Int)) : Gd (ctOf ls outs lists) ks := by
  have l24 := dw.l24
  have m5 := dw.m5
  have gw : GoodW (lists.length : Int) ls ks := by rw [hm]; exact dw.good
  refine ⟨⟨⟨fun i l h => ?_, fun i l a h ha => ?_, ?_⟩, fun j hj => ?_, ?_, ?_⟩, gw, okl, dw.tw, l24⟩
  · obtain ⟨k, _, _, h3, _⟩ := gw.at h
    exact h3
  · obtain ⟨k, _, h2, _⟩ := gw.at h
    exact place_names h2 a ha
  · show ls.length ≤ 1000
    omega
  · show (outs.map Int.toNat).getD j 0 < ls.length
    have hj : j < (outs.map Int.toNat).length := hj
    rw [List.length_map] at hj
    rw [List.getD_eq_getElem?_getD, List.getElem?_map, List.getElem?_eq_getElem hj]
    have := ho _ (List.getElem_mem hj)
    show (outs[j]).toNat < _
    omega
  · show (outs.map Int.toNat).length ≤ 1000
    rw [List.length_map]; omega
  · show lists.length ≤ 1000
    omega
theorem outs_back {outs : List Int} {n : Int} (ho : ∀ o ∈ outs, 0 ≤ o ∧ o < n) : ((outs.map Int.toNat).map fun (n : Nat) => V.int (n : Int)) = outs.map V.int := by
  rw [List.map_map]
  refine List.map_congr_left fun o h => ?_
  show V.int ((o.toNat : Nat) : Int) = V.int o
  rw [Int.toNat_of_nonneg (ho o h).1]
theorem tgt_out {ls : List Ln} {outs : List Int} {lists : List (List Int)} {j : Nat} {o : Int} (h : outs[j]? = some o) : (ctOf ls outs lists).tgt (.out j) = o.toNat := by
  show (outs.map Int.toNat).getD j 0 = _
  rw [List.getD_eq_getElem?_getD, List.getElem?_map, h]
  rfl
open PySem PySem.Spec PyProof.Rows L2
/-! ### who has a place in a line; what is let go of, and when -/
def cntL (C : Ct) (i : Nat) (ss : List Nat) (j : Nat) : Nat := (ss.map fun s => if C.tgt (.at i s) = j then 1 else 0).sum
def plc (C : Ct) (i j : Nat) : Nat := cntL C i (List.range (nPl C i)) j
def oc (C : Ct) (S : Ms) (j : Nat) : Nat := tot (fun o => if S.gone o = false ∧ C.outs.getD o 0 = j then 1 else 0) C.outs.length
def lc (C : Ct) (S : Ms) (j : Nat) : Nat := tot (fun i => if S.loose i = true then 0 else plc C i j) C.ls.length
theorem tot_chg {f g : Nat → Nat} {i : Nat} : ∀ {n : Nat}, i < n → (∀ j, j ≠ i → f j = g j) → tot g n + f i = tot f n + g i
  | 0, h, _ => absurd h (Nat.not_lt_zero i)
  | n + 1, h, hs => by
    show tot g n + g n + f i = tot f n + f n + g i
    by_cases e : i = n
    · subst e
      rw [tot_same (f := g) (g := f) fun j hj => (hs j (by omega)).symm]
      omega
    · have := tot_chg (n := n) (by omega) hs
      rw [hs n (fun z => e z.symm)]
      omega
theorem tot_ge {f : Nat → Nat} {i : Nat} : ∀ {n : Nat}, i < n → f i ≤ tot f n
  | 0, h => absurd h (Nat.not_lt_zero i)
  | n + 1, h => by
    show f i ≤ tot f n + f n
    by_cases e : i = n
    · subst e; omega
    · have := tot_ge (f := f) (n := n) (i := i) (by omega)
      omega
theorem tot_zero {f : Nat → Nat} : ∀ {n : Nat}, (∀ i, i < n → f i = 0) → tot f n = 0
  | 0, _ => rfl
  | n + 1, h => by
    show tot f n + f n = 0
    rw [tot_zero fun i hi => h i (by omega), h n (by omega)]
theorem cntL_cons (C : Ct) (i s : Nat) (ss : List Nat) (j : Nat) : cntL C i (s :: ss) j = (if C.tgt (.at i s) = j then 1 else 0) + cntL C i ss j := by
  unfold cntL
  rw [List.map_cons, List.sum_cons]
theorem cntL_mem {C : Ct} {i s : Nat} : ∀ {ss : List Nat}, s ∈ ss → 1 ≤ cntL C i ss (C.tgt (.at i s))
  | [], h => by cases h
  | t :: ss, h => by
    rw [cntL_cons]
    rcases List.mem_cons.mp h with rfl | h
    · rw [if_pos rfl]; omega
    · have := cntL_mem (C := C) (i := i) h
      omega
theorem plc_zero {C : Ct} (ok : CtOk C) {i j : Nat} (h : i ≤ j) (hi : i < C.ls.length) : plc C i j = 0 := by
  have hl : C.ls[i]? = some C.ls[i] := List.getElem?_eq_getElem hi
  generalize C.ls[i] = l at hl
  unfold plc
  rw [nPl_of hl]
  have : ∀ ss : List Nat, (∀ s ∈ ss, s < l.names.length) → cntL C i ss j = 0 := by
    intro ss
    induction ss with
    | nil => intro _; rfl
    | cons s ss ih =>
      intro hs
      have ht := ok.tgt hl (hs s List.mem_cons_self)
      rw [cntL_cons, ih fun t ht => hs t (List.mem_cons_of_mem _ ht), if_neg (by omega)]
  exact this _ fun s hs => List.mem_range.mp hs
/-- the places are counted, but for those that are about to be left; who has none, or is at the end, has let go, but for X -/
structure WD (C : Ct) (U : Int → Prop) (X : Nat → Prop) (δ : Nat → Nat) (S : Ms) : Prop where
  hold : ∀ j, j < C.ls.length → S.hold j = ((oc C S j + lc C S j + δ j : Nat) : Int)
  a : ∀ j, j < C.ls.length → S.loose j = true → S.over j = true ∨ S.hold j = 0
  b : ∀ j, j < C.ls.length → S.over j = true ∨ S.hold j = 0 → S.loose j = true ∨ X j
  nd : S.left.Nodup
  mem : ∀ k, k ∈ S.left ↔ U k ∨ ∃ i : Nat, C.ls[i]? = some (.source k) ∧ S.loose i = true
/-- letting go of lines up to t -/
structure LG (C : Ct) (t : Nat) (S S' : Ms) : Prop where
  sam : Sam S S'
  up : ∀ i, t < i → S'.loose i = S.loose i
  mono : ∀ i, S.loose i = true → S'.loose i = true
  left : ∃ u, S'.left = S.left ++ u
section
variable {C : Ct} {U : Int → Prop} {X : Nat → Prop} {δ : Nat → Nat} {S S' S1 S2 : Ms} {t : Nat}
theorem LG.refl : LG C t S S := ⟨Sam.refl, fun _ _ => rfl, fun _ h => h, [], (List.append_nil _).symm⟩
theorem LG.trans (a : LG C t S S1) (b : LG C t S1 S2) : LG C t S S2 := by
  obtain ⟨u, hu⟩ := a.left
  obtain ⟨v, hv⟩ := b.left
  exact ⟨a.sam.trans b.sam, fun i h => (b.up i h).trans (a.up i h), fun i h => b.mono i (a.mono i h), u ++ v, by rw [hv, hu, List.append_assoc]⟩
theorem LG.le {r : Nat} (a : LG C r S S') (h : r ≤ t) : LG C t S S' := ⟨a.sam, fun i hi => a.up i (by omega), a.mono, a.left⟩
theorem lc_loose (hi : t < C.ls.length) (h : S.loose t = false) (j : Nat) : lc C (S.setLoose t) j + plc C t j = lc C S j := by
  have := tot_chg (f := fun i => if S.loose i = true then 0 else plc C i j) (g := fun i => if (S.setLoose t).loose i = true then 0 else plc C i j) hi (fun i hne => by
    show (if S.loose i = true then 0 else plc C i j) = if fset S.loose t true i = true then 0 else plc C i j
    rw [fset_ne hne])
  have e1 : (if S.loose t = true then 0 else plc C t j) = plc C t j := by rw [h]; rfl
  have e2 : (if (S.setLoose t).loose t = true then 0 else plc C t j) = 0 := by
    show (if fset S.loose t true t = true then 0 else plc C t j) = 0
    rw [fset_self]; rfl
  rw [e1, e2] at this
  unfold lc
  omega
theorem oc_same (h : S'.gone = S.gone) (j : Nat) : oc C S' j = oc C S j := by unfold oc; rw [h]
theorem lc_same (h : S'.loose = S.loose) (j : Nat) : lc C S' j = lc C S j := by unfold lc; rw [h]
theorem letGo_W (ok : CtOk C) (hu : ∀ k, U k → ∀ i : Nat, C.ls[i]? ≠ some (.source k)) (uq : ∀ (i j : Nat) (k : Int), C.ls[i]? = some (.source k) → C.ls[j]? = some (.source k) → i = j) :
    ∀ (f t : Nat) (S S' : Ms) (X : Nat → Prop) (δ : Nat → Nat), t < C.ls.length → WD C U (fun j => X j ∨ j = t) δ S → (S.over t = true ∨ S.hold t = 0) → letGo C f t S = some S' → WD C U X δ S' ∧ LG C t S S' := by
  intro f
  induction f with
  | zero => intro t S S' X δ _ _ _ e; cases e
  | succ f ih =>
    intro t S S' X δ ht W hz e
    have e : letGoW C (leaveW C (letGo C f)) t S = some S' := e
    unfold letGoW at e
    cases c : S.loose t with
    | true =>
      rw [if_pos c] at e
      cases e
      refine ⟨⟨W.hold, W.a, fun j hj h => ?_, W.nd, W.mem⟩, LG.refl⟩
      rcases W.b j hj h with h | h | rfl
      · exact .inl h
      · exact .inr h
      · exact .inl c
    | false =>
      rw [if_neg (by rw [c]; decide)] at e
      have hl : C.ls[t]? = some C.ls[t] := List.getElem?_eq_getElem ht
      generalize C.ls[t] = l at hl
      rw [hl] at e
      dsimp only at e
      have lgS : LG C t S (S.setLoose t) := ⟨⟨rfl, rfl, rfl, rfl, rfl, rfl, rfl, rfl, rfl⟩, fun i hi => fset_ne (by omega), fun i h => by
        show fset S.loose t true i = true
        by_cases q : i = t
        · rw [q, fset_self]
        · rw [fset_ne q]; exact h, [], (List.append_nil _).symm⟩
      have hold1 : ∀ j, j < C.ls.length → (S.setLoose t).hold j = ((oc C (S.setLoose t) j + lc C (S.setLoose t) j + (δ j + plc C t j) : Nat) : Int) := fun j hj => by
        have h1 := W.hold j hj
        have h2 := lc_loose (C := C) ht c j
        have h3 := oc_same (C := C) (S := S) (S' := S.setLoose t) rfl j
        show S.hold j = _
        rw [h1, h3]
        congr 1
        omega
      have a1 : ∀ j, j < C.ls.length → (S.setLoose t).loose j = true → (S.setLoose t).over j = true ∨ (S.setLoose t).hold j = 0 := fun j hj h => by
        by_cases q : j = t
        · subst q; exact hz
        · exact W.a j hj (by rw [← fset_ne (f := S.loose) (b := true) q]; exact h)
      have b1 : ∀ j, j < C.ls.length → (S.setLoose t).over j = true ∨ (S.setLoose t).hold j = 0 → (S.setLoose t).loose j = true ∨ X j := fun j hj h => by
        by_cases q : j = t
        · subst q; exact .inl fset_self
        · rcases W.b j hj h with h | h | h
          · exact .inl ((fset_ne q).trans h)
          · exact .inr h
          · exact absurd h q
      by_cases hs : ∃ k, l = .source k
      · obtain ⟨k, rfl⟩ := hs
        have e : gd ((S.setLoose t).left.length < 900000) (some ((S.setLoose t).leaveS k)) = some S' := e
        obtain ⟨_, e⟩ := gd_some e
        cases e
        have pz : ∀ j, plc C t j = 0 := fun j => by unfold plc; rw [nPl_of hl]; rfl
        have kn : k ∉ S.left := fun h => by
          rcases (W.mem k).mp h with h | ⟨i, h1, h2⟩
          · exact hu k h t hl
          · rw [uq i t k h1 hl, c] at h2; cases h2
        refine ⟨⟨fun j hj => ?_, a1, b1, ?_, fun k' => ?_⟩, lgS.trans ⟨⟨rfl, rfl, rfl, rfl, rfl, rfl, rfl, rfl, rfl⟩, fun _ _ => rfl, fun _ h => h, [k], rfl⟩⟩
        · have := hold1 j hj
          rw [pz j, Nat.add_zero] at this
          exact this
        · show (S.left ++ [k]).Nodup
          rw [List.nodup_append]
          refine ⟨W.nd, by simp, fun x hx y hy z => ?_⟩
          rw [List.mem_singleton.mp hy] at z
          subst z
          exact kn hx
        · show k' ∈ S.left ++ [k] ↔ U k' ∨ ∃ i : Nat, C.ls[i]? = some (.source k') ∧ fset S.loose t true i = true
          rw [List.mem_append, List.mem_singleton]
          constructor
          · rintro (h | rfl)
            · rcases (W.mem k').mp h with h | ⟨i, h1, h2⟩
              · exact .inl h
              · refine .inr ⟨i, h1, ?_⟩
                by_cases q : i = t
                · rw [q, fset_self]
                · rw [fset_ne q]; exact h2
            · exact .inr ⟨t, hl, fset_self⟩
          · rintro (h | ⟨i, h1, h2⟩)
            · exact .inl ((W.mem k').mpr (.inl h))
            · by_cases q : i = t
              · subst q
                rw [hl] at h1
                cases h1
                exact .inr rfl
              · rw [fset_ne q] at h2
                exact .inl ((W.mem k').mpr (.inr ⟨i, h1, h2⟩))
      · have W1 : WD C U X (fun j => δ j + cntL C t (List.range l.names.length) j) (S.setLoose t) := by
          refine ⟨fun j hj => ?_, a1, b1, W.nd, fun k => ?_⟩
          · have := hold1 j hj
            unfold plc at this
            rw [nPl_of hl] at this
            exact this
          · refine (W.mem k).trans ⟨fun h => ?_, fun h => ?_⟩
            · rcases h with h | ⟨i, h1, h2⟩
              · exact .inl h
              · refine .inr ⟨i, h1, ?_⟩
                show fset S.loose t true i = true
                by_cases q : i = t
                · rw [q, fset_self]
                · rw [fset_ne q]; exact h2
            · rcases h with h | ⟨i, h1, h2⟩
              · exact .inl h
              · have h2 : fset S.loose t true i = true := h2
                by_cases q : i = t
                · subst q
                  rw [hl] at h1
                  exact absurd ⟨k, Option.some.inj h1⟩ hs
                · rw [fset_ne q] at h2
                  exact .inr ⟨i, h1, h2⟩
        have fold : ∀ (ss : List Nat) (S S' : Ms), (∀ s ∈ ss, s < l.names.length) → WD C U X (fun j => δ j + cntL C t ss j) S → foldP (fun s => leaveW C (letGo C f) (.at t s)) ss S = some S' → WD C U X δ S' ∧ LG C t S S' := by
          intro ss
          induction ss with
          | nil =>
            intro S S' _ W e
            cases e
            exact ⟨⟨fun j hj => W.hold j hj, W.a, W.b, W.nd, W.mem⟩, LG.refl⟩
          | cons s ss ihs =>
            intro S S' hs W e
            have tl := ok.tgt hl (hs s List.mem_cons_self)
            unfold foldP at e
            cases e1 : leaveW C (letGo C f) (.at t s) S with
            | none => rw [e1] at e; cases e
            | some S1 =>
              rw [e1] at e
              dsimp only at e
              suffices h : WD C U X (fun j => δ j + cntL C t ss j) S1 ∧ LG C t S S1 by
                obtain ⟨h1, h2⟩ := ihs S1 S' (fun x hx => hs x (List.mem_cons_of_mem _ hx)) h.1 e
                exact ⟨h1, h.2.trans h2⟩
              unfold leaveW at e1
              dsimp only at e1
              generalize hg : C.tgt (.at t s) = g at e1 tl
              have gl : g < C.ls.length := by omega
              have hg1 : (S.setHold g (S.hold g - 1)).hold g = S.hold g - 1 := fset_self
              have hgS := W.hold g gl
              rw [cntL_cons, if_pos hg] at hgS
              have lgS : LG C t S (S.setHold g (S.hold g - 1)) := ⟨⟨rfl, rfl, rfl, rfl, rfl, rfl, rfl, rfl, rfl⟩, fun _ _ => rfl, fun _ h => h, [], (List.append_nil _).symm⟩
              have hd : ∀ j, j < C.ls.length → (S.setHold g (S.hold g - 1)).hold j = ((oc C S j + lc C S j + (δ j + cntL C t ss j) : Nat) : Int) := fun j hj => by
                have h := W.hold j hj
                rw [cntL_cons] at h
                by_cases q : j = g
                · subst q
                  rw [hg1, h, if_pos hg]
                  omega
                · rw [if_neg (fun z => q (z.symm.trans hg))] at h
                  show fset S.hold g (S.hold g - 1) j = _
                  rw [fset_ne q, h]
                  congr 1
                  omega
              have aa : ∀ j, j < C.ls.length → S.loose j = true → S.over j = true ∨ (S.setHold g (S.hold g - 1)).hold j = 0 := fun j hj h => by
                rcases W.a j hj h with h | h
                · exact .inl h
                · by_cases q : j = g
                  · subst q
                    rw [h] at hgS
                    omega
                  · exact .inr ((fset_ne q).trans h)
              split at e1
              · rename_i hz
                have W2 : WD C U (fun j => X j ∨ j = g) (fun j => δ j + cntL C t ss j) (S.setHold g (S.hold g - 1)) := by
                  refine ⟨hd, aa, fun j hj h => ?_, W.nd, W.mem⟩
                  by_cases q : j = g
                  · exact .inr (.inr q)
                  · rcases W.b j hj (h.imp id fun z => by rw [← fset_ne (f := S.hold) (b := S.hold g - 1) q]; exact z) with h | h
                    · exact .inl h
                    · exact .inr (.inl h)
                obtain ⟨h1, h2⟩ := ih g _ S1 X _ gl W2 (.inr hz) e1
                exact ⟨h1, lgS.trans (h2.le (by omega))⟩
              · rename_i hz
                cases e1
                refine ⟨⟨hd, aa, fun j hj h => ?_, W.nd, W.mem⟩, lgS⟩
                by_cases q : j = g
                · subst q
                  exact W.b j hj (.inl (h.resolve_right hz))
                · exact W.b j hj (h.imp id fun z => by rw [← fset_ne (f := S.hold) (b := S.hold g - 1) q]; exact z)
        cases e2 : foldP (fun s => leaveW C (letGo C f) (.at t s)) (List.range l.names.length) (S.setLoose t) with
        | none => rw [e2] at e; cases e
        | some S2 =>
          rw [e2] at e
          dsimp only at e
          obtain ⟨h1, h2⟩ := fold _ _ S2 (fun s hs => List.mem_range.mp hs) W1 e2
          have sn : l.src = none := by
            cases l with
            | source k => exact absurd ⟨k, rfl⟩ hs
            | _ => rfl
          rw [sn] at e
          cases e
          exact ⟨h1, lgS.trans h2⟩
/-! ### pulls -/
abbrev Wz (C : Ct) (U : Int → Prop) (S : Ms) : Prop := WD C U (fun _ => False) (fun _ => 0) S
/-- a place that is one still -/
def Live (C : Ct) (S : Ms) : Pl → Prop
  | .out o => o < C.outs.length ∧ S.gone o = false
  | .at i s => i < C.ls.length ∧ s < nPl C i ∧ S.loose i = false
/-- what may have changed of lines below b -/
structure PTr (b : Nat) (S S' : Ms) : Prop where
  up : ∀ i, b ≤ i → S'.loose i = S.loose i
  mono : ∀ i, S.loose i = true → S'.loose i = true
  gone : S'.gone = S.gone
  left : ∃ u, S'.left = S.left ++ u
  asks : ∃ u, S'.asks = S.asks ++ u ∧ ∀ k ∈ u, k ∉ S.left
theorem PTr.refl {b : Nat} : PTr b S S := ⟨fun _ _ => rfl, fun _ h => h, rfl, ⟨[], (List.append_nil _).symm⟩, [], (List.append_nil _).symm, fun _ h => by cases h⟩
theorem PTr.trans {b : Nat} (x : PTr b S S1) (y : PTr b S1 S2) : PTr b S S2 := by
  obtain ⟨u, hu⟩ := x.left
  obtain ⟨v, hv⟩ := y.left
  obtain ⟨p, hp, np⟩ := x.asks
  obtain ⟨q, hq, nq⟩ := y.asks
  refine ⟨fun i h => (y.up i h).trans (x.up i h), fun i h => y.mono i (x.mono i h), y.gone.trans x.gone, ⟨u ++ v, by rw [hv, hu, List.append_assoc]⟩, p ++ q, by rw [hq, hp, List.append_assoc], fun k hk => ?_⟩
  rcases List.mem_append.mp hk with hk | hk
  · exact np k hk
  · exact fun z => nq k hk (by rw [hu]; exact List.mem_append_left _ z)
theorem PTr.le {a b : Nat} (x : PTr a S S') (h : a ≤ b) : PTr b S S' := ⟨fun i hi => x.up i (by omega), x.mono, x.gone, x.left, x.asks⟩
theorem LG.ptr {b : Nat} (x : LG C t S S') (h : t < b) : PTr b S S' := ⟨fun i hi => x.up i (by omega), x.mono, x.sam.gone, x.left, [], by rw [x.sam.asks, List.append_nil], fun _ h => by cases h⟩
/-- nothing of this has changed -/
structure Flat (S S' : Ms) : Prop where
  hold : S'.hold = S.hold
  loose : S'.loose = S.loose
  over : S'.over = S.over
  left : S'.left = S.left
  gone : S'.gone = S.gone
  asks : S'.asks = S.asks
theorem Flat.ptr {b : Nat} (x : Flat S S') : PTr b S S' := ⟨fun i _ => by rw [x.loose], fun i h => by rw [x.loose]; exact h, x.gone, ⟨[], by rw [x.left, List.append_nil]⟩, [], by rw [x.asks, List.append_nil], fun _ h => by cases h⟩
theorem WD.flat (W : WD C U X δ S) (h : S'.hold = S.hold) (l : S'.loose = S.loose) (o : S'.over = S.over) (f : S'.left = S.left) (g : S'.gone = S.gone) : WD C U X δ S' := by
  refine ⟨fun j hj => ?_, fun j hj => ?_, fun j hj => ?_, by rw [f]; exact W.nd, fun k => ?_⟩
  · rw [h, oc_same g, lc_same l]; exact W.hold j hj
  · rw [l, o, h]; exact W.a j hj
  · rw [l, o, h]; exact W.b j hj
  · rw [f, l]; exact W.mem k
theorem Flat.w (x : Flat S S') (W : WD C U X δ S) : WD C U X δ S' := W.flat x.hold x.loose x.over x.left x.gone
theorem live_hold {p : Pl} (W : WD C U X δ S) (hp : Live C S p) (ht : C.tgt p < C.ls.length) : S.hold (C.tgt p) ≠ 0 := by
  rw [W.hold _ ht]
  cases p with
  | out o =>
    have h := tot_ge (f := fun o' => if S.gone o' = false ∧ C.outs.getD o' 0 = C.tgt (.out o) then 1 else 0) hp.1
    have e : (if S.gone o = false ∧ C.outs.getD o 0 = C.tgt (.out o) then 1 else 0) = 1 := if_pos ⟨hp.2, rfl⟩
    rw [e] at h
    unfold oc
    omega
  | «at» i s =>
    have h := tot_ge (f := fun i' => if S.loose i' = true then 0 else plc C i' (C.tgt (.at i s))) hp.1
    have e : (if S.loose i = true then 0 else plc C i (C.tgt (.at i s))) = plc C i (C.tgt (.at i s)) := by rw [hp.2.2]; rfl
    rw [e] at h
    have := cntL_mem (C := C) (i := i) (s := s) (List.mem_range.mpr hp.2.1)
    unfold lc
    unfold plc at h ⊢
    omega
/-- pulls of places that are ones still, of lines below b -/
def PW (C : Ct) (U : Int → Prop) (pl : Pull) : Prop := ∀ p S x S', C.tgt p < C.ls.length → Live C S p → Wz C U S → pl p S = some (x, S') → Wz C U S' ∧ PTr (C.tgt p + 1) S S'
structure SW (C : Ct) (U : Int → Prop) (i : Nat) (S S' : Ms) : Prop where
  w : Wz C U S'
  tr : PTr i S S'
theorem SW.refl {i : Nat} (W : Wz C U S) : SW C U i S S := ⟨W, PTr.refl⟩
theorem SW.trans {i : Nat} (x : SW C U i S S1) (y : SW C U i S1 S2) : SW C U i S S2 := ⟨y.w, x.tr.trans y.tr⟩
theorem SW.flat {i : Nat} (x : SW C U i S S1) (y : Flat S1 S2) : SW C U i S S2 := ⟨y.w x.w, x.tr.trans y.ptr⟩
theorem SW.pull {pl : Pull} {i s : Nat} {l : Ln} {y : PyData} (ok : CtOk C) (hp : PW C U pl) (hl : C.ls[i]? = some l) (hs : s < l.names.length) (lo : S.loose i = false) (x : SW C U i S S1) (e : pl (.at i s) S1 = some (y, S2)) : SW C U i S S2 := by
  have hi := (List.getElem?_eq_some_iff.mp hl).1
  have ht := ok.tgt hl hs
  obtain ⟨w, tr⟩ := hp _ S1 y S2 (by omega) (show Live C S1 (.at i s) from ⟨hi, by rw [nPl_of hl]; exact hs, by rw [x.tr.up i (Nat.le_refl _)]; exact lo⟩) x.w e
  exact ⟨w, x.tr.trans (tr.le (by omega))⟩
theorem keepL_W {pl : Pull} {i : Nat} {l : Ln} {ts : List Tst} (ok : CtOk C) (hp : PW C U pl) (hl : C.ls[i]? = some l) (h0 : 0 < l.names.length) (lo : S.loose i = false) : ∀ (L : Nat) (x y : PyData) (S1 S2 : Ms), SW C U i S S1 → keepL pl i ts L x S1 = some (y, S2) → SW C U i S S2
  | 0, _, _, _, _, _, e => by cases e
  | L + 1, x, y, S1, S2, w, e => by
    unfold keepL at e
    split at e
    · cases e; exact w
    · obtain ⟨_, e⟩ := gd_some e
      split at e
      · cases e; exact w
      · split at e
        · cases e
        · rename_i z S3 e3
          exact keepL_W ok hp hl h0 lo L z y S3 S2 (w.pull ok hp hl h0 lo e3) e
theorem skipL_W {pl : Pull} {i : Nat} {l : Ln} {n : Int} (ok : CtOk C) (hp : PW C U pl) (hl : C.ls[i]? = some l) (h0 : 0 < l.names.length) (lo : S.loose i = false) : ∀ (L : Nat) (y : Bool) (S1 S2 : Ms), SW C U i S S1 → skipL pl i n L S1 = some (y, S2) → SW C U i S S2
  | 0, _, _, _, _, e => by cases e
  | L + 1, y, S1, S2, w, e => by
    unfold skipL at e
    split at e
    · split at e
      · cases e
      · rename_i z S3 e3
        have w3 := w.pull ok hp hl h0 lo e3
        split at e
        · cases e; exact w3
        · exact skipL_W ok hp hl h0 lo L y S3 S2 w3 e
    · cases e; exact w
theorem grpL_W {pl : Pull} {i : Nat} {l : Ln} {m : Int} (ok : CtOk C) (hp : PW C U pl) (hl : C.ls[i]? = some l) (h0 : 0 < l.names.length) (lo : S.loose i = false) : ∀ (L : Nat) (x y : PyData) (S1 S2 : Ms), SW C U i S S1 → grpL pl i m L x S1 = some (y, S2) → SW C U i S S2
  | 0, _, _, _, _, _, e => by cases e
  | L + 1, x, y, S1, S2, w, e => by
    unfold grpL at e
    split at e
    · cases e; exact w
    · obtain ⟨_, e⟩ := gd_some e
      split at e
      · obtain ⟨_, e⟩ := gd_some e
        split at e
        · cases e
        · rename_i z S3 e3
          exact grpL_W ok hp hl h0 lo L z y S3 S2 ((SW.flat (S2 := S1.setStr i (S1.str i ++ [toI x])) w ⟨rfl, rfl, rfl, rfl, rfl, rfl⟩).pull ok hp hl h0 lo e3) e
      · cases e; exact w
theorem flat_setH (S : Ms) (i s : Nat) (d : PyData) : Flat S (S.setH i s d) := by
  unfold Ms.setH
  split <;> exact ⟨rfl, rfl, rfl, rfl, rfl, rfl⟩
theorem holdM_W {pl : Pull} {i s : Nat} {l : Ln} {y : PyData} (ok : CtOk C) (hp : PW C U pl) (hl : C.ls[i]? = some l) (hs : s < l.names.length) (lo : S.loose i = false) (w : SW C U i S S1) (e : holdM pl i s S1 = some (y, S2)) : SW C U i S S2 := by
  unfold holdM at e
  split at e
  · split at e
    · cases e
    · rename_i z S3 e3
      cases e
      exact (w.pull ok hp hl hs lo e3).flat (flat_setH _ _ _ _)
  · cases e; exact w
theorem step_W {pl : Pull} {L i : Nat} {l : Ln} {x : PyData} (ok : CtOk C) (hu : ∀ k, U k → ∀ i : Nat, C.ls[i]? ≠ some (.source k)) (uq : ∀ (i j : Nat) (k : Int), C.ls[i]? = some (.source k) → C.ls[j]? = some (.source k) → i = j)
    (hp : PW C U pl) (hl : C.ls[i]? = some l) (lo : S.loose i = false) (W : Wz C U S) (e : stepL C pl L i S l = some (x, S')) : SW C U i S S' := by
  have w0 : SW C U i S S := SW.refl W
  cases l with
  | source k =>
    have e : askM C k S = some (x, S') := e
    unfold askM at e
    dsimp only at e
    obtain ⟨_, e⟩ := gd_some e
    have kn : k ∉ S.left := fun h => by
      rcases (W.mem k).mp h with h | ⟨j, h1, h2⟩
      · exact hu k h i hl
      · rw [uq j i k h1 hl, lo] at h2; cases h2
    have fin : ∀ S2 : Ms, S2.hold = S.hold → S2.loose = S.loose → S2.over = S.over → S2.left = S.left → S2.gone = S.gone → S2.asks = S.asks ++ [k] → SW C U i S S2 := fun S2 a1 a2 a3 a4 a5 a6 =>
      ⟨W.flat a1 a2 a3 a4 a5, fun j _ => by rw [a2], fun j h => by rw [a2]; exact h, a5, ⟨[], by rw [a4, List.append_nil]⟩, [k], a6, fun z hz => by rw [List.mem_singleton.mp hz]; exact kn⟩
    split at e
    · cases e; exact fin _ rfl rfl rfl rfl rfl rfl
    · cases e; exact fin _ rfl rfl rfl rfl rfl rfl
  | map ds a =>
    unfold stepL at e
    dsimp only at e
    split at e
    · cases e
    · rename_i y S1 e1
      have w1 := w0.pull ok hp hl Nat.zero_lt_one lo e1
      split at e
      · cases e; exact w1
      · obtain ⟨_, e⟩ := gd_some e
        cases e; exact w1
  | keep ts a =>
    unfold stepL at e
    dsimp only at e
    split at e
    · cases e
    · rename_i y S1 e1
      exact keepL_W ok hp hl Nat.zero_lt_one lo L y x S1 S' (w0.pull ok hp hl Nat.zero_lt_one lo e1) e
  | whil ts a =>
    unfold stepL at e
    dsimp only at e
    split at e
    · cases e
    · rename_i y S1 e1
      have w1 := w0.pull ok hp hl Nat.zero_lt_one lo e1
      split at e
      · cases e; exact w1
      · obtain ⟨_, e⟩ := gd_some e
        split at e
        · cases e; exact w1
        · cases e; exact w1
  | take n a =>
    unfold stepL at e
    dsimp only at e
    split at e
    · cases e; exact w0
    · exact w0.pull ok hp hl Nat.zero_lt_one lo e
  | skip n a =>
    unfold stepL at e
    dsimp only at e
    split at e
    · cases e
    · rename_i b S1 e1
      have w1 := skipL_W ok hp hl Nat.zero_lt_one lo L b S S1 w0 e1
      split at e
      · cases e; exact w1
      · exact w1.pull ok hp hl Nat.zero_lt_one lo e
  | group m a =>
    unfold stepL at e
    dsimp only at e
    split at e
    · cases e
    · rename_i y S1 e1
      have w1 := w0.pull ok hp hl Nat.zero_lt_one lo e1
      split at e
      · cases e
      · rename_i z S2 e2
        have w2 := grpL_W ok hp hl Nat.zero_lt_one lo L y z S1 S2 w1 e2
        cases e
        exact w2.flat ⟨rfl, rfl, rfl, rfl, rfl, rfl⟩
  | window n a =>
    unfold stepL at e
    dsimp only at e
    split at e
    · cases e
    · rename_i b S1 e1
      have w1 := skipL_W ok hp hl Nat.zero_lt_one lo L b S S1 w0 e1
      split at e
      · cases e; exact w1
      · cases e; exact w1
  | fold f n a =>
    unfold stepL at e
    dsimp only at e
    split at e
    · cases e
    · rename_i y S1 e1
      have w1 := w0.pull ok hp hl Nat.zero_lt_one lo e1
      split at e
      · cases e; exact w1
      · obtain ⟨_, e⟩ := gd_some e
        cases e; exact w1
  | chain a b =>
    unfold stepL at e
    dsimp only at e
    split at e
    · cases e
    · rename_i y S1 e1
      have w1 := w0.pull ok hp hl (by decide : 0 < 2) lo e1
      split at e
      · exact w1.pull ok hp hl (by decide : 1 < 2) lo e
      · cases e; exact w1
  | pair a b =>
    unfold stepL at e
    dsimp only at e
    split at e
    · cases e
    · rename_i y S1 e1
      have w1 := holdM_W ok hp hl (by decide : 0 < 2) lo w0 e1
      split at e
      · cases e; exact w1
      · split at e
        · cases e
        · rename_i z S2 e2
          have w2 := holdM_W ok hp hl (by decide : 1 < 2) lo w1 e2
          split at e
          · cases e; exact w2
          · cases e
            exact w2.flat ⟨rfl, rfl, rfl, rfl, rfl, rfl⟩
  | merge a b =>
    unfold stepL at e
    dsimp only at e
    split at e
    · cases e
    · rename_i y S1 e1
      have w1 := holdM_W ok hp hl (by decide : 0 < 2) lo w0 e1
      split at e
      · cases e
      · rename_i z S2 e2
        have w2 := holdM_W ok hp hl (by decide : 1 < 2) lo w1 e2
        obtain ⟨_, e⟩ := gd_some e
        split at e
        · cases e; exact w2.flat (flat_setH _ _ _ _)
        · cases e; exact w2.flat (flat_setH _ _ _ _)
theorem make_W {pl : Pull} {L F i : Nat} (ok : CtOk C) (hu : ∀ k, U k → ∀ i : Nat, C.ls[i]? ≠ some (.source k)) (uq : ∀ (i j : Nat) (k : Int), C.ls[i]? = some (.source k) → C.ls[j]? = some (.source k) → i = j)
    (hp : PW C U pl) (hi : i < C.ls.length) (lo : S.over i = false → S.loose i = false) (W : Wz C U S) (e : makeM C pl L F i S = some S') : Wz C U S' ∧ PTr (i + 1) S S' := by
  unfold makeM at e
  cases c : S.over i with
  | true =>
    rw [if_pos c] at e
    cases e
    exact ⟨W, PTr.refl⟩
  | false =>
    rw [if_neg (by rw [c]; decide)] at e
    have hl : C.ls[i]? = some C.ls[i] := List.getElem?_eq_getElem hi
    generalize C.ls[i] = l at hl
    unfold stepM at e
    rw [hl] at e
    dsimp only at e
    split at e
    · cases e
    · rename_i x S1 e1
      have w1 := step_W ok hu uq hp hl (lo c) W e1
      have l1 : S1.loose i = false := by rw [w1.tr.up i (Nat.le_refl _)]; exact lo c
      split at e
      · have W2 : WD C U (fun j => False ∨ j = i) (fun _ => 0) (S1.setOver i) := by
          refine ⟨w1.w.hold, fun j hj h => ?_, fun j hj h => ?_, w1.w.nd, w1.w.mem⟩
          · rcases w1.w.a j hj h with h | h
            · refine .inl ?_
              show fset S1.over i true j = true
              by_cases q : j = i
              · rw [q, fset_self]
              · rw [fset_ne q]; exact h
            · exact .inr h
          · by_cases q : j = i
            · exact .inr (.inr q)
            · rcases w1.w.b j hj (h.imp (fun z => by rw [← fset_ne (f := S1.over) (b := true) q]; exact z) id) with h | h
              · exact .inl h
              · exact h.elim
        obtain ⟨h1, h2⟩ := letGo_W ok hu uq F i _ S' _ _ hi W2 (.inl fset_self) e
        exact ⟨h1, (w1.tr.le (Nat.le_succ i)).trans ((Flat.ptr (S := S1) (S' := S1) ⟨rfl, rfl, rfl, rfl, rfl, rfl⟩).trans ⟨fun j hj => h2.up j hj, h2.mono, h2.sam.gone, h2.left, [], by rw [h2.sam.asks, List.append_nil]; rfl, fun _ h => by cases h⟩)⟩
      · obtain ⟨_, e⟩ := gd_some e
        cases e
        have f : Flat S1 (S1.push i x) := ⟨rfl, rfl, rfl, rfl, rfl, rfl⟩
        exact ⟨f.w w1.w, (w1.tr.le (Nat.le_succ i)).trans f.ptr⟩
theorem pull_W {L F : Nat} (ok : CtOk C) (hu : ∀ k, U k → ∀ i : Nat, C.ls[i]? ≠ some (.source k)) (uq : ∀ (i j : Nat) (k : Int), C.ls[i]? = some (.source k) → C.ls[j]? = some (.source k) → i = j) : ∀ d, PW C U (pullM C L F d)
  | 0 => fun p S x S' _ _ _ e => by cases e
  | d + 1 => fun p S x S' ht lv W e => by
    have e : pullW C (makeM C (pullM C L F d) L F) p S = some (x, S') := e
    unfold pullW at e
    have hz := live_hold W lv ht
    have lo : S.over (C.tgt p) = false → S.loose (C.tgt p) = false := fun h => by
      cases c : S.loose (C.tgt p) with
      | false => rfl
      | true =>
        rcases W.a _ ht c with z | z
        · rw [h] at z; cases z
        · exact absurd z hz
    split at e
    · cases e
    · rename_i S1 e1
      have w1 : Wz C U S1 ∧ PTr (C.tgt p + 1) S S1 := by
        split at e1
        · exact make_W ok hu uq (pull_W ok hu uq d) ht lo W e1
        · cases e1; exact ⟨W, PTr.refl⟩
      split at e
      · cases e; exact w1
      · obtain ⟨_, e⟩ := gd_some e
        cases e
        have f : Flat S1 (S1.setPos p (S1.pos p + 1)) := ⟨rfl, rfl, rfl, rfl, rfl, rfl⟩
        exact ⟨f.w w1.1, w1.2.trans f.ptr⟩
/-- an outlet is let go of -/
theorem leave_W {F o : Nat} (ok : CtOk C) (hu : ∀ k, U k → ∀ i : Nat, C.ls[i]? ≠ some (.source k)) (uq : ∀ (i j : Nat) (k : Int), C.ls[i]? = some (.source k) → C.ls[j]? = some (.source k) → i = j)
    (ho : o < C.outs.length) (ht : C.outs.getD o 0 < C.ls.length) (hg : S.gone o = false) (W : Wz C U S) (e : leaveM C F (.out o) (S.drop o) = some S') :
    Wz C U S' ∧ (∃ u, S'.left = S.left ++ u) ∧ S'.asks = S.asks := by
  unfold leaveM leaveW at e
  dsimp only at e
  have tg : C.tgt (.out o) = C.outs.getD o 0 := rfl
  generalize C.tgt (.out o) = g at e tg
  have gl : g < C.ls.length := by omega
  have ocd : ∀ j, oc C (S.drop o) j + (if g = j then 1 else 0) = oc C S j := fun j => by
    have h := tot_chg (f := fun o' => if S.gone o' = false ∧ C.outs.getD o' 0 = j then 1 else 0) (g := fun o' => if (S.drop o).gone o' = false ∧ C.outs.getD o' 0 = j then 1 else 0) ho (fun o' hne => by
      have e0 : (S.drop o).gone o' = S.gone o' := fset_ne hne
      simp only [e0])
    have e1 : (if S.gone o = false ∧ C.outs.getD o 0 = j then 1 else 0) = if g = j then 1 else 0 := by
      rw [← tg]
      by_cases q : g = j
      · rw [if_pos ⟨hg, q⟩, if_pos q]
      · rw [if_neg (fun z => q z.2), if_neg q]
    have e2 : (if (S.drop o).gone o = false ∧ C.outs.getD o 0 = j then 1 else 0) = 0 := if_neg fun z => by
      have z : fset S.gone o true o = false := z.1
      rw [fset_self] at z
      cases z
    rw [e1, e2] at h
    unfold oc
    omega
  have hg1 : ((S.drop o).setHold g ((S.drop o).hold g - 1)).hold g = S.hold g - 1 := fset_self
  have hgS := W.hold g gl
  have og := ocd g
  rw [if_pos rfl] at og
  have hd : ∀ j, j < C.ls.length → ((S.drop o).setHold g ((S.drop o).hold g - 1)).hold j = ((oc C (S.drop o) j + lc C S j + 0 : Nat) : Int) := fun j hj => by
    have h := W.hold j hj
    have oj := ocd j
    by_cases q : j = g
    · subst q
      rw [hg1, h]
      omega
    · rw [if_neg (fun z => q z.symm)] at oj
      show fset S.hold g (S.hold g - 1) j = _
      rw [fset_ne q, h]
      congr 1
      omega
  have aa : ∀ j, j < C.ls.length → S.loose j = true → S.over j = true ∨ ((S.drop o).setHold g ((S.drop o).hold g - 1)).hold j = 0 := fun j hj h => by
    rcases W.a j hj h with h | h
    · exact .inl h
    · by_cases q : j = g
      · subst q
        rw [h] at hgS
        omega
      · exact .inr ((fset_ne q).trans h)
  split at e
  · rename_i hz
    have W2 : WD C U (fun j => False ∨ j = g) (fun _ => 0) ((S.drop o).setHold g ((S.drop o).hold g - 1)) := by
      refine ⟨hd, aa, fun j hj h => ?_, W.nd, W.mem⟩
      by_cases q : j = g
      · exact .inr (.inr q)
      · rcases W.b j hj (h.imp id fun z => by rw [← fset_ne (f := S.hold) (b := S.hold g - 1) q]; exact z) with h | h
        · exact .inl h
        · exact h.elim
    obtain ⟨h1, h2⟩ := letGo_W ok hu uq F g _ S' _ _ gl W2 (.inr hz) e
    obtain ⟨u, hu2⟩ := h2.left
    exact ⟨h1, ⟨u, hu2⟩, h2.sam.asks⟩
  · rename_i hz
    cases e
    refine ⟨⟨hd, aa, fun j hj h => ?_, W.nd, W.mem⟩, ⟨[], (List.append_nil _).symm⟩, rfl⟩
    by_cases q : j = g
    · subst q
      exact W.b j hj (.inl (h.resolve_right hz))
    · exact W.b j hj (h.imp id fun z => by rw [← fset_ne (f := S.hold) (b := S.hold g - 1) q]; exact z)
/-- behind the last outlet's letting go all have let go -/
theorem all_loose (ok : CtOk C) (W : Wz C U S) (hg : ∀ o, o < C.outs.length → S.gone o = true) : ∀ j, j < C.ls.length → S.loose j = true := by
  have key : ∀ m, ∀ j, j < C.ls.length → C.ls.length - j ≤ m → S.loose j = true := by
    intro m
    induction m with
    | zero => intro j hj h; omega
    | succ m ih =>
      intro j hj h
      have ho : oc C S j = 0 := tot_zero fun o hh => by
        rw [if_neg]
        rintro ⟨z, _⟩
        rw [hg o hh] at z
        cases z
      have hlc : lc C S j = 0 := tot_zero fun i hi => by
        by_cases q : i ≤ j
        · split
          · rfl
          · exact plc_zero ok q hi
        · rw [if_pos (ih i hi (by omega))]
      have hz : S.hold j = 0 := by rw [W.hold j hj, ho, hlc]; rfl
      rcases W.b j hj (.inr hz) with h | h
      · exact h
      · exact h.elim
  exact fun j hj => key _ j hj (Nat.le_refl _)
/-! ### the start -/
theorem addL_hold (C : Ct) (S : Ms) (i j : Nat) : (addL C S i).hold j = S.hold j + (plc C i j : Nat) := by
  unfold addL plc
  have key : ∀ (ss : List Nat) (S : Ms), (ss.foldl (fun S s => addP C S (.at i s)) S).hold j = S.hold j + (cntL C i ss j : Nat) := by
    intro ss
    induction ss with
    | nil => intro S; show S.hold j = S.hold j + ((0 : Nat) : Int); omega
    | cons s ss ih =>
      intro S
      rw [List.foldl_cons, ih, cntL_cons]
      show fset S.hold (C.tgt (.at i s)) (S.hold (C.tgt (.at i s)) + 1) j + _ = _
      by_cases q : j = C.tgt (.at i s)
      · rw [q, fset_self, if_pos rfl]
        omega
      · rw [fset_ne q, if_neg (fun z => q z.symm)]
        omega
  exact key _ S
theorem stL_hold (C : Ct) (m j : Nat) : (stL C m).hold j = (tot (fun i => plc C i j) m : Nat) := by
  induction m with
  | zero => rfl
  | succ m ih =>
    rw [stL_succ, addL_hold, ih]
    show _ = ((tot (fun i => plc C i j) m + plc C m j : Nat) : Int)
    omega
theorem stO_hold (C : Ct) (m j : Nat) : (stO C m).hold j = (tot (fun o => if C.outs.getD o 0 = j then 1 else 0) m + tot (fun i => plc C i j) C.ls.length : Nat) := by
  induction m with
  | zero =>
    show (stL C C.ls.length).hold j = _
    rw [stL_hold]
    show _ = ((0 + _ : Nat) : Int)
    omega
  | succ m ih =>
    rw [stO_succ]
    show fset (stO C m).hold (C.outs.getD m 0) ((stO C m).hold (C.outs.getD m 0) + 1) j = ((tot _ m + (if C.outs.getD m 0 = j then 1 else 0) + _ : Nat) : Int)
    by_cases q : j = C.outs.getD m 0
    · rw [q, fset_self, if_pos rfl, ← q, ih]
      omega
    · rw [fset_ne q, if_neg (fun z => q z.symm), ih]
      omega
theorem loose_W (ok : CtOk C) (hu : ∀ k, U k → ∀ i : Nat, C.ls[i]? ≠ some (.source k)) (uq : ∀ (i j : Nat) (k : Int), C.ls[i]? = some (.source k) → C.ls[j]? = some (.source k) → i = j) :
    ∀ (ss : List Nat) (S S' : Ms), (∀ j ∈ ss, j < C.ls.length) → (∀ j, S.over j = false) → WD C U (fun j => j ∈ ss) (fun _ => 0) S → looseL C ss S = some S' → Wz C U S'
  | [], S, S', _, _, W, e => by
    cases e
    exact ⟨W.hold, W.a, fun j hj h => (W.b j hj h).imp id fun z => (by cases z), W.nd, W.mem⟩
  | s :: ss, S, S', hs, ho, W, e => by
    have hsl := hs s List.mem_cons_self
    unfold looseL foldP at e
    split at e
    · cases e
    · rename_i S1 e1
      have e : looseL C ss S1 = some S' := e
      split at e1
      · rename_i hz
        have W2 : WD C U (fun j => j ∈ ss ∨ j = s) (fun _ => 0) S := ⟨W.hold, W.a, fun j hj h => by
          rcases W.b j hj h with h | h
          · exact .inl h
          · rcases List.mem_cons.mp h with h | h
            · exact .inr (.inr h)
            · exact .inr (.inl h), W.nd, W.mem⟩
        obtain ⟨h1, h2⟩ := letGo_W ok hu uq 25 s S S1 _ _ hsl W2 (.inr hz) e1
        exact loose_W ok hu uq ss S1 S' (fun j hj => hs j (List.mem_cons_of_mem _ hj)) (fun j => by rw [h2.sam.over]; exact ho j) h1 e
      · rename_i hz
        cases e1
        refine loose_W ok hu uq ss S S' (fun j hj => hs j (List.mem_cons_of_mem _ hj)) ho ⟨W.hold, W.a, fun j hj h => ?_, W.nd, W.mem⟩ e
        rcases W.b j hj h with z | z
        · exact .inl z
        · rcases List.mem_cons.mp z with z | z
          · subst z
            rcases h with h | h
            · rw [ho j] at h; cases h
            · exact absurd h hz
          · exact .inr z
/-- which sources no line names -/
def Un0 (C : Ct) (k : Int) : Prop := k ∈ unnamed C
theorem un0_src {k : Int} (h : Un0 C k) (i : Nat) : C.ls[i]? ≠ some (.source k) := fun e => by
  have h : k ∈ ((List.range C.lists.length).map fun (k : Nat) => (k : Int)).filter fun k => !decide (k ∈ srcs C.ls) := h
  rw [List.mem_filter] at h
  have hm : k ∈ srcs C.ls := List.mem_filterMap.mpr ⟨.source k, List.mem_of_getElem? e, rfl⟩
  rw [decide_eq_true hm] at h
  cases h.2
theorem start_W {ks : List Kd} (gd : Gd C ks) (e : startM C = some S) : Wz C (Un0 C) S := by
  unfold startM at e
  split at e
  · cases e
  · rename_i S1 e1
    obtain ⟨_, e⟩ := gd_some e
    cases e
    obtain ⟨m1, m2, _, _, _, _, _, m8, _, _, m11⟩ := stO_more C C.outs.length
    have uq : ∀ (i j : Nat) (k : Int), C.ls[i]? = some (.source k) → C.ls[j]? = some (.source k) → i = j := fun i j k h1 h2 => gd.uniq h1 h2
    have W0 : WD C (fun _ => False) (fun j => j ∈ List.range C.ls.length) (fun _ => 0) (stO C C.outs.length) := by
      refine ⟨fun j hj => ?_, fun j hj h => ?_, fun j hj _ => .inr (List.mem_range.mpr hj), by rw [m11]; exact List.nodup_nil, fun k => ?_⟩
      · rw [stO_hold]
        congr 1
        unfold oc lc
        rw [tot_same (f := fun o => if (stO C C.outs.length).gone o = false ∧ C.outs.getD o 0 = j then 1 else 0) (g := fun o => if C.outs.getD o 0 = j then 1 else 0) fun o _ => ?_,
          tot_same (f := fun i => if (stO C C.outs.length).loose i = true then 0 else plc C i j) (g := fun i => plc C i j) fun i _ => ?_, Nat.add_zero]
        · rw [m2]; rfl
        · have e0 : (stO C C.outs.length).gone o = false := by rw [m8]; rfl
          simp only [e0, true_and]
      · rw [m2] at h; cases h
      · rw [m11, m2]
        constructor
        · intro h; cases h
        · rintro (h | ⟨_, _, h⟩)
          · exact h.elim
          · cases h
    have W1 := loose_W gd.run.ct (fun k h => h.elim) uq _ _ S1 (fun j hj => List.mem_range.mp hj) (fun j => by rw [m1]; rfl) W0 e1
    have p := sortI_perm (S1.left ++ unnamed C)
    refine ⟨W1.hold, W1.a, W1.b, p.nodup_iff.mpr ?_, fun k => ?_⟩
    · rw [List.nodup_append]
      refine ⟨W1.nd, (List.Nodup.sublist List.filter_sublist ?_), fun x hx y hy z => ?_⟩
      · refine (List.nodup_range).map _ fun a b h z => h ?_
        have z : ((a : Nat) : Int) = ((b : Nat) : Int) := z
        omega
      · subst z
        rcases (W1.mem x).mp hx with h | ⟨i, h, _⟩
        · exact h
        · exact un0_src hy i h
    · show k ∈ sortI (S1.left ++ unnamed C) ↔ _
      rw [p.mem_iff, List.mem_append, W1.mem]
      constructor
      · rintro ((h | h) | h)
        · exact h.elim
        · exact .inr h
        · exact .inl h
      · rintro (h | h)
        · exact .inr h
        · exact .inl (.inr h)
/-- at the end: all sources, each once -/
theorem all_left {ks : List Kd} (gd : Gd C ks) (W : Wz C (Un0 C) S) (hg : ∀ o, o < C.outs.length → S.gone o = true) : sortI S.left = (List.range C.lists.length).map fun (k : Nat) => (k : Int) := by
  have al := all_loose gd.run.ct W hg
  symm
  refine sortI_unique ?_ ?_
  · refine (List.perm_ext_iff_of_nodup ?_ W.nd).mpr fun k => ?_
    · refine (List.nodup_range).map _ fun a b h z => h ?_
      have z : ((a : Nat) : Int) = ((b : Nat) : Int) := z
      omega
    · rw [W.mem]
      constructor
      · intro h
        by_cases c : k ∈ srcs C.ls
        · obtain ⟨l, hl, e⟩ := List.mem_filterMap.mp c
          obtain ⟨i, hi, e2⟩ := List.getElem_of_mem hl
          cases l with
          | source q =>
            obtain rfl : q = k := Option.some.inj e
            exact .inr ⟨i, by rw [List.getElem?_eq_getElem hi, e2], al i hi⟩
          | _ => cases e
        · refine .inl ?_
          show k ∈ ((List.range C.lists.length).map fun (k : Nat) => (k : Int)).filter fun k => !decide (k ∈ srcs C.ls)
          rw [List.mem_filter]
          exact ⟨h, by rw [decide_eq_false c]; rfl⟩
      · rintro (h | ⟨i, h, _⟩)
        · exact (List.mem_filter.mp h).1
        · obtain ⟨h1, h2, _⟩ := gd.src h
          exact List.mem_map.mpr ⟨k.toNat, List.mem_range.mpr (by omega), by omega⟩
  · rw [List.pairwise_map]
    refine List.Pairwise.imp (fun {a b} h => ?_) List.pairwise_lt_range
    omega
end
/-! ### both: what pulls give, and who is let go of -/
structure Rn (C : Ct) (S : Ms) : Prop where
  rest : Rest C S
  w : Wz C (Un0 C) S
section
variable {C : Ct} {ks : List Kd} {S : Ms} {L j : Nat}
theorem uq_of (gd : Gd C ks) : ∀ (i j : Nat) (k : Int), C.ls[i]? = some (.source k) → C.ls[j]? = some (.source k) → i = j := fun i j k h1 h2 => gd.uniq h1 h2
theorem pull_both (gd : Gd C ks) (hL : 60000 ≤ L) (r : Rn C S) (hj : j < C.outs.length) (hg : S.gone j = false) : ∃ x S', PL C L (.out j) S = some (x, S') ∧ Rn C S' ∧ S'.gone = S.gone ∧ (∀ j', j' ≠ j → S'.pos (.out j') = S.pos (.out j')) ∧
    (S.pos (.out j) < (Wl C (C.tgt (.out j))).length → (Wl C (C.tgt (.out j)))[S.pos (.out j)]? = some x ∧ S'.pos (.out j) = S.pos (.out j) + 1) ∧ (¬ S.pos (.out j) < (Wl C (C.tgt (.out j))).length → x = .none ∧ S'.pos (.out j) = S.pos (.out j)) ∧
    (∃ u, S'.left = S.left ++ u) ∧ ∃ u, S'.asks = S.asks ++ u ∧ ∀ k ∈ u, k ∉ S.left := by
  obtain ⟨x, S', e, r', g, o, p1, p2⟩ := pull_out gd hL r.rest hj
  obtain ⟨w, tr⟩ := pull_W gd.run.ct (fun k h i => un0_src h i) (uq_of gd) 25 (.out j) S x S' (gd.run.out j hj) ⟨hj, hg⟩ r.w e
  exact ⟨x, S', e, ⟨r', w⟩, g, o, p1, p2, tr.left, tr.asks⟩
theorem leave_both (gd : Gd C ks) (r : Rn C S) (hj : j < C.outs.length) (hg : S.gone j = false) : ∃ S', leaveM C 25 (.out j) (S.drop j) = some S' ∧ Rn C S' ∧ S'.gone = fset S.gone j true ∧ S'.pos = S.pos ∧ S'.asks = S.asks ∧ ∃ u, S'.left = S.left ++ u := by
  obtain ⟨S', e, r', g, p, _, _, a⟩ := leave_out gd r.rest hj
  obtain ⟨w, l, _⟩ := leave_W gd.run.ct (fun k h i => un0_src h i) (uq_of gd) hj (gd.run.out j hj) hg r.w e
  exact ⟨S', e, ⟨r', w⟩, g, p, a, l⟩
theorem start_both (gd : Gd C ks) : ∃ S, startM C = some S ∧ Rn C S ∧ S.asks = [] ∧ (∀ p, S.pos p = 0) ∧ ∀ j, S.gone j = false := by
  obtain ⟨S, e, r, a, p, _, _, g⟩ := start_ok gd
  exact ⟨S, e, ⟨r, start_W gd e⟩, a, p, g⟩
end
open PySem PySem.Spec PyProof.Rows L2
/-! ### how far a line pulls at its places for so many tries -/
def gPr (p : PyData → Bool) (A : List PyData) (n : Nat) : List Nat := ((List.range n).filter fun j => p (A.getD j .none)).map (· + 1)
theorem gPr_succ {p : PyData → Bool} {A : List PyData} {n : Nat} {x : PyData} (h : A[n]? = some x) : gPr p A (n + 1) = gPr p A n ++ if p x = true then [n + 1] else [] := by
  unfold gPr
  have e : A.getD n .none = x := by rw [List.getD_eq_getElem?_getD, h]; rfl
  rw [List.range_succ, List.filter_append, List.map_append]
  cases c : p x
  · rw [List.filter_cons_of_neg (by rw [e, c]; decide)]; rfl
  · rw [List.filter_cons_of_pos (by rw [e, c])]; rfl
theorem gPr_len {p : PyData → Bool} {A : List PyData} : ∀ {n : Nat}, n ≤ A.length → (gPr p A n).length = ((A.take n).filter p).length
  | 0, _ => by simp [gPr]
  | n + 1, h => by
    have e : A[n]? = some A[n] := List.getElem?_eq_getElem h
    rw [gPr_succ e, List.take_add_one, e, List.filter_append, List.length_append, List.length_append, gPr_len (n := n) (by omega)]
    show _ + _ = _ + ([A[n]].filter p).length
    cases c : p A[n]
    · rw [List.filter_cons_of_neg (by rw [c]; decide)]; rfl
    · rw [List.filter_cons_of_pos c]; rfl
theorem gPr_pre {p : PyData → Bool} {A : List PyData} {q : Nat} : ∀ {n : Nat}, q ≤ n → n ≤ A.length → ∃ r, gPr p A n = gPr p A q ++ r ∧ ∀ z ∈ r, q + 1 ≤ z ∧ z ≤ n
  | 0, h, _ => by
    have : q = 0 := by omega
    subst this
    exact ⟨[], by simp, fun _ h => nomatch h⟩
  | n + 1, h, hn => by
    by_cases c : q = n + 1
    · subst c
      exact ⟨[], by simp, fun _ h => nomatch h⟩
    · obtain ⟨r, h1, h2⟩ := gPr_pre (p := p) (A := A) (q := q) (n := n) (by omega) (by omega)
      have e : A[n]? = some A[n] := List.getElem?_eq_getElem hn
      rw [gPr_succ e, h1]
      refine ⟨r ++ if p A[n] = true then [n + 1] else [], by rw [List.append_assoc], fun z hz => ?_⟩
      rcases List.mem_append.mp hz with hz | hz
      · have := h2 z hz
        omega
      · split at hz
        · rw [List.mem_singleton.mp hz]; omega
        · cases hz
abbrev gP (p : PyData → Bool) (A : List PyData) : List Nat := gPr p A A.length
theorem gP_len {p : PyData → Bool} {A : List PyData} : (gP p A).length = (A.filter p).length := by
  rw [gPr_len (Nat.le_refl _), List.take_length]
theorem getD_mem {α : Type} {xs : List α} {k : Nat} {d : α} (h : k < xs.length) : xs.getD k d ∈ xs := by
  rw [List.getD_eq_getElem?_getD, List.getElem?_eq_getElem h]
  exact List.getElem_mem h
theorem gP_lt {p : PyData → Bool} {A : List PyData} {q k : Nat} (hq : q ≤ A.length) (hc : ((A.take q).filter p).length ≤ k) (hk : k < (gP p A).length) : q + 1 ≤ (gP p A).getD k 0 := by
  obtain ⟨r, h1, h2⟩ := gPr_pre (p := p) hq (Nat.le_refl A.length)
  have l1 := gPr_len (p := p) hq
  show q + 1 ≤ (gPr p A A.length).getD k 0
  have hk : k < (gPr p A A.length).length := hk
  rw [h1] at hk ⊢
  rw [List.length_append] at hk
  rw [List.getD_eq_getElem?_getD, List.getElem?_append_right (by omega), ← List.getD_eq_getElem?_getD]
  exact (h2 _ (getD_mem (by omega))).1
theorem gP_eq {p : PyData → Bool} {A : List PyData} {q k : Nat} {x : PyData} (hx : A[q]? = some x) (px : p x = true) (hc : ((A.take q).filter p).length = k) : (gP p A).getD k 0 = q + 1 := by
  have hq := (List.getElem?_eq_some_iff.mp hx).1
  obtain ⟨r, h1, h2⟩ := gPr_pre (p := p) (q := q + 1) (A := A) hq (Nat.le_refl A.length)
  have l1 := gPr_len (p := p) (A := A) (n := q) (by omega)
  show (gPr p A A.length).getD k 0 = q + 1
  rw [h1, gPr_succ hx, if_pos px, List.append_assoc, List.getD_eq_getElem?_getD, List.getElem?_append_right (by omega)]
  rw [l1, hc, Nat.sub_self]
  rfl
theorem gP_le {p : PyData → Bool} {A : List PyData} {k : Nat} (hk : k < (gP p A).length) : (gP p A).getD k 0 ≤ A.length := by
  obtain ⟨r, h1, h2⟩ := gPr_pre (p := p) (q := 0) (A := A) (Nat.zero_le _) (Nat.le_refl A.length)
  have h1 : gP p A = gPr p A 0 ++ r := h1
  have m := getD_mem (d := 0) hk
  generalize (gP p A).getD k 0 = z at m ⊢
  rw [h1] at m
  rcases List.mem_append.mp m with m | m
  · simp [gPr] at m
  · exact (h2 z m).2
theorem gP_mono {p : PyData → Bool} {A : List PyData} {k : Nat} (hk : k + 1 < (gP p A).length) : (gP p A).getD k 0 ≤ (gP p A).getD (k + 1) 0 := by
  have pw : (gP p A).Pairwise (· < ·) := by
    show (((List.range A.length).filter fun j => p (A.getD j .none)).map (· + 1)).Pairwise (· < ·)
    rw [List.pairwise_map]
    exact (List.pairwise_lt_range.filter _).imp fun h => by omega
  rw [List.pairwise_iff_getElem] at pw
  have := pw k (k + 1) (by omega) hk (by omega)
  rw [List.getD_eq_getElem?_getD, List.getD_eq_getElem?_getD, List.getElem?_eq_getElem hk, List.getElem?_eq_getElem (by omega)]
  exact Nat.le_of_lt this
/-! groups -/
def gSz (gs : List (Int × List Int)) : Nat := (gs.map fun g => g.2.length).sum
theorem gSz_app (a b : List (Int × List Int)) : gSz (a ++ b) = gSz a + gSz b := by
  unfold gSz
  rw [List.map_append, List.sum_append]
theorem gSz_S (m x : Int) (acc : List (Int × List Int)) : gSz (groupS m acc x) = gSz acc + 1 := by
  rcases List.eq_nil_or_concat acc with rfl | ⟨L, b, rfl⟩
  · rfl
  · obtain ⟨r, xs⟩ := b
    have e : (L.concat (r, xs)).getLast? = some (r, xs) := by rw [List.concat_eq_append, List.getLast?_concat]
    unfold groupS
    rw [e]
    dsimp only
    rw [List.concat_eq_append]
    split
    · rw [List.dropLast_concat, gSz_app, gSz_app]
      show gSz L + ((xs ++ [x]).length + 0) = gSz L + (xs.length + 0) + 1
      rw [List.length_append]
      rfl
    · rw [gSz_app]
      rfl
theorem gSz_I (m : Int) (xs : List Int) : gSz (groupI m xs) = xs.length := by
  have : ∀ (xs : List Int) (acc : List (Int × List Int)), gSz (xs.foldl (groupS m) acc) = gSz acc + xs.length := by
    intro xs
    induction xs with
    | nil => intro acc; rfl
    | cons x xs ih =>
      intro acc
      rw [List.foldl_cons, ih, gSz_S, List.length_cons]
      omega
  have h := this xs []
  rw [show gSz [] = 0 from rfl, Nat.zero_add] at h
  exact h
theorem gSz_take (gs : List (Int × List Int)) (k : Nat) : gSz (gs.take k) ≤ gSz gs := by
  have : gs = gs.take k ++ gs.drop k := (List.take_append_drop k gs).symm
  have e := congrArg gSz this
  rw [gSz_app] at e
  omega
theorem gSz_up (gs : List (Int × List Int)) (k : Nat) : gSz (gs.take k) ≤ gSz (gs.take (k + 1)) := by
  have := gSz_take (gs.take (k + 1)) k
  rw [List.take_take, Nat.min_eq_left (by omega)] at this
  exact this
/-- a stretch under way is the beginning of one of the whole -/
theorem grp_ext (m : Int) : ∀ (zs : List Int) (acc : List (Int × List Int)) (t : Int × List Int), ∃ u r, zs.foldl (groupS m) (acc ++ [t]) = acc ++ (t.1, t.2 ++ u) :: r
  | [], acc, t => ⟨[], [], by rw [List.append_nil]; rfl⟩
  | z :: zs, acc, (a, xs) => by
    rw [List.foldl_cons]
    have e : groupS m (acc ++ [(a, xs)]) z = if a = z % m then acc ++ [(a, xs ++ [z])] else acc ++ [(a, xs)] ++ [(z % m, [z])] := by
      unfold groupS
      rw [List.getLast?_concat]
      dsimp only
      rw [List.dropLast_concat]
    rw [e]
    split
    · obtain ⟨u, r, h⟩ := grp_ext m zs acc (a, xs ++ [z])
      exact ⟨z :: u, r, by rw [h, List.append_assoc]; rfl⟩
    · obtain ⟨u, r, h⟩ := grp_ext m zs (acc ++ [(a, xs)]) (z % m, [z])
      exact ⟨[], _, by rw [h, List.append_nil, List.append_assoc]; rfl⟩
theorem grp_part {m : Int} {A : List PyData} {q : Nat} {gs : List (Int × List Int)} {t : Int × List Int} (h : groupI m ((A.take q).map toI) = gs ++ [t]) : ∃ u r, groupI m (A.map toI) = gs ++ (t.1, t.2 ++ u) :: r := by
  have e : A.map toI = (A.take q).map toI ++ (A.drop q).map toI := by rw [← List.map_append, List.take_append_drop]
  rw [e]
  unfold groupI at h ⊢
  rw [List.foldl_append, h]
  exact grp_ext m _ gs t
/-! the wants -/
def wN (l : Ln) (A B M : List PyData) (s m : Nat) : Nat :=
  if m = 0 then 0 else match l with
    | .source _ => 0
    | .chain _ _ => if s = 0 then min m (A.length + 1) else m - A.length
    | .pair _ _ => if s = 0 then m else m - (if A.length < m then 1 else 0)
    | .merge _ _ => if s = 0 then (posN (A.map toI) (B.map toI) (m - 1)).1 + 1 else (posN (A.map toI) (B.map toI) (m - 1)).2 + 1
    | .take n _ => min (min m n.toNat) (A.length + 1)
    | .skip n _ => min (m + n.toNat) (A.length + 1)
    | .whil _ _ => m
    | .map _ _ => min (if M.length < m then A.length + 1 else m) (A.length + 1)
    | .fold _ _ _ => min (if M.length < m then A.length + 1 else m) (A.length + 1)
    | .keep ts _ => if M.length < m then A.length + 1 else (gP (met ts) A).getD (m - 1) 0
    | .group g _ => if M.length < m then A.length + 1 else gSz ((groupI g (A.map toI)).take m) + 1
    | .window n _ => if M.length < m then A.length + 1 else m + n.toNat - 1
/-- M is the line's list -/
def isM (l : Ln) (A B M : List PyData) : Prop := match l with
  | .source _ => True
  | .chain _ _ => M = twoD l A B
  | .pair _ _ => M = twoD l A B
  | .merge _ _ => M = twoD l A B
  | _ => M = oneD l A
theorem posN_up (A B : List Int) (k : Nat) : (posN A B k).1 ≤ (posN A B (k + 1)).1 ∧ (posN A B k).2 ≤ (posN A B (k + 1)).2 := by
  show (posN A B k).1 ≤ (posS A B (posN A B k)).1 ∧ (posN A B k).2 ≤ (posS A B (posN A B k)).2
  unfold posS
  split
  · exact ⟨Nat.le_succ _, Nat.le_refl _⟩
  · exact ⟨Nat.le_refl _, Nat.le_succ _⟩
theorem wN_up {l : Ln} {A B M : List PyData} (h : isM l A B M) (hn : numOk l = true) (s m : Nat) : wN l A B M s m ≤ wN l A B M s (m + 1) := by
  unfold wN
  by_cases m0 : m = 0
  · rw [if_pos m0]; exact Nat.zero_le _
  rw [if_neg m0, if_neg (show ¬ (m + 1 = 0) by omega)]
  cases l with
  | source k => exact Nat.le_refl _
  | chain a b =>
    dsimp only
    by_cases hs : s = 0
    · rw [if_pos hs, if_pos hs]; omega
    · rw [if_neg hs, if_neg hs]; omega
  | pair a b =>
    dsimp only
    by_cases hs : s = 0
    · rw [if_pos hs, if_pos hs]; omega
    · rw [if_neg hs, if_neg hs]
      split <;> split <;> omega
  | merge a b =>
    dsimp only
    obtain ⟨k, rfl⟩ : ∃ k, m = k + 1 := ⟨m - 1, by omega⟩
    have := posN_up (A.map toI) (B.map toI) k
    rw [Nat.add_sub_cancel, Nat.add_sub_cancel]
    by_cases hs : s = 0
    · rw [if_pos hs, if_pos hs]; omega
    · rw [if_neg hs, if_neg hs]; omega
  | take n a => dsimp only; omega
  | skip n a => dsimp only; omega
  | whil ts a => dsimp only; omega
  | map ds a => dsimp only; split <;> split <;> omega
  | fold f n a => dsimp only; split <;> split <;> omega
  | keep ts a =>
    dsimp only
    have hM : M = A.filter (met ts) := h
    have hl := gP_len (p := met ts) (A := A)
    rw [← hM] at hl
    by_cases c : M.length < m
    · rw [if_pos c, if_pos (by omega)]; exact Nat.le_refl _
    · rw [if_neg c]
      by_cases c2 : M.length < m + 1
      · rw [if_pos c2]
        have := gP_le (p := met ts) (A := A) (k := m - 1) (by omega)
        omega
      · rw [if_neg c2]
        obtain ⟨k, rfl⟩ : ∃ k, m = k + 1 := ⟨m - 1, by omega⟩
        exact gP_mono (by omega)
  | group g a =>
    dsimp only
    have hs := gSz_I g (A.map toI)
    rw [List.length_map] at hs
    have t1 := gSz_take (groupI g (A.map toI)) m
    have t2 := gSz_up (groupI g (A.map toI)) m
    split <;> split <;> omega
  | window n a =>
    dsimp only
    have hM : M = windows n.toNat A := h
    have hl : M.length = A.length + 1 - n.toNat := by rw [hM]; unfold windows; rw [List.length_map, List.length_range]
    have hn : (decide (1 ≤ n) && decide (n ≤ 9)) = true := hn
    rw [Bool.and_eq_true, decide_eq_true_eq, decide_eq_true_eq] at hn
    split <;> split <;> omega
theorem wN_mono {l : Ln} {A B M : List PyData} (h : isM l A B M) (hn : numOk l = true) (s : Nat) {m m' : Nat} (hm : m ≤ m') : wN l A B M s m ≤ wN l A B M s m' := by
  induction m' with
  | zero => rw [show m = 0 by omega]; exact Nat.le_refl _
  | succ k ih =>
    by_cases c : m = k + 1
    · rw [c]; exact Nat.le_refl _
    · exact Nat.le_trans (ih (by omega)) (wN_up h hn s k)
open PySem PySem.Spec PyProof.Rows L2
/-! ### what lines have tried, and by whom each try was wanted -/
def att (S : Ms) (i : Nat) : Nat := (S.made i).length + b2n (S.over i)
def Wn (C : Ct) (i s m : Nat) : Nat := match C.ls[i]? with
  | some l => wN l (Wl C (C.tgt (.at i 0))) (Wl C (C.tgt (.at i 1))) (Wl C i) s m
  | none => 0
def Ju (C : Ct) (q : Nat → Nat) (X : Nat → Bool) (S : Ms) (j n : Nat) : Prop :=
  n = 0 ∨ (∃ i s l, C.ls[i]? = some l ∧ s < l.names.length ∧ C.tgt (.at i s) = j ∧ n ≤ Wn C i s (att S i + b2n (X i))) ∨ ∃ o, o < C.outs.length ∧ C.tgt (.out o) = j ∧ n ≤ q o
def J (C : Ct) (q : Nat → Nat) (X : Nat → Bool) (S : Ms) : Prop := ∀ j, j < C.ls.length → Ju C q X S j (att S j)
def isMg : Ln → Bool
  | .merge _ _ => true
  | _ => false
/-- what a merge holds, and where it stands -/
def Mx (C : Ct) (S : Ms) (i : Nat) : Prop :=
  let g := posN ((Wl C (C.tgt (.at i 0))).map toI) ((Wl C (C.tgt (.at i 1))).map toI) (S.made i).length
  (S.pos (.at i 0) = g.1 + (if S.h0 i = .none then 0 else 1) ∧ (S.h0 i ≠ .none → (Wl C (C.tgt (.at i 0)))[g.1]? = some (S.h0 i))) ∧
    S.pos (.at i 1) = g.2 + (if S.h1 i = .none then 0 else 1) ∧ (S.h1 i ≠ .none → (Wl C (C.tgt (.at i 1)))[g.2]? = some (S.h1 i))
/-- lines ahead of i have pulled as far as they had to -/
def Dl (C : Ct) (S : Ms) (i : Nat) : Prop := ∀ j l, j < i → C.ls[j]? = some l → (∀ s, s < l.names.length → Wn C j s (att S j) ≤ att S (C.tgt (.at j s))) ∧ (isMg l = true → S.over j = false → Mx C S j)
/-- how often each source was asked -/
def AC (C : Ct) (S : Ms) : Prop := ∀ k : Int, (∀ i, C.ls[i]? = some (.source k) → S.asks.count k = att S i) ∧ ((∀ i : Nat, C.ls[i]? ≠ some (.source k)) → S.asks.count k = 0)
structure PDr (C : Ct) (p : Pl) (S S' : Ms) : Prop where
  dl : Dl C S' (C.tgt p + 1)
  mono : ∀ j, att S j ≤ att S' j
  j : ∀ q X, (∀ j, X j = true → C.tgt p < j) → Ju C q X S (C.tgt p) (S.pos p + 1) → J C q X S → J C q X S'
  lo : S.pos p + 1 ≤ att S' (C.tgt p)
  ac : AC C S → AC C S'
def PD (C : Ct) (pl : Pull) (i : Nat) : Prop := ∀ p S x S', C.tgt p < i → Low C S (C.tgt p + 1) → Glob C S → S.pos p ≤ (S.made (C.tgt p)).length → (∀ j s, j ≤ C.tgt p → p ≠ .at j s) → Dl C S (C.tgt p + 1) → pl p S = some (x, S') → PDr C p S S'
section
variable {C : Ct} {ks : List Kd} {S S' S0 S1 S2 : Ms} {i j s : Nat} {p : Pl} {pl : Pull} {L : Nat} {l : Ln}
theorem Wn_eq (hl : C.ls[i]? = some l) (s m : Nat) : Wn C i s m = wN l (Wl C (C.tgt (.at i 0))) (Wl C (C.tgt (.at i 1))) (Wl C i) s m := by unfold Wn; rw [hl]
theorem isM_of (gd : Gd C ks) (hl : C.ls[i]? = some l) : isM l (Wl C (C.tgt (.at i 0))) (Wl C (C.tgt (.at i 1))) (Wl C i) := by
  cases l with
  | source k => exact trivial
  | chain a b => exact Wl_two gd.run.ct hl rfl
  | pair a b => exact Wl_two gd.run.ct hl rfl
  | merge a b => exact Wl_two gd.run.ct hl rfl
  | _ => exact Wl_one gd.run.ct hl rfl
theorem Wn_mono (gd : Gd C ks) (s : Nat) {m m' : Nat} (h : m ≤ m') : Wn C i s m ≤ Wn C i s m' := by
  cases hl : C.ls[i]? with
  | none => unfold Wn; rw [hl]; exact Nat.le_refl _
  | some l =>
    rw [Wn_eq hl, Wn_eq hl]
    exact wN_mono (isM_of gd hl) (gd.run.ct.num i l hl) s h
theorem b2n_mono {a b : Bool} (h : a = true → b = true) : b2n a ≤ b2n b := by
  cases a with
  | false => exact Nat.zero_le _
  | true => rw [h rfl]; exact Nat.le_refl _
theorem Ju.mono (gd : Gd C ks) {q : Nat → Nat} {X X' : Nat → Bool} {n : Nat} (h : Ju C q X S j n) (ha : ∀ i, att S i + b2n (X i) ≤ att S' i + b2n (X' i)) : Ju C q X' S' j n := by
  rcases h with h | ⟨i, s, l, h1, h2, h3, h4⟩ | h
  · exact .inl h
  · exact .inr (.inl ⟨i, s, l, h1, h2, h3, Nat.le_trans h4 (Wn_mono gd s (ha i))⟩)
  · exact .inr (.inr h)
theorem Mx.same (h : Mx C S i) (e1 : S'.made i = S.made i) (e3 : S'.h0 i = S.h0 i) (e4 : S'.h1 i = S.h1 i) (e5 : S'.pos (.at i 0) = S.pos (.at i 0)) (e6 : S'.pos (.at i 1) = S.pos (.at i 1)) : Mx C S' i := by
  unfold Mx at h ⊢
  dsimp only at h ⊢
  rw [e1, e3, e4, e5, e6]
  exact h
theorem att_of (h1 : S'.made i = S.made i) (h2 : S'.over i = S.over i) : att S' i = att S i := by unfold att; rw [h1, h2]
/-! ### within a step of line i -/
/-- all that is told of lines and askings, S0 the beginning -/
structure Rt (C : Ct) (i : Nat) (S0 S : Ms) : Prop where
  up : ∀ j, i ≤ j → att S j = att S0 j
  dl : Dl C S i
  mono : ∀ j, att S0 j ≤ att S j
  j : ∀ q X, X i = true → (∀ j, X j = true → i ≤ j) → J C q X S0 → J C q X S
  ac : AC C S0 → AC C S
structure Rd (C : Ct) (i : Nat) (S0 S : Ms) : Prop where
  glob : Glob C S
  low : Low C S i
  rt : Rt C i S0 S
theorem Rd.refl (g : Glob C S) (low : Low C S i) (dl : Dl C S i) : Rd C i S S := ⟨g, low, ⟨fun _ _ => rfl, dl, fun _ => Nat.le_refl _, fun _ _ _ _ h => h, fun h => h⟩⟩
theorem Dl.flat (dl : Dl C S i) (e1 : S'.made = S.made) (e2 : S'.over = S.over) (e3 : S'.pos = S.pos) (e5 : ∀ j, j < i → S'.h0 j = S.h0 j ∧ S'.h1 j = S.h1 j) : Dl C S' i := fun j l hj hl => by
  obtain ⟨h1, h2⟩ := dl j l hj hl
  have at' : ∀ j, att S' j = att S j := fun j => att_of (by rw [e1]) (by rw [e2])
  refine ⟨fun s hs => by rw [at', at']; exact h1 s hs, fun hm ho => (h2 hm (by rw [← e2]; exact ho)).same (by rw [e1]) (e5 j hj).1 (e5 j hj).2 (by rw [e3]) (by rw [e3])⟩
theorem J.flat {q : Nat → Nat} {X : Nat → Bool} (gd : Gd C ks) (h : J C q X S) (e1 : S'.made = S.made) (e2 : S'.over = S.over) : J C q X S' := fun j hj => by
  have at' : ∀ j, att S' j = att S j := fun j => att_of (by rw [e1]) (by rw [e2])
  rw [at']
  exact (h j hj).mono gd fun i => by rw [at']; exact Nat.le_refl _
theorem AC.flat (h : AC C S) (e1 : S'.made = S.made) (e2 : S'.over = S.over) (e3 : S'.asks = S.asks) : AC C S' := fun k => by
  obtain ⟨h1, h2⟩ := h k
  refine ⟨fun i hi => by rw [e3, att_of (S := S) (by rw [e1]) (by rw [e2])]; exact h1 i hi, fun hn => by rw [e3]; exact h2 hn⟩
theorem Rt.flat (gd : Gd C ks) (R : Rt C i S0 S1) (e1 : S2.made = S1.made) (e2 : S2.over = S1.over) (e3 : S2.pos = S1.pos) (e4 : S2.asks = S1.asks) (e5 : ∀ j, j < i → S2.h0 j = S1.h0 j ∧ S2.h1 j = S1.h1 j) : Rt C i S0 S2 := by
  have at' : ∀ j, att S2 j = att S1 j := fun j => att_of (by rw [e1]) (by rw [e2])
  exact ⟨fun j hj => by rw [at']; exact R.up j hj, R.dl.flat e1 e2 e3 e5, fun j => by rw [at']; exact R.mono j, fun q X h1 h2 h3 => (R.j q X h1 h2 h3).flat gd e1 e2, fun h => (R.ac h).flat e1 e2 e4⟩
/-- what a pull of one of its places gives -/
structure PF (C : Ct) (i s : Nat) (S : Ms) (x : PyData) (S1 : Ms) : Prop where
  bel : Bel C i S S1
  le : S1.pos (.at i s) ≤ (S1.made (C.tgt (.at i s))).length
  hit : S.pos (.at i s) < (Wl C (C.tgt (.at i s))).length → (Wl C (C.tgt (.at i s)))[S.pos (.at i s)]? = some x ∧ x ≠ .none ∧ S1.pos (.at i s) = S.pos (.at i s) + 1
  miss : ¬ S.pos (.at i s) < (Wl C (C.tgt (.at i s))).length → x = .none ∧ S1.pos (.at i s) = S.pos (.at i s)
  oth : ∀ t, t ≠ s → S1.pos (.at i t) = S.pos (.at i t)
  lo : S.pos (.at i s) + 1 ≤ att S1 (C.tgt (.at i s))
theorem Rd.pull (gd : Gd C ks) (hp : Pulls C pl i) (hd : PD C pl i) (hl : C.ls[i]? = some l) (hs : s < l.names.length) (R : Rd C i S0 S1) (le : S1.pos (.at i s) ≤ (S1.made (C.tgt (.at i s))).length)
    (u : S1.pos (.at i s) + 1 ≤ Wn C i s (att S0 i + 1)) : ∃ x S2, pl (.at i s) S1 = some (x, S2) ∧ Rd C i S0 S2 ∧ PF C i s S1 x S2 := by
  have ht := gd.run.ct.tgt hl hs
  have hpp : ∀ j t, j ≤ C.tgt (.at i s) → (Pl.at i s) ≠ .at j t := fun j t hj z => by cases z; omega
  obtain ⟨x, S2, e, got⟩ := hp (.at i s) S1 ht (fun j l hj h => R.low j l (by omega) h) R.glob le hpp
  have D := hd (.at i s) S1 x S2 ht (fun j l hj h => R.low j l (by omega) h) R.glob le hpp (fun j l hj h => R.rt.dl j l (by omega) h) e
  have up : ∀ j, C.tgt (.at i s) < j → att S2 j = att S1 j := fun j hj => att_of (got.frm.made j hj) (got.frm.over j hj)
  obtain ⟨kn, k, h1, h2, h3⟩ := gd.kinds hl
  refine ⟨x, S2, e, ⟨got.glob, got.low_of gd ht R.low, ⟨fun j hj => (up j (by omega)).trans (R.rt.up j hj), fun j l' hj hl' => ?_, fun j => Nat.le_trans (R.rt.mono j) (D.mono j), fun q X hX hX2 h => ?_, fun h => D.ac (R.rt.ac h)⟩⟩,
    ⟨got.bel ht, got.le, fun h => ?_, got.miss, fun t hne => got.frm.pos _ (by intro z; cases z; exact hne rfl) (fun j' t' hj' z => by cases z; omega), D.lo⟩⟩
  · by_cases c : j < C.tgt (.at i s) + 1
    · exact D.dl j l' c hl'
    · obtain ⟨a, b⟩ := R.rt.dl j l' hj hl'
      have pe : ∀ t, S2.pos (.at j t) = S1.pos (.at j t) := fun t => got.frm.pos _ (by intro z; cases z; omega) (fun j' t' hj' z => by cases z; omega)
      refine ⟨fun t ht' => ?_, fun hm ho => (b hm (by rw [← got.frm.over j (by omega)]; exact ho)).same (got.frm.made j (by omega)) (got.frm.h0 j (by omega)) (got.frm.h1 j (by omega)) (pe 0) (pe 1)⟩
      rw [up j (by omega)]
      exact Nat.le_trans (a t ht') (D.mono _)
  · refine D.j q X (fun j hj => Nat.lt_of_lt_of_le ht (hX2 j hj)) (.inr (.inl ⟨i, s, l, hl, hs, rfl, ?_⟩)) (R.rt.j q X hX hX2 h)
    rw [R.rt.up i (Nat.le_refl i), hX]
    exact u
  · obtain ⟨a, b⟩ := got.hit h
    have hk : kn[s]? = some kn[s] := List.getElem?_eq_getElem (by omega)
    exact ⟨a, has_ne (h3 s _ hk x (List.mem_of_getElem? a)), b⟩
theorem Rd.leA (gd : Gd C ks) (hl : C.ls[i]? = some l) (hs : s < l.names.length) (R : Rd C i S0 S1) (le : S1.pos (.at i s) ≤ (S1.made (C.tgt (.at i s))).length) : S1.pos (.at i s) ≤ (Wl C (C.tgt (.at i s))).length := leW gd hl hs R.glob le
/-- what a step leaves -/
structure SD (C : Ct) (i : Nat) (l : Ln) (S : Ms) (x : PyData) (S' : Ms) : Prop where
  rt : Rt C i S S'
  want : ∀ s, s < l.names.length → Wn C i s (att S i + 1) ≤ att S' (C.tgt (.at i s))
  mx : isMg l = true → x ≠ .none → Mx C (S'.push i x) i
theorem SD.one {a : Int} {x : PyData} (hn : l.names = [a]) (hm : isMg l = false) (rt : Rt C i S S') (w : Wn C i 0 (att S i + 1) ≤ att S' (C.tgt (.at i 0))) : SD C i l S x S' :=
  ⟨rt, fun s hs => (by rw [hn] at hs; obtain rfl : s = 0 := (by simpa using hs); exact w), fun h => (by rw [hm] at h; cases h)⟩
theorem SD.two {a b : Int} {x : PyData} (hn : l.names = [a, b]) (rt : Rt C i S S') (w0 : Wn C i 0 (att S i + 1) ≤ att S' (C.tgt (.at i 0))) (w1 : Wn C i 1 (att S i + 1) ≤ att S' (C.tgt (.at i 1))) (mx : isMg l = true → x ≠ .none → Mx C (S'.push i x) i) : SD C i l S x S' :=
  ⟨rt, fun s hs => by
    rw [hn] at hs
    have hs : s < 2 := hs
    match s, hs with
    | 0, _ => exact w0
    | 1, _ => exact w1, mx⟩
theorem att0 (ho : S.over i = false) : att S i = (S.made i).length := by unfold att; rw [ho]; rfl
/-! the steps -/
theorem sd_map (gd : Gd C ks) (hp : Pulls C pl i) (hd : PD C pl i) {ds : List Deed} {a : Int} (hl : C.ls[i]? = some (.map ds a)) (R : Rd C i S S) (le : S.pos (.at i 0) ≤ (S.made (C.tgt (.at i 0))).length) (hk : LnOk C S i (.map ds a)) (ho : S.over i = false)
    {x : PyData} (e : stepL C pl L i S (.map ds a) = some (x, S')) : SD C i (.map ds a) S x S' := by
  have hW : Wl C i = (Wl C (C.tgt (.at i 0))).map (doneAll ds) := Wl_one gd.run.ct hl rfl
  have lM : (Wl C i).length = (Wl C (C.tgt (.at i 0))).length := by rw [hW, List.length_map]
  have k0 : S.pos (.at i 0) = (S.made i).length := hk
  have lA := R.leA gd hl (s := 0) Nat.zero_lt_one le
  have w : Wn C i 0 (att S i + 1) = min (if (Wl C i).length < att S i + 1 then (Wl C (C.tgt (.at i 0))).length + 1 else att S i + 1) ((Wl C (C.tgt (.at i 0))).length + 1) := by
    rw [Wn_eq hl]; unfold wN; rw [if_neg (Nat.succ_ne_zero _)]
  have a0 := att0 ho
  obtain ⟨y, S1, e1, R1, F1⟩ := R.pull gd hp hd hl (s := 0) Nat.zero_lt_one le (by rw [w]; split <;> omega)
  unfold stepL at e
  dsimp only at e
  rw [e1] at e
  dsimp only at e
  have hS : S' = S1 := by
    split at e
    · cases e; rfl
    · have := (gd_some e).2; cases this; rfl
  subst hS
  have lo := F1.lo
  exact .one rfl rfl R1.rt (by rw [w]; split <;> omega)
theorem sd_fold (gd : Gd C ks) (hp : Pulls C pl i) (hd : PD C pl i) {f : Fw} {n a : Int} (hl : C.ls[i]? = some (.fold f n a)) (R : Rd C i S S) (le : S.pos (.at i 0) ≤ (S.made (C.tgt (.at i 0))).length) (hk : LnOk C S i (.fold f n a)) (ho : S.over i = false)
    {x : PyData} (e : stepL C pl L i S (.fold f n a) = some (x, S')) : SD C i (.fold f n a) S x S' := by
  have hW : Wl C i = (foldI f n ((Wl C (C.tgt (.at i 0))).map toI)).map PyData.int := Wl_one gd.run.ct hl rfl
  have fl : ∀ (xs : List Int) (n : Int), (foldI f n xs).length = xs.length := by
    intro xs
    induction xs with
    | nil => intro n; rfl
    | cons x xs ih => intro n; show (foldI f _ xs).length + 1 = _; rw [ih]; rfl
  have lM : (Wl C i).length = (Wl C (C.tgt (.at i 0))).length := by rw [hW, List.length_map, fl, List.length_map]
  have k0 : S.pos (.at i 0) = (S.made i).length := hk
  have lA := R.leA gd hl (s := 0) Nat.zero_lt_one le
  have w : Wn C i 0 (att S i + 1) = min (if (Wl C i).length < att S i + 1 then (Wl C (C.tgt (.at i 0))).length + 1 else att S i + 1) ((Wl C (C.tgt (.at i 0))).length + 1) := by
    rw [Wn_eq hl]; unfold wN; rw [if_neg (Nat.succ_ne_zero _)]
  have a0 := att0 ho
  obtain ⟨y, S1, e1, R1, F1⟩ := R.pull gd hp hd hl (s := 0) Nat.zero_lt_one le (by rw [w]; split <;> omega)
  unfold stepL at e
  dsimp only at e
  rw [e1] at e
  dsimp only at e
  have hS : S' = S1 := by
    split at e
    · cases e; rfl
    · have := (gd_some e).2; cases this; rfl
  subst hS
  have lo := F1.lo
  exact .one rfl rfl R1.rt (by rw [w]; split <;> omega)
theorem sd_whil (gd : Gd C ks) (hp : Pulls C pl i) (hd : PD C pl i) {ts : List Tst} {a : Int} (hl : C.ls[i]? = some (.whil ts a)) (R : Rd C i S S) (le : S.pos (.at i 0) ≤ (S.made (C.tgt (.at i 0))).length) (hk : LnOk C S i (.whil ts a)) (ho : S.over i = false)
    {x : PyData} (e : stepL C pl L i S (.whil ts a) = some (x, S')) : SD C i (.whil ts a) S x S' := by
  have k0 : S.pos (.at i 0) = (S.made i).length := (show _ ∧ _ from hk).1
  have w : Wn C i 0 (att S i + 1) = att S i + 1 := by
    rw [Wn_eq hl]; unfold wN; rw [if_neg (Nat.succ_ne_zero _)]
  have a0 := att0 ho
  obtain ⟨y, S1, e1, R1, F1⟩ := R.pull gd hp hd hl (s := 0) Nat.zero_lt_one le (by rw [w]; omega)
  unfold stepL at e
  dsimp only at e
  rw [e1] at e
  dsimp only at e
  have hS : S' = S1 := by
    split at e
    · cases e; rfl
    · have := (gd_some e).2
      split at this <;> cases this <;> rfl
  subst hS
  have lo := F1.lo
  exact .one rfl rfl R1.rt (by rw [w]; omega)
theorem sd_take (gd : Gd C ks) (hp : Pulls C pl i) (hd : PD C pl i) {n a : Int} (hl : C.ls[i]? = some (.take n a)) (R : Rd C i S S) (le : S.pos (.at i 0) ≤ (S.made (C.tgt (.at i 0))).length) (hk : LnOk C S i (.take n a)) (ho : S.over i = false)
    (dw : Wn C i 0 (att S i) ≤ att S (C.tgt (.at i 0))) {x : PyData} (e : stepL C pl L i S (.take n a) = some (x, S')) : SD C i (.take n a) S x S' := by
  obtain ⟨k0, kn⟩ := (show S.pos (.at i 0) = (S.made i).length ∧ ((S.made i).length : Int) ≤ n from hk)
  have lA := R.leA gd hl (s := 0) Nat.zero_lt_one le
  have w : ∀ m, Wn C i 0 (m + 1) = min (min (m + 1) n.toNat) ((Wl C (C.tgt (.at i 0))).length + 1) := fun m => by
    rw [Wn_eq hl]; unfold wN; rw [if_neg (Nat.succ_ne_zero _)]
  have a0 := att0 ho
  unfold stepL at e
  dsimp only at e
  by_cases c : ((S.made i).length : Int) = n
  · rw [if_pos c] at e
    cases e
    refine .one rfl rfl R.rt ?_
    rw [w]
    cases hm : att S i with
    | zero => omega
    | succ m =>
      rw [hm, w] at dw
      omega
  · rw [if_neg c] at e
    obtain ⟨y, S1, e1, R1, F1⟩ := R.pull gd hp hd hl (s := 0) Nat.zero_lt_one le (by rw [w]; omega)
    rw [e1] at e
    cases e
    have lo := F1.lo
    exact .one rfl rfl R1.rt (by rw [w]; omega)
/-! keep -/
theorem keep_u {ts : List Tst} {a : Int} {q : Nat} (hl : C.ls[i]? = some (.keep ts a)) (hM : Wl C i = (Wl C (C.tgt (.at i 0))).filter (met ts)) {k : Nat} (hq : q ≤ (Wl C (C.tgt (.at i 0))).length) (hc : (((Wl C (C.tgt (.at i 0))).take q).filter (met ts)).length ≤ k) :
    q + 1 ≤ Wn C i 0 (k + 1) := by
  rw [Wn_eq hl]
  unfold wN
  rw [if_neg (Nat.succ_ne_zero _)]
  dsimp only
  have hl2 := gP_len (p := met ts) (A := Wl C (C.tgt (.at i 0)))
  rw [← hM] at hl2
  split
  · omega
  · rw [Nat.add_sub_cancel]
    exact gP_lt hq hc (by omega)
theorem keep_w {ts : List Tst} {a : Int} (hl : C.ls[i]? = some (.keep ts a)) (hM : Wl C i = (Wl C (C.tgt (.at i 0))).filter (met ts)) (k : Nat) : Wn C i 0 (k + 1) ≤ (Wl C (C.tgt (.at i 0))).length + 1 := by
  rw [Wn_eq hl]
  unfold wN
  rw [if_neg (Nat.succ_ne_zero _)]
  dsimp only
  have hl2 := gP_len (p := met ts) (A := Wl C (C.tgt (.at i 0)))
  rw [← hM] at hl2
  split
  · exact Nat.le_refl _
  · rw [Nat.add_sub_cancel]
    exact Nat.le_trans (gP_le (by omega)) (Nat.le_succ _)
theorem keep_e {ts : List Tst} {a : Int} {q : Nat} {x : PyData} (hl : C.ls[i]? = some (.keep ts a)) (hM : Wl C i = (Wl C (C.tgt (.at i 0))).filter (met ts)) {k : Nat} (hx : (Wl C (C.tgt (.at i 0)))[q]? = some x) (px : met ts x = true) (hc : (((Wl C (C.tgt (.at i 0))).take q).filter (met ts)).length = k) :
    Wn C i 0 (k + 1) = q + 1 := by
  rw [Wn_eq hl]
  unfold wN
  rw [if_neg (Nat.succ_ne_zero _)]
  dsimp only
  have hl2 := gP_len (p := met ts) (A := Wl C (C.tgt (.at i 0)))
  rw [← hM] at hl2
  have m1 : k + 1 ≤ (Wl C i).length := by
    rw [hM]
    have e : Wl C (C.tgt (.at i 0)) = (Wl C (C.tgt (.at i 0))).take (q + 1) ++ (Wl C (C.tgt (.at i 0))).drop (q + 1) := (List.take_append_drop _ _).symm
    rw [e, List.filter_append, List.length_append, take_snoc hx, List.filter_append, List.length_append, hc, List.filter_cons_of_pos px]
    show k + 1 ≤ k + 1 + _
    omega
  rw [if_neg (by omega), Nat.add_sub_cancel]
  exact gP_eq hx px hc
theorem keepL_D (gd : Gd C ks) (hp : Pulls C pl i) (hd : PD C pl i) {ts : List Tst} {a : Int} (hl : C.ls[i]? = some (.keep ts a)) (hM : Wl C i = (Wl C (C.tgt (.at i 0))).filter (met ts)) : ∀ (L : Nat) (x y : PyData) (S1 S2 : Ms), Rd C i S0 S1 → S1.pos (.at i 0) ≤ (S1.made (C.tgt (.at i 0))).length →
    ((x = .none ∧ (Wl C (C.tgt (.at i 0))).length + 1 ≤ att S1 (C.tgt (.at i 0))) ∨ ∃ q, S1.pos (.at i 0) = q + 1 ∧ (Wl C (C.tgt (.at i 0)))[q]? = some x ∧ (((Wl C (C.tgt (.at i 0))).take q).filter (met ts)).length = att S0 i ∧ q + 1 ≤ att S1 (C.tgt (.at i 0))) →
    keepL pl i ts L x S1 = some (y, S2) → Rd C i S0 S2 ∧ Wn C i 0 (att S0 i + 1) ≤ att S2 (C.tgt (.at i 0)) := by
  intro L
  induction L with
  | zero => intro x y S1 S2 _ _ _ e; cases e
  | succ L ih =>
    intro x y S1 S2 R le h e
    unfold keepL at e
    by_cases c : x = .none
    · rw [if_pos c] at e
      cases e
      refine ⟨R, ?_⟩
      rcases h with ⟨_, h⟩ | ⟨q, h1, h2, h3, h4⟩
      · exact Nat.le_trans (keep_w hl hM _) h
      · subst c
        obtain ⟨ka, k', hkk, hty⟩ := gd.one hl rfl
        exact absurd rfl (has_ne (hty _ (List.mem_of_getElem? h2)))
    · rw [if_neg c] at e
      have e := (gd_some e).2
      rcases h with ⟨h, _⟩ | ⟨q, h1, h2, h3, h4⟩
      · exact absurd h c
      by_cases m : met ts x = true
      · rw [if_pos m] at e
        cases e
        exact ⟨R, by rw [keep_e hl hM h2 m h3]; exact h4⟩
      · rw [if_neg m] at e
        have hq := getE h2
        have h3' : (((Wl C (C.tgt (.at i 0))).take (q + 1)).filter (met ts)).length = att S0 i := by
          rw [take_snoc h2, List.filter_append, List.length_append, h3, List.filter_cons_of_neg m]; rfl
        obtain ⟨z, S3, e1, R3, F3⟩ := R.pull gd hp hd hl (s := 0) Nat.zero_lt_one le (by rw [h1]; exact keep_u hl hM hq (by omega))
        rw [e1] at e
        dsimp only at e
        refine ih z y S3 S2 R3 F3.le ?_ e
        have lo := F3.lo
        rw [h1] at lo
        by_cases c2 : S1.pos (.at i 0) < (Wl C (C.tgt (.at i 0))).length
        · obtain ⟨g1, g2, g3⟩ := F3.hit c2
          rw [h1] at g1 g3
          exact .inr ⟨q + 1, g3, g1, h3', lo⟩
        · exact .inl ⟨(F3.miss c2).1, by omega⟩
theorem sd_keep (gd : Gd C ks) (hp : Pulls C pl i) (hd : PD C pl i) {ts : List Tst} {a : Int} (hl : C.ls[i]? = some (.keep ts a)) (R : Rd C i S S) (le : S.pos (.at i 0) ≤ (S.made (C.tgt (.at i 0))).length) (hk : LnOk C S i (.keep ts a)) (ho : S.over i = false)
    {x : PyData} (e : stepL C pl L i S (.keep ts a) = some (x, S')) : SD C i (.keep ts a) S x S' := by
  have hM : Wl C i = (Wl C (C.tgt (.at i 0))).filter (met ts) := Wl_one gd.run.ct hl rfl
  have k0 : ((Wl C (C.tgt (.at i 0))).take (S.pos (.at i 0))).filter (met ts) = S.made i := hk
  have lA := R.leA gd hl (s := 0) Nat.zero_lt_one le
  have a0 := att0 ho
  have k1 : (((Wl C (C.tgt (.at i 0))).take (S.pos (.at i 0))).filter (met ts)).length = att S i := by rw [k0, a0]
  obtain ⟨y, S1, e1, R1, F1⟩ := R.pull gd hp hd hl (s := 0) Nat.zero_lt_one le (keep_u hl hM lA (by omega))
  unfold stepL at e
  dsimp only at e
  rw [e1] at e
  dsimp only at e
  have lo := F1.lo
  obtain ⟨R2, w⟩ := keepL_D gd hp hd hl hM L y x S1 S' R1 F1.le (by
    by_cases c2 : S.pos (.at i 0) < (Wl C (C.tgt (.at i 0))).length
    · obtain ⟨g1, g2, g3⟩ := F1.hit c2
      exact .inr ⟨_, g3, g1, k1, lo⟩
    · exact .inl ⟨(F1.miss c2).1, by omega⟩) e
  exact .one rfl rfl R2.rt w
/-! skip, window -/
theorem skipL_D (gd : Gd C ks) (hp : Pulls C pl i) (hd : PD C pl i) (hl : C.ls[i]? = some l) (h0 : 0 < l.names.length) {n : Int} (u : ∀ p, p ≤ (Wl C (C.tgt (.at i 0))).length → (p : Int) < n → p + 1 ≤ Wn C i 0 (att S0 i + 1)) : ∀ (L : Nat) (b : Bool) (S1 S2 : Ms), Rd C i S0 S1 → S1.pos (.at i 0) ≤ (S1.made (C.tgt (.at i 0))).length →
    skipL pl i n L S1 = some (b, S2) → Rd C i S0 S2 ∧ S2.pos (.at i 0) ≤ (S2.made (C.tgt (.at i 0))).length ∧ (b = true → (Wl C (C.tgt (.at i 0))).length + 1 ≤ att S2 (C.tgt (.at i 0))) ∧ (b = false → n ≤ S2.pos (.at i 0) ∧ ((S1.pos (.at i 0) : Int) ≤ n → (S2.pos (.at i 0) : Int) = n) ∧ (n ≤ S1.pos (.at i 0) → S2 = S1)) := by
  intro L
  induction L with
  | zero => intro b S1 S2 _ _ e; cases e
  | succ L ih =>
    intro b S1 S2 R le e
    unfold skipL at e
    by_cases c : (S1.pos (.at i 0) : Int) < n
    · rw [if_pos c] at e
      have lA := R.leA gd hl h0 le
      obtain ⟨z, S3, e1, R3, F3⟩ := R.pull gd hp hd hl (s := 0) h0 le (u _ lA c)
      rw [e1] at e
      dsimp only at e
      have lo := F3.lo
      by_cases c2 : S1.pos (.at i 0) < (Wl C (C.tgt (.at i 0))).length
      · obtain ⟨g1, g2, g3⟩ := F3.hit c2
        rw [if_neg g2] at e
        obtain ⟨a1, a2, a3, a4⟩ := ih b S3 S2 R3 F3.le e
        refine ⟨a1, a2, a3, fun hb => ?_⟩
        obtain ⟨b1, b2, b3⟩ := a4 hb
        exact ⟨b1, fun _ => b2 (by omega), fun h => by omega⟩
      · obtain ⟨g1, g2⟩ := F3.miss c2
        rw [if_pos g1] at e
        cases e
        exact ⟨R3, F3.le, fun _ => by omega, fun h => by cases h⟩
    · rw [if_neg c] at e
      cases e
      exact ⟨R, le, (fun h => nomatch h), fun _ => ⟨by omega, fun h => by omega, fun _ => rfl⟩⟩
theorem sd_skip (gd : Gd C ks) (hp : Pulls C pl i) (hd : PD C pl i) {n a : Int} (hl : C.ls[i]? = some (.skip n a)) (R : Rd C i S S) (le : S.pos (.at i 0) ≤ (S.made (C.tgt (.at i 0))).length) (hk : LnOk C S i (.skip n a)) (ho : S.over i = false)
    {x : PyData} (e : stepL C pl L i S (.skip n a) = some (x, S')) : SD C i (.skip n a) S x S' := by
  have k0 : ((S.made i).length = 0 ∧ S.pos (.at i 0) = 0) ∨ (0 < (S.made i).length ∧ (S.pos (.at i 0) : Int) = n + (S.made i).length) := hk
  have hn : (decide (0 ≤ n) && decide (n ≤ 9999)) = true := gd.run.ct.num i _ hl
  rw [Bool.and_eq_true, decide_eq_true_eq, decide_eq_true_eq] at hn
  have a0 := att0 ho
  have w : Wn C i 0 (att S i + 1) = min (att S i + 1 + n.toNat) ((Wl C (C.tgt (.at i 0))).length + 1) := by
    rw [Wn_eq hl]; unfold wN; rw [if_neg (Nat.succ_ne_zero _)]
  unfold stepL at e
  dsimp only at e
  cases e1 : skipL pl i n L S with
  | none => rw [e1] at e; cases e
  | some r =>
    obtain ⟨b, S1⟩ := r
    rw [e1] at e
    dsimp only at e
    obtain ⟨R1, le1, h1, h2⟩ := skipL_D gd hp hd hl Nat.zero_lt_one (S0 := S) (n := n) (fun p hp hpn => by rw [w]; omega) L b S S1 R le e1
    cases b with
    | true =>
      rw [if_pos rfl] at e
      cases e
      have := h1 rfl
      exact .one rfl rfl R1.rt (by rw [w]; omega)
    | false =>
      rw [if_neg (by decide)] at e
      obtain ⟨g1, g2, g3⟩ := h2 rfl
      have lA := R1.leA gd hl (s := 0) Nat.zero_lt_one le1
      have pp : (S1.pos (.at i 0) : Int) = n + (S.made i).length := by
        rcases k0 with ⟨q1, q2⟩ | ⟨q1, q2⟩
        · rw [g2 (by omega), q1]; omega
        · rw [g3 (by omega)]; exact q2
      obtain ⟨z, S3, e3, R3, F3⟩ := R1.pull gd hp hd hl (s := 0) Nat.zero_lt_one le1 (by rw [w]; omega)
      rw [e3] at e
      cases e
      have lo := F3.lo
      exact .one rfl rfl R3.rt (by rw [w]; omega)
theorem sd_window (gd : Gd C ks) (hp : Pulls C pl i) (hd : PD C pl i) {n a : Int} (hl : C.ls[i]? = some (.window n a)) (R : Rd C i S S) (le : S.pos (.at i 0) ≤ (S.made (C.tgt (.at i 0))).length) (ho : S.over i = false)
    {x : PyData} (e : stepL C pl L i S (.window n a) = some (x, S')) : SD C i (.window n a) S x S' := by
  have hn : (decide (1 ≤ n) && decide (n ≤ 9)) = true := gd.run.ct.num i _ hl
  rw [Bool.and_eq_true, decide_eq_true_eq, decide_eq_true_eq] at hn
  have hM : Wl C i = windows n.toNat (Wl C (C.tgt (.at i 0))) := Wl_one gd.run.ct hl rfl
  have lM : (Wl C i).length = (Wl C (C.tgt (.at i 0))).length + 1 - n.toNat := by rw [hM]; unfold windows; rw [List.length_map, List.length_range]
  have a0 := att0 ho
  have w : Wn C i 0 (att S i + 1) = if (Wl C i).length < att S i + 1 then (Wl C (C.tgt (.at i 0))).length + 1 else att S i + 1 + n.toNat - 1 := by
    rw [Wn_eq hl]; unfold wN; rw [if_neg (Nat.succ_ne_zero _)]
  unfold stepL at e
  dsimp only at e
  cases e1 : skipL pl i ((S.made i).length + n) L S with
  | none => rw [e1] at e; cases e
  | some r =>
    obtain ⟨b, S1⟩ := r
    rw [e1] at e
    dsimp only at e
    obtain ⟨R1, le1, h1, h2⟩ := skipL_D gd hp hd hl Nat.zero_lt_one (S0 := S) (n := (S.made i).length + n) (fun p hp hpn => by rw [w]; split <;> omega) L b S S1 R le e1
    cases b with
    | true =>
      rw [if_pos rfl] at e
      cases e
      have := h1 rfl
      exact .one rfl rfl R1.rt (by rw [w]; split <;> omega)
    | false =>
      rw [if_neg (by decide)] at e
      cases e
      obtain ⟨g1, g2, g3⟩ := h2 rfl
      have lA := R1.leA gd hl (s := 0) Nat.zero_lt_one le1
      have : (S'.made (C.tgt (.at i 0))).length ≤ att S' (C.tgt (.at i 0)) := Nat.le_add_right _ _
      exact .one rfl rfl R1.rt (by rw [w]; split <;> omega)
end
open PySem PySem.Spec PyProof.Rows L2
section
variable {C : Ct} {ks : List Kd} {S S' S0 S1 S2 : Ms} {i j s : Nat} {p : Pl} {pl : Pull} {L : Nat} {l : Ln}
/-! group -/
theorem Rd.setStr (gd : Gd C ks) (R : Rd C i S0 S1) (xs : List Int) : Rd C i S0 (S1.setStr i xs) :=
  ⟨R.glob.own rfl rfl rfl rfl rfl rfl, R.low.own rfl rfl rfl rfl (fun j hj => ⟨fset_ne (by omega), rfl, rfl⟩), R.rt.flat gd rfl rfl rfl rfl (fun j hj => ⟨rfl, rfl⟩)⟩
theorem group_w {m a : Int} (hl : C.ls[i]? = some (.group m a)) (hW : Wl C i = (groupI m ((Wl C (C.tgt (.at i 0))).map toI)).map grD) (k : Nat) :
    Wn C i 0 (k + 1) = (if (groupI m ((Wl C (C.tgt (.at i 0))).map toI)).length < k + 1 then (Wl C (C.tgt (.at i 0))).length + 1 else gSz ((groupI m ((Wl C (C.tgt (.at i 0))).map toI)).take (k + 1)) + 1) ∧ Wn C i 0 (k + 1) ≤ (Wl C (C.tgt (.at i 0))).length + 1 := by
  have w : Wn C i 0 (k + 1) = (if (groupI m ((Wl C (C.tgt (.at i 0))).map toI)).length < k + 1 then (Wl C (C.tgt (.at i 0))).length + 1 else gSz ((groupI m ((Wl C (C.tgt (.at i 0))).map toI)).take (k + 1)) + 1) := by
    rw [Wn_eq hl]; unfold wN; rw [if_neg (Nat.succ_ne_zero _)]
    dsimp only
    rw [show (Wl C i).length = (groupI m ((Wl C (C.tgt (.at i 0))).map toI)).length by rw [hW, List.length_map]]
  refine ⟨w, ?_⟩
  rw [w]
  have h1 := gSz_take (groupI m ((Wl C (C.tgt (.at i 0))).map toI)) (k + 1)
  have h2 := gSz_I m ((Wl C (C.tgt (.at i 0))).map toI)
  rw [List.length_map] at h2
  split <;> omega
theorem group_u {m a : Int} (hl : C.ls[i]? = some (.group m a)) (hW : Wl C i = (groupI m ((Wl C (C.tgt (.at i 0))).map toI)).map grD) {q : Nat} {gs : List (Int × List Int)} {xs : List Int} (hq : q ≤ (Wl C (C.tgt (.at i 0))).length) (hx : xs ≠ [])
    (h : groupI m (((Wl C (C.tgt (.at i 0))).take q).map toI) = gs ++ tailG m xs) : q + 1 ≤ Wn C i 0 (gs.length + 1) := by
  rw [(group_w hl hW gs.length).1]
  rw [tail_ne hx] at h
  obtain ⟨u, r, hr⟩ := grp_part h
  have sz := gSz_I m (((Wl C (C.tgt (.at i 0))).take q).map toI)
  rw [h, List.length_map, List.length_take, Nat.min_eq_left hq, gSz_app] at sz
  split
  · omega
  · rw [hr, List.take_append, List.take_of_length_le (by omega), Nat.add_sub_cancel_left, gSz_app]
    show q + 1 ≤ gSz gs + ((xs ++ u).length + 0) + 1
    have sz : gSz gs + (xs.length + 0) = q := sz
    rw [List.length_append]
    omega
theorem group_e {m a : Int} (hl : C.ls[i]? = some (.group m a)) (hW : Wl C i = (groupI m ((Wl C (C.tgt (.at i 0))).map toI)).map grD) {q : Nat} {z : Int} {gs : List (Int × List Int)} {xs : List Int} (hz : (Wl C (C.tgt (.at i 0)))[q]? = some (.int z)) (hx : xs ≠ []) (hne : ¬ z % m = xs.getD 0 0 % m)
    (h : groupI m (((Wl C (C.tgt (.at i 0))).take q).map toI) = gs ++ tailG m xs) : Wn C i 0 (gs.length + 1) = q + 1 := by
  have hq := getE hz
  rw [(group_w hl hW gs.length).1]
  rw [tail_ne hx] at h
  have g1 : groupI m (((Wl C (C.tgt (.at i 0))).take (q + 1)).map toI) = (gs ++ [(xs.getD 0 0 % m, xs)]) ++ [(z % m, [z])] := by
    rw [grp_take hz, h, groupS_snoc, if_neg (fun e => hne e.symm)]
  obtain ⟨u, r, hr⟩ := grp_part g1
  have sz := gSz_I m (((Wl C (C.tgt (.at i 0))).take q).map toI)
  rw [h, List.length_map, List.length_take, Nat.min_eq_left (by omega)] at sz
  rw [hr]
  rw [if_neg (by rw [List.length_append, List.length_append]; show ¬ gs.length + 1 + _ < gs.length + 1; omega)]
  rw [List.take_append, List.take_of_length_le (by rw [List.length_append]; show gs.length + 1 ≤ _; omega)]
  rw [show gs.length + 1 - (gs ++ [(xs.getD 0 0 % m, xs)]).length = 0 by rw [List.length_append]; show gs.length + 1 - (gs.length + 1) = 0; omega, List.take_zero, List.append_nil, sz]
theorem grpL_D (gd : Gd C ks) (hp : Pulls C pl i) (hd : PD C pl i) {m a : Int} (hl : C.ls[i]? = some (.group m a)) (hW : Wl C i = (groupI m ((Wl C (C.tgt (.at i 0))).map toI)).map grD) {gs : List (Int × List Int)} (hk : gs.length = att S0 i) : ∀ (L : Nat) (x y : PyData) (S1 S2 : Ms), Rd C i S0 S1 → S1.pos (.at i 0) ≤ (S1.made (C.tgt (.at i 0))).length →
    (∀ z ∈ S1.str i, z % m = (S1.str i).getD 0 0 % m) →
    ((x = .none ∧ (Wl C (C.tgt (.at i 0))).length + 1 ≤ att S1 (C.tgt (.at i 0))) ∨ ∃ q z, S1.pos (.at i 0) = q + 1 ∧ x = .int z ∧ (Wl C (C.tgt (.at i 0)))[q]? = some (.int z) ∧ groupI m (((Wl C (C.tgt (.at i 0))).take q).map toI) = gs ++ tailG m (S1.str i) ∧ (S1.str i = [] → q = 0) ∧ q + 1 ≤ att S1 (C.tgt (.at i 0))) →
    grpL pl i m L x S1 = some (y, S2) → Rd C i S0 S2 ∧ Wn C i 0 (att S0 i + 1) ≤ att S2 (C.tgt (.at i 0)) := by
  obtain ⟨ka, k', hkk, hty⟩ := gd.one hl rfl
  obtain ⟨rfl, rfl⟩ := ifnum hkk
  intro L
  induction L with
  | zero => intro x y S1 S2 _ _ _ _ e; cases e
  | succ L ih =>
    intro x y S1 S2 R le hs h e
    unfold grpL at e
    rcases h with ⟨rfl, h⟩ | ⟨q, z, h1, rfl, h2, h3, h4, h5⟩
    · rw [if_pos rfl] at e
      cases e
      exact ⟨R, Nat.le_trans (group_w hl hW _).2 h⟩
    · rw [if_neg (fun z => nomatch z)] at e
      have e := (gd_some e).2
      have hq := getE h2
      by_cases c : S1.str i = [] ∨ toI (.int z) % m = (S1.str i).getD 0 0 % m
      · rw [if_pos c] at e
        have e := (gd_some e).2
        have R2 := R.setStr gd (S1.str i ++ [z])
        have st : (S1.setStr i (S1.str i ++ [z])).str i = S1.str i ++ [z] := fset_self
        have g1 : groupI m (((Wl C (C.tgt (.at i 0))).take (q + 1)).map toI) = gs ++ tailG m (S1.str i ++ [z]) := by
          rw [grp_take h2, h3]
          by_cases e : S1.str i = []
          · rw [e]
            have q0 := h4 e
            subst q0
            have g0 : gs = [] := by
              rw [e] at h3
              have h3 : [] = gs ++ [] := h3
              rw [List.append_nil] at h3
              exact h3.symm
            subst g0
            rfl
          · have c := c.resolve_left e
            have c : z % m = (S1.str i).getD 0 0 % m := c
            rw [tail_ne e, groupS_snoc, if_pos c.symm, tail_ne (by simp)]
            congr 3
            cases h : S1.str i with
            | nil => exact absurd h e
            | cons u us => rfl
        have uu := group_u hl hW (q := q + 1) hq (by simp) g1
        rw [hk] at uu
        obtain ⟨v, S3, e3, R3, F3⟩ := R2.pull gd hp hd hl (s := 0) Nat.zero_lt_one le (by show S1.pos (.at i 0) + 1 ≤ _; rw [h1]; exact uu)
        have e3' : pl (.at i 0) (S1.setStr i (S1.str i ++ [toI (.int z)])) = some (v, S3) := e3
        rw [e3'] at e
        dsimp only at e
        have st3 : S3.str i = S1.str i ++ [z] := (F3.bel.str i (Nat.le_refl i)).trans st
        have lo : S1.pos (.at i 0) + 1 ≤ att S3 (C.tgt (.at i 0)) := F3.lo
        rw [h1] at lo
        refine ih v y S3 S2 R3 F3.le (fun u hu => ?_) ?_ e
        · rw [st3] at hu ⊢
          cases h : S1.str i with
          | nil =>
            rw [h] at hu
            rw [List.mem_singleton.mp hu]
            rfl
          | cons v vs =>
            rw [h] at hu hs c
            have c : z % m = v % m := c.resolve_left (by simp)
            rcases List.mem_append.mp hu with hu | hu
            · exact hs u hu
            · rw [List.mem_singleton.mp hu]; exact c
        · by_cases c2 : (S1.setStr i (S1.str i ++ [z])).pos (.at i 0) < (Wl C (C.tgt (.at i 0))).length
          · obtain ⟨k1, k2, k3⟩ := F3.hit c2
            have pz : (S1.setStr i (S1.str i ++ [z])).pos (.at i 0) = q + 1 := h1
            rw [pz] at k1 k3
            obtain ⟨z', rfl, hz'⟩ := (hty v (List.mem_of_getElem? k1)).int
            exact .inr ⟨q + 1, z', k3, rfl, k1, by rw [st3]; exact g1, fun e => by rw [st3] at e; simp at e, lo⟩
          · have pz : (S1.setStr i (S1.str i ++ [z])).pos (.at i 0) = q + 1 := h1
            rw [pz] at c2
            exact .inl ⟨(F3.miss (by rw [pz]; exact c2)).1, by omega⟩
      · rw [if_neg c] at e
        cases e
        refine ⟨R, ?_⟩
        rw [← hk, group_e hl hW h2 (fun z => c (.inl z)) (fun z => c (.inr z)) h3]
        exact h5
theorem sd_group (gd : Gd C ks) (hp : Pulls C pl i) (hd : PD C pl i) {m a : Int} (hl : C.ls[i]? = some (.group m a)) (R : Rd C i S S) (le : S.pos (.at i 0) ≤ (S.made (C.tgt (.at i 0))).length) (hk : LnOk C S i (.group m a)) (ho : S.over i = false)
    {x : PyData} (e : stepL C pl L i S (.group m a) = some (x, S')) : SD C i (.group m a) S x S' := by
  obtain ⟨ka, k', hkk, hty⟩ := gd.one hl rfl
  obtain ⟨rfl, rfl⟩ := ifnum hkk
  have hW : Wl C i = (groupI m ((Wl C (C.tgt (.at i 0))).map toI)).map grD := Wl_one gd.run.ct hl rfl
  obtain ⟨gs, h1, h2, h3, h4⟩ := (show ∃ gs : List (Int × List Int), S.made i = gs.map grD ∧ groupI m (((Wl C (C.tgt (.at i 0))).take (S.pos (.at i 0))).map toI) = gs ++ tailG m (S.str i) ∧ (S.str i = [] → (S.pos (.at i 0) = 0 ∧ (S.made i).length = 0) ∨ S.pos (.at i 0) = (Wl C (C.tgt (.at i 0))).length) ∧ ∀ z ∈ S.str i, z % m = (S.str i).getD 0 0 % m from hk)
  have lA := R.leA gd hl (s := 0) Nat.zero_lt_one le
  have a0 := att0 ho
  have kl : gs.length = att S i := by rw [a0, h1, List.length_map]
  have u : S.pos (.at i 0) + 1 ≤ Wn C i 0 (att S i + 1) := by
    by_cases c : S.str i = []
    · rcases h3 c with ⟨p0, k0⟩ | p0
      · rw [p0, (group_w hl hW _).1]
        split <;> omega
      · rw [c] at h2
        have h2 : groupI m (((Wl C (C.tgt (.at i 0))).take (S.pos (.at i 0))).map toI) = gs ++ [] := h2
        rw [List.append_nil, p0, List.take_length] at h2
        rw [(group_w hl hW _).1, h2, if_pos (by omega), p0]
        exact Nat.le_refl _
    · rw [← kl]
      exact group_u hl hW lA c h2
  obtain ⟨y, S1, e1, R1, F1⟩ := R.pull gd hp hd hl (s := 0) Nat.zero_lt_one le u
  unfold stepL at e
  dsimp only at e
  rw [e1] at e
  dsimp only at e
  have st : S1.str i = S.str i := F1.bel.str i (Nat.le_refl i)
  have lo := F1.lo
  cases e2 : grpL pl i m L y S1 with
  | none => rw [e2] at e; cases e
  | some r =>
    obtain ⟨v, S2⟩ := r
    rw [e2] at e
    dsimp only at e
    obtain ⟨R2, w⟩ := grpL_D gd hp hd hl hW kl L y v S1 S2 R1 F1.le (by rw [st]; exact h4) (by
      by_cases c : S.pos (.at i 0) < (Wl C (C.tgt (.at i 0))).length
      · obtain ⟨k1, k2, k3⟩ := F1.hit c
        obtain ⟨z, rfl, hz⟩ := (hty y (List.mem_of_getElem? k1)).int
        refine .inr ⟨S.pos (.at i 0), z, k3, rfl, k1, by rw [st]; exact h2, fun e => ?_, lo⟩
        rw [st] at e
        rcases h3 e with h | h
        · exact h.1
        · omega
      · exact .inl ⟨(F1.miss c).1, by omega⟩) e2
    cases e
    exact .one rfl rfl (R2.setStr gd _).rt w
/-! lines of two -/
theorem sd_chain (gd : Gd C ks) (hp : Pulls C pl i) (hd : PD C pl i) {a b : Int} (hl : C.ls[i]? = some (.chain a b)) (R : Rd C i S S) (own : ∀ s, s < 2 → S.pos (.at i s) ≤ (S.made (C.tgt (.at i s))).length) (hk : LnOk C S i (.chain a b)) (ho : S.over i = false)
    {x : PyData} (e : stepL C pl L i S (.chain a b) = some (x, S')) : SD C i (.chain a b) S x S' := by
  have hk : (S.pos (.at i 0) = (S.made i).length ∧ S.pos (.at i 1) = 0 ∧ (S.made i).length ≤ (Wl C (C.tgt (.at i 0))).length) ∨ (S.pos (.at i 0) = (Wl C (C.tgt (.at i 0))).length ∧ (S.made i).length = (Wl C (C.tgt (.at i 0))).length + S.pos (.at i 1)) := hk
  have a0 := att0 ho
  have lA := R.leA gd hl (s := 0) (Nat.zero_lt_succ 1) (own 0 (by decide))
  have w0 : Wn C i 0 (att S i + 1) = min (att S i + 1) ((Wl C (C.tgt (.at i 0))).length + 1) := by
    rw [Wn_eq hl]; unfold wN; rw [if_neg (Nat.succ_ne_zero _)]; exact if_pos rfl
  have w1 : Wn C i 1 (att S i + 1) = att S i + 1 - (Wl C (C.tgt (.at i 0))).length := by
    rw [Wn_eq hl]; unfold wN; rw [if_neg (Nat.succ_ne_zero _)]; exact if_neg (by decide)
  obtain ⟨y, S1, e1, R1, F1⟩ := R.pull gd hp hd hl (s := 0) (Nat.zero_lt_succ 1) (own 0 (by decide)) (by rw [w0]; omega)
  unfold stepL at e
  dsimp only at e
  rw [e1] at e
  dsimp only at e
  have lo := F1.lo
  have p1 := F1.oth 1 (by decide)
  by_cases c : S.pos (.at i 0) < (Wl C (C.tgt (.at i 0))).length
  · rw [if_neg (F1.hit c).2.1] at e
    cases e
    exact .two rfl R1.rt (by rw [w0]; omega) (by rw [w1]; omega) (fun h => nomatch h)
  · rw [if_pos (F1.miss c).1] at e
    have le1 : S1.pos (.at i 1) ≤ (S1.made (C.tgt (.at i 1))).length := by rw [p1]; exact Nat.le_trans (own 1 (by decide)) (F1.bel.len _)
    obtain ⟨z, S2, e2, R2, F2⟩ := R1.pull gd hp hd hl (s := 1) (Nat.lt_succ_self 1) le1 (by rw [w1, p1]; omega)
    rw [e2] at e
    cases e
    have lo2 := F2.lo
    have mo := R2.rt.mono (C.tgt (.at i 0))
    have lo1 : S.pos (.at i 0) + 1 ≤ att S' (C.tgt (.at i 0)) := by
      have h := (show Rd C i S1 S' from by
        obtain ⟨z', S2', e2', R2', F2'⟩ := (Rd.refl R1.glob R1.low R1.rt.dl).pull gd hp hd hl (s := 1) (Nat.lt_succ_self 1) le1 (by rw [R1.rt.up i (Nat.le_refl i), w1, p1]; omega)
        rw [e2] at e2'
        cases e2'
        exact R2').rt.mono (C.tgt (.at i 0))
      omega
    exact .two rfl R2.rt (by rw [w0]; omega) (by rw [w1, ]; omega) (fun h => nomatch h)
theorem Rd.setH (gd : Gd C ks) (R : Rd C i S0 S1) (s : Nat) (d : PyData) : Rd C i S0 (S1.setH i s d) := by
  obtain ⟨a1, a2, a3, a4, a5, a6, a7, a8, a9, a10⟩ := setH_flat S1 i s d
  obtain ⟨g, low, _⟩ := setH_own S1 i s d R.glob R.low
  exact ⟨g, low, R.rt.flat gd a1 a2 a7 a3 (fun j hj => a10 j (by omega))⟩
theorem Rd.setHH (gd : Gd C ks) (R : Rd C i S0 S1) : Rd C i S0 (S1.setHH i) :=
  ⟨R.glob.own rfl rfl rfl rfl rfl rfl, R.low.own rfl rfl rfl rfl (fun j hj => ⟨rfl, fset_ne (by omega), fset_ne (by omega)⟩), R.rt.flat gd rfl rfl rfl rfl (fun j hj => ⟨fset_ne (by omega), fset_ne (by omega)⟩)⟩
/-- what is held of a side, after it has been seen to -/
theorem hold_D (gd : Gd C ks) (hp : Pulls C pl i) (hd : PD C pl i) (hl : C.ls[i]? = some l) {s : Nat} (hs : s < l.names.length) (s1 : s ≤ 1) (R : Rd C i S0 S1) (le : S1.pos (.at i s) ≤ (S1.made (C.tgt (.at i s))).length) {g : Nat} (hg : g ≤ (Wl C (C.tgt (.at i s))).length)
    (hpos : S1.pos (.at i s) = g + (if S1.hd i s = .none then 0 else 1)) (hval : S1.hd i s ≠ .none → (Wl C (C.tgt (.at i s)))[g]? = some (S1.hd i s)) (u : g + 1 ≤ Wn C i s (att S0 i + 1)) {x : PyData} (e : holdM pl i s S1 = some (x, S2)) :
    Rd C i S0 S2 ∧ S2.pos (.at i s) ≤ (S2.made (C.tgt (.at i s))).length ∧ S2.hd i s = x ∧ (∀ t, t ≠ s → S2.pos (.at i t) = S1.pos (.at i t)) ∧ (∀ t, t ≤ 1 → t ≠ s → S2.hd i t = S1.hd i t) ∧ S2.pos (.at i s) = g + (if x = .none then 0 else 1) ∧
      (x ≠ .none → (Wl C (C.tgt (.at i s)))[g]? = some x) ∧ (x = .none → g = (Wl C (C.tgt (.at i s))).length) ∧ g + 1 ≤ att S2 (C.tgt (.at i s)) ∧ S2.made i = S1.made i ∧ (∀ j, (S1.made j).length ≤ (S2.made j).length) ∧ ∀ j, att S1 j ≤ att S2 j := by
  unfold holdM at e
  by_cases c : S1.hd i s = .none
  · rw [if_pos c] at e
    rw [if_pos c, Nat.add_zero] at hpos
    obtain ⟨y, S3, e3, R3, F3⟩ := R.pull gd hp hd hl hs le (by rw [hpos]; exact u)
    have R3' : Rd C i S1 S3 := by
      obtain ⟨y', S3', e3', R3', F3'⟩ := (Rd.refl R.glob R.low R.rt.dl).pull gd hp hd hl hs le (by rw [hpos, R.rt.up i (Nat.le_refl i)]; exact u)
      rw [e3] at e3'
      cases e3'
      exact R3'
    rw [e3] at e
    cases e
    obtain ⟨a1, a2, a3, a4, a5, a6, a7, a8, a9, a10⟩ := setH_flat S3 i s x
    have lo := F3.lo
    rw [hpos] at lo
    have at' : ∀ j, att (S3.setH i s x) j = att S3 j := fun j => att_of (by rw [a1]) (by rw [a2])
    refine ⟨R3.setH gd s x, by rw [a7, a1]; exact F3.le, ?_, fun t ht => by rw [a7]; exact F3.oth t ht, fun t t1 ht => ?_, ?_, ?_, ?_, by rw [at']; exact lo, by rw [a1]; exact F3.bel.made i (Nat.le_refl i), fun j => by rw [a1]; exact F3.bel.len j, fun j => by rw [at']; exact R3'.rt.mono j⟩
    · unfold Ms.hd
      match s, s1 with
      | 0, _ => exact (setH0 S3 i x).1
      | 1, _ => exact (setH1 S3 i x).2
    · unfold Ms.hd
      match s, s1, t, t1, ht with
      | 0, _, 1, _, _ => exact (setH0 S3 i x).2.trans (F3.bel.h1 i (Nat.le_refl i))
      | 1, _, 0, _, _ => exact (setH1 S3 i x).1.trans (F3.bel.h0 i (Nat.le_refl i))
      | 0, _, 0, _, h => exact absurd rfl h
      | 1, _, 1, _, h => exact absurd rfl h
    · rw [a7]
      by_cases c2 : S1.pos (.at i s) < (Wl C (C.tgt (.at i s))).length
      · obtain ⟨g1, g2, g3⟩ := F3.hit c2
        rw [if_neg g2, g3, hpos]
      · obtain ⟨g1, g2⟩ := F3.miss c2
        rw [if_pos g1, g2, hpos]; rfl
    · intro hx
      by_cases c2 : S1.pos (.at i s) < (Wl C (C.tgt (.at i s))).length
      · have := (F3.hit c2).1
        rw [hpos] at this
        exact this
      · exact absurd (F3.miss c2).1 hx
    · intro hx
      by_cases c2 : S1.pos (.at i s) < (Wl C (C.tgt (.at i s))).length
      · exact absurd hx (F3.hit c2).2.1
      · omega
  · rw [if_neg c] at e
    rw [if_neg c] at hpos
    cases e
    refine ⟨R, le, rfl, fun _ _ => rfl, fun _ _ _ => rfl, by rw [if_neg c]; exact hpos, hval, fun h => absurd h c, ?_, rfl, fun _ => Nat.le_refl _, fun _ => Nat.le_refl _⟩
    have : (S1.made (C.tgt (.at i s))).length ≤ att S1 (C.tgt (.at i s)) := Nat.le_add_right _ _
    omega
theorem sd_pair (gd : Gd C ks) (hp : Pulls C pl i) (hd : PD C pl i) {a b : Int} (hl : C.ls[i]? = some (.pair a b)) (R : Rd C i S S) (own : ∀ s, s < 2 → S.pos (.at i s) ≤ (S.made (C.tgt (.at i s))).length) (hk : LnOk C S i (.pair a b)) (ho : S.over i = false)
    (dw : Wn C i 1 (att S i) ≤ att S (C.tgt (.at i 1))) {x : PyData} (e : stepL C pl L i S (.pair a b) = some (x, S')) : SD C i (.pair a b) S x S' := by
  obtain ⟨n0, n1, k0, k1⟩ := (show S.h0 i = .none ∧ S.h1 i = .none ∧ S.pos (.at i 0) = (S.made i).length ∧ S.pos (.at i 1) = (S.made i).length from hk)
  have a0 := att0 ho
  have lA := R.leA gd hl (s := 0) (Nat.zero_lt_succ 1) (own 0 (by decide))
  have w0 : ∀ m, Wn C i 0 (m + 1) = m + 1 := fun m => by
    rw [Wn_eq hl]; unfold wN; rw [if_neg (Nat.succ_ne_zero _)]; exact if_pos rfl
  have w1 : ∀ m, Wn C i 1 (m + 1) = m + 1 - (if (Wl C (C.tgt (.at i 0))).length < m + 1 then 1 else 0) := fun m => by
    rw [Wn_eq hl]; unfold wN; rw [if_neg (Nat.succ_ne_zero _)]; exact if_neg (by decide)
  unfold stepL at e
  dsimp only at e
  cases e1 : holdM pl i 0 S with
  | none => rw [e1] at e; cases e
  | some r =>
    obtain ⟨y, S1⟩ := r
    rw [e1] at e
    dsimp only at e
    obtain ⟨R1, le1, v1, o1, oh1, p1, g1, z1, lo1, m1, len1, mo1⟩ := hold_D gd hp hd hl (s := 0) (Nat.zero_lt_succ 1) (Nat.zero_le 1) R (own 0 (by decide)) (g := att S i) (by rw [a0]; omega) (by rw [show S.hd i 0 = .none from n0, if_pos rfl, k0, a0]; rfl) (fun h => absurd n0 h) (by rw [w0]; exact Nat.le_refl _) e1
    by_cases c : y = .none
    · rw [if_pos c] at e
      cases e
      have zz := z1 c
      refine .two rfl R1.rt (by rw [w0]; exact lo1) ?_ (fun h => nomatch h)
      rw [w1, if_pos (by omega)]
      have mo := R1.rt.mono (C.tgt (.at i 1))
      cases hm : att S i with
      | zero => omega
      | succ m =>
        rw [hm, w1] at dw
        rw [if_neg (by omega)] at dw
        omega
    · rw [if_neg c] at e
      have hlt := getE (g1 c)
      cases e2 : holdM pl i 1 S1 with
      | none => rw [e2] at e; cases e
      | some r =>
        obtain ⟨z, S2⟩ := r
        rw [e2] at e
        dsimp only at e
        have hh : S1.hd i 1 = .none := (oh1 1 (Nat.le_refl 1) (by decide)).trans n1
        have pp := o1 1 (by decide)
        have le2 : S1.pos (.at i 1) ≤ (S1.made (C.tgt (.at i 1))).length := by rw [pp]; exact Nat.le_trans (own 1 (by decide)) (len1 _)
        have lB := R1.leA gd hl (s := 1) (Nat.lt_succ_self 1) le2
        obtain ⟨R2, _, _, _, _, _, _, _, lo2, _, _, mo2⟩ := hold_D gd hp hd hl (s := 1) (Nat.lt_succ_self 1) (Nat.le_refl 1) R1 le2 (g := att S i) (by omega) (by rw [hh, if_pos rfl, pp, k1, a0]; rfl) (fun h => absurd hh h) (by rw [w1, if_neg (by omega)]; exact Nat.le_refl _) e2
        have lo1' := Nat.le_trans lo1 (mo2 (C.tgt (.at i 0)))
        by_cases c2 : z = .none
        · rw [if_pos c2] at e
          cases e
          exact .two rfl R2.rt (by rw [w0]; exact lo1') (by rw [w1, if_neg (by omega)]; exact lo2) (fun h => nomatch h)
        · rw [if_neg c2] at e
          cases e
          exact .two rfl (R2.setHH gd).rt (by rw [w0]; exact lo1') (by rw [w1, if_neg (by omega)]; exact lo2) (fun h => nomatch h)
theorem sd_merge (gd : Gd C ks) (hp : Pulls C pl i) (hd : PD C pl i) {a b : Int} (hl : C.ls[i]? = some (.merge a b)) (R : Rd C i S S) (own : ∀ s, s < 2 → S.pos (.at i s) ≤ (S.made (C.tgt (.at i s))).length) (ho : S.over i = false) (mx : Mx C S i)
    {x : PyData} (e : stepL C pl L i S (.merge a b) = some (x, S')) : SD C i (.merge a b) S x S' := by
  have a0 := att0 ho
  have hi := (List.getElem?_eq_some_iff.mp hl).1
  have hW : Wl C i = (mergeI ((Wl C (C.tgt (.at i 0))).map toI) ((Wl C (C.tgt (.at i 1))).map toI)).map PyData.int := Wl_two gd.run.ct hl rfl
  have ml : (S.made i).length ≤ (Wl C (C.tgt (.at i 0))).length + (Wl C (C.tgt (.at i 1))).length := by
    have h := (R.glob.pre i hi).2
    have : ∀ xs ys : List Int, (mergeI xs ys).length = xs.length + ys.length := fun xs ys => by
      induction xs, ys using mergeI.induct with
      | case1 bs => simp [mergeI]
      | case2 a as => simp [mergeI]
      | case3 a as b bs h ih => rw [mergeI, if_pos h, List.length_cons, ih]; simp only [List.length_cons]; omega
      | case4 a as b bs h ih => rw [mergeI, if_neg h, List.length_cons, ih]; simp only [List.length_cons]; omega
    rw [hW, List.length_map, this, List.length_map, List.length_map] at h
    exact h
  obtain ⟨_, gA, gB⟩ := posN_ok ((Wl C (C.tgt (.at i 0))).map toI) ((Wl C (C.tgt (.at i 1))).map toI) (S.made i).length (by rw [List.length_map, List.length_map]; exact ml)
  rw [List.length_map] at gA gB
  obtain ⟨⟨q0, v0⟩, q1, v1⟩ := mx
  have w0 : Wn C i 0 (att S i + 1) = (posN ((Wl C (C.tgt (.at i 0))).map toI) ((Wl C (C.tgt (.at i 1))).map toI) (S.made i).length).1 + 1 := by
    rw [Wn_eq hl]; unfold wN; rw [if_neg (Nat.succ_ne_zero _), a0]; exact if_pos rfl
  have w1 : Wn C i 1 (att S i + 1) = (posN ((Wl C (C.tgt (.at i 0))).map toI) ((Wl C (C.tgt (.at i 1))).map toI) (S.made i).length).2 + 1 := by
    rw [Wn_eq hl]; unfold wN; rw [if_neg (Nat.succ_ne_zero _), a0]; exact if_neg (by decide)
  have gS : posN ((Wl C (C.tgt (.at i 0))).map toI) ((Wl C (C.tgt (.at i 1))).map toI) ((S.made i).length + 1) = posS ((Wl C (C.tgt (.at i 0))).map toI) ((Wl C (C.tgt (.at i 1))).map toI) (posN ((Wl C (C.tgt (.at i 0))).map toI) ((Wl C (C.tgt (.at i 1))).map toI) (S.made i).length) := rfl
  generalize posN ((Wl C (C.tgt (.at i 0))).map toI) ((Wl C (C.tgt (.at i 1))).map toI) (S.made i).length = g at gA gB q0 v0 q1 v1 w0 w1 gS
  unfold stepL at e
  dsimp only at e
  cases e1 : holdM pl i 0 S with
  | none => rw [e1] at e; cases e
  | some r =>
    obtain ⟨y, S1⟩ := r
    rw [e1] at e
    dsimp only at e
    obtain ⟨R1, le1, x1, o1, oh1, p1, g1, z1, lo1, m1, len1, mo1⟩ := hold_D gd hp hd hl (s := 0) (Nat.zero_lt_succ 1) (Nat.zero_le 1) R (own 0 (by decide)) (g := g.1) gA q0 v0 (by rw [w0]; exact Nat.le_refl _) e1
    cases e2 : holdM pl i 1 S1 with
    | none => rw [e2] at e; cases e
    | some r =>
      obtain ⟨z, S2⟩ := r
      rw [e2] at e
      dsimp only at e
      have hh : S1.hd i 1 = S.hd i 1 := oh1 1 (Nat.le_refl 1) (by decide)
      have pp := o1 1 (by decide)
      have le2 : S1.pos (.at i 1) ≤ (S1.made (C.tgt (.at i 1))).length := by rw [pp]; exact Nat.le_trans (own 1 (by decide)) (len1 _)
      obtain ⟨R2, le2', x2, o2, oh2, p2, g2, z2, lo2, m2, len2, mo2⟩ := hold_D gd hp hd hl (s := 1) (Nat.lt_succ_self 1) (Nat.le_refl 1) R1 le2 (g := g.2) gB (by rw [pp, hh]; exact q1) (by rw [hh]; exact v1) (by rw [w1]; exact Nat.le_refl _) e2
      have lo1' := Nat.le_trans lo1 (mo2 (C.tgt (.at i 0)))
      have e := (gd_some e).2
      have y2 : S2.h0 i = y := by
        have := oh2 0 (Nat.zero_le 1) (by decide)
        exact (show S2.hd i 0 = _ from this).trans x1
      have z2' : S2.h1 i = z := x2
      have pA : S2.pos (.at i 0) = g.1 + (if y = .none then 0 else 1) := by rw [o2 0 (by decide), p1]
      have mm : S2.made i = S.made i := m2.trans m1
      obtain ⟨ka, kb, k', hkk, tA, tB⟩ := gd.two' hl rfl
      have tI : ∀ {s : Nat} {g : Nat} {x : PyData}, (Wl C (C.tgt (.at i s)))[g]? = some x → ((Wl C (C.tgt (.at i s))).map toI).getD g 0 = toI x := fun h => by
        rw [List.getD_eq_getElem?_getD, List.getElem?_map, h]; rfl
      by_cases c : y = .none ∨ (z ≠ .none ∧ toI z < toI y)
      · rw [if_pos c] at e
        cases e
        obtain ⟨f1, f2, f3, f4, f5, f6, f7, f8, f9, f10⟩ := setH_flat S2 i 1 .none
        have at' : ∀ j, att (S2.setH i 1 .none) j = att S2 j := fun j => att_of (by rw [f1]) (by rw [f2])
        refine .two rfl (R2.setH gd 1 .none).rt (by rw [w0, at']; exact lo1') (by rw [w1, at']; exact lo2) (fun _ hx => ?_)
        have hB := getE (g2 hx)
        have np : posS ((Wl C (C.tgt (.at i 0))).map toI) ((Wl C (C.tgt (.at i 1))).map toI) g = (g.1, g.2 + 1) := by
          unfold posS
          rw [if_neg]
          rw [List.length_map, List.length_map]
          rintro (h | ⟨h1, h2⟩)
          · omega
          · rcases c with c | ⟨_, c⟩
            · have := z1 c; omega
            · have hy : y ≠ .none := fun hy => by have := z1 hy; omega
              rw [tI (g1 hy), tI (g2 hx)] at h2
              omega
        unfold Mx
        dsimp only
        have mk : ((S2.setH i 1 .none).push i x).made i = S.made i ++ [x] := by rw [pushed, f1, mm]
        rw [mk, List.length_append]
        show ((S2.setH i 1 .none).pos (.at i 0) = (posN _ _ ((S.made i).length + 1)).1 + (if (S2.setH i 1 .none).h0 i = .none then 0 else 1) ∧ ((S2.setH i 1 .none).h0 i ≠ .none → (Wl C (C.tgt (.at i 0)))[(posN _ _ ((S.made i).length + 1)).1]? = some ((S2.setH i 1 .none).h0 i))) ∧
          (S2.setH i 1 .none).pos (.at i 1) = (posN _ _ ((S.made i).length + 1)).2 + (if (S2.setH i 1 .none).h1 i = .none then 0 else 1) ∧ ((S2.setH i 1 .none).h1 i ≠ .none → (Wl C (C.tgt (.at i 1)))[(posN _ _ ((S.made i).length + 1)).2]? = some ((S2.setH i 1 .none).h1 i))
        obtain ⟨s0, s1⟩ := setH1 S2 i .none
        rw [gS, np, s0, s1, f7, y2]
        refine ⟨⟨pA, g1⟩, ?_, fun h => absurd rfl h⟩
        rw [p2, if_neg hx, if_pos rfl]
      · rw [if_neg c] at e
        cases e
        obtain ⟨f1, f2, f3, f4, f5, f6, f7, f8, f9, f10⟩ := setH_flat S2 i 0 .none
        have at' : ∀ j, att (S2.setH i 0 .none) j = att S2 j := fun j => att_of (by rw [f1]) (by rw [f2])
        refine .two rfl (R2.setH gd 0 .none).rt (by rw [w0, at']; exact lo1') (by rw [w1, at']; exact lo2) (fun _ hx => ?_)
        have hA := getE (g1 hx)
        have np : posS ((Wl C (C.tgt (.at i 0))).map toI) ((Wl C (C.tgt (.at i 1))).map toI) g = (g.1 + 1, g.2) := by
          unfold posS
          rw [if_pos]
          rw [List.length_map, List.length_map]
          by_cases hz : z = .none
          · exact .inl (z2 hz)
          · refine .inr ⟨hA, ?_⟩
            rw [tI (g1 hx), tI (g2 hz)]
            have h3 : ¬ toI z < toI x := fun h => c (.inr ⟨hz, h⟩)
            omega
        unfold Mx
        dsimp only
        have mk : ((S2.setH i 0 .none).push i x).made i = S.made i ++ [x] := by rw [pushed, f1, mm]
        rw [mk, List.length_append]
        show ((S2.setH i 0 .none).pos (.at i 0) = (posN _ _ ((S.made i).length + 1)).1 + (if (S2.setH i 0 .none).h0 i = .none then 0 else 1) ∧ ((S2.setH i 0 .none).h0 i ≠ .none → (Wl C (C.tgt (.at i 0)))[(posN _ _ ((S.made i).length + 1)).1]? = some ((S2.setH i 0 .none).h0 i))) ∧
          (S2.setH i 0 .none).pos (.at i 1) = (posN _ _ ((S.made i).length + 1)).2 + (if (S2.setH i 0 .none).h1 i = .none then 0 else 1) ∧ ((S2.setH i 0 .none).h1 i ≠ .none → (Wl C (C.tgt (.at i 1)))[(posN _ _ ((S.made i).length + 1)).2]? = some ((S2.setH i 0 .none).h1 i))
        obtain ⟨s0, s1⟩ := setH0 S2 i .none
        rw [gS, np, s0, s1, f7, z2']
        refine ⟨⟨?_, fun h => absurd rfl h⟩, p2, g2⟩
        rw [pA, if_neg hx, if_pos rfl]
end
open PySem PySem.Spec PyProof.Rows L2
section
variable {C : Ct} {ks : List Kd} {S S' S0 S1 S2 : Ms} {i j s : Nat} {p : Pl} {pl : Pull} {L : Nat} {l : Ln}
theorem sd_ok (gd : Gd C ks) (hp : Pulls C pl i) (hd : PD C pl i) (hl : C.ls[i]? = some l) (hs : isSrc l = false) (R : Rd C i S S) (own : ∀ s, s < l.names.length → S.pos (.at i s) ≤ (S.made (C.tgt (.at i s))).length) (hk : LnOk C S i l) (ho : S.over i = false)
    (dw : ∀ s, s < l.names.length → Wn C i s (att S i) ≤ att S (C.tgt (.at i s))) (mx : isMg l = true → Mx C S i) {x : PyData} (e : stepL C pl L i S l = some (x, S')) : SD C i l S x S' := by
  cases l with
  | source k => cases hs
  | map ds a => exact sd_map gd hp hd hl R (own 0 Nat.zero_lt_one) hk ho e
  | keep ts a => exact sd_keep gd hp hd hl R (own 0 Nat.zero_lt_one) hk ho e
  | whil ts a => exact sd_whil gd hp hd hl R (own 0 Nat.zero_lt_one) hk ho e
  | take n a => exact sd_take gd hp hd hl R (own 0 Nat.zero_lt_one) hk ho (dw 0 Nat.zero_lt_one) e
  | skip n a => exact sd_skip gd hp hd hl R (own 0 Nat.zero_lt_one) hk ho e
  | group m a => exact sd_group gd hp hd hl R (own 0 Nat.zero_lt_one) hk ho e
  | window n a => exact sd_window gd hp hd hl R (own 0 Nat.zero_lt_one) ho e
  | fold f n a => exact sd_fold gd hp hd hl R (own 0 Nat.zero_lt_one) hk ho e
  | chain a b => exact sd_chain gd hp hd hl R own hk ho e
  | pair a b => exact sd_pair gd hp hd hl R own hk ho (dw 1 (Nat.lt_succ_self 1)) e
  | merge a b => exact sd_merge gd hp hd hl R own ho (mx rfl) e
/-- what making leaves -/
structure MD (C : Ct) (i : Nat) (S S' : Ms) : Prop where
  dl : Dl C S' (i + 1)
  mono : ∀ j, att S j ≤ att S' j
  j : ∀ q X, (∀ j, X j = true → i < j) → Ju C q X S i ((S.made i).length + 1) → J C q X S → J C q X S'
  lo : (S.made i).length + 1 ≤ att S' i
  ac : AC C S → AC C S'
/-- the end of a making: S the beginning, S1 behind the step, T the end -/
theorem md_end (gd : Gd C ks) (hl : C.ls[i]? = some l) {T : Ms} (ho : S.over i = false) (a1 : att S1 i = att S i) (dl : Dl C S1 i) (mono : ∀ j, att S j ≤ att S1 j) (hj : ∀ q X, X i = true → (∀ j, X j = true → i ≤ j) → J C q X S → J C q X S1)
    (want : ∀ s, s < l.names.length → Wn C i s (att S i + 1) ≤ att S1 (C.tgt (.at i s))) (mx : isMg l = true → T.over i = false → Mx C T i) (ac : AC C S → ∀ k : Int, (∀ i', i' ≠ i → C.ls[i']? = some (.source k) → S1.asks.count k = att S1 i') ∧ (l = .source k → S1.asks.count k = att S i + 1) ∧ ((∀ i : Nat, C.ls[i]? ≠ some (.source k)) → S1.asks.count k = 0))
    (tm : ∀ j, j ≠ i → T.made j = S1.made j) (tv : ∀ j, j ≠ i → T.over j = S1.over j) (ti : att T i = att S i + 1) (tp : T.pos = S1.pos) (t0 : T.h0 = S1.h0) (t1 : T.h1 = S1.h1) (ta : T.asks = S1.asks) : MD C i S T := by
  have at' : ∀ j, j ≠ i → att T j = att S1 j := fun j hj => att_of (tm j hj) (tv j hj)
  have up : ∀ j, att S j ≤ att T j := fun j => by
    by_cases e : j = i
    · subst e; omega
    · rw [at' j e]; exact mono j
  refine ⟨fun j l' hj' hl' => ?_, up, fun q X hX hu h => ?_, by rw [ti, att0 ho]; exact Nat.le_refl _, fun h k => ?_⟩
  · by_cases e : j = i
    · subst e
      rw [hl] at hl'
      cases hl'
      refine ⟨fun s hs => ?_, mx⟩
      have ht := gd.run.ct.tgt hl hs
      rw [ti, at' _ (by omega)]
      exact want s hs
    · obtain ⟨h1, h2⟩ := dl j l' (by omega) hl'
      refine ⟨fun s hs => ?_, fun hm h => (h2 hm (by rw [← tv j e]; exact h)).same (tm j e) (by rw [t0]) (by rw [t1]) (by rw [tp]) (by rw [tp])⟩
      have ht := gd.run.ct.tgt hl' hs
      rw [at' j e, at' _ (by omega)]
      exact h1 s hs
  · have Xi : X i = false := by
      cases c : X i with
      | false => rfl
      | true => exact absurd (hX i c) (Nat.lt_irrefl i)
    have h1 := hj q (fun j => X j || decide (j = i)) (by simp) (fun j h => by
      rcases Bool.or_eq_true_iff.mp h with h | h
      · exact Nat.le_of_lt (hX j h)
      · rw [of_decide_eq_true h]; exact Nat.le_refl _) (fun j hj => (h j hj).mono gd fun m => Nat.add_le_add_left (b2n_mono fun h => by rw [h]; rfl) _)
    intro j hjn
    by_cases e : j = i
    · subst e
      rw [ti, att0 ho]
      exact hu.mono gd fun m => Nat.add_le_add_right (up m) _
    · rw [at' j e]
      refine (h1 j hjn).mono gd fun m => ?_
      by_cases em : m = i
      · subst em
        rw [a1, ti, Xi]
        show _ + b2n (false || decide (m = m)) ≤ _ + 0
        rw [decide_eq_true rfl]
        exact Nat.le_refl _
      · rw [at' m em]
        show _ + b2n (X m || decide (m = i)) ≤ _
        rw [decide_eq_false em, Bool.or_false]
        exact Nat.le_refl _
  · obtain ⟨c1, c2, c3⟩ := ac h k
    rw [ta]
    refine ⟨fun i' hi' => ?_, c3⟩
    by_cases e : i' = i
    · subst e
      rw [hl] at hi'
      rw [c2 (Option.some.inj hi'), ti]
    · rw [at' i' e]
      exact c1 i' e hi'
theorem make_D (gd : Gd C ks) (hp : Pulls C pl i) (hd : PD C pl i) (hL : 60000 ≤ L) (hi : i < C.ls.length) (low : Low C S (i + 1)) (g : Glob C S) (dl : Dl C S (i + 1)) (e : makeM C pl L 25 i S = some S') : MD C i S S' := by
  have hl : C.ls[i]? = some C.ls[i] := List.getElem?_eq_getElem hi
  generalize C.ls[i] = l at hl
  obtain ⟨lk, own⟩ := low i l (Nat.lt_succ_self i) hl
  have low0 : Low C S i := fun j l hj h => low j l (Nat.lt_succ_of_lt hj) h
  have dl0 : Dl C S i := fun j l hj h => dl j l (Nat.lt_succ_of_lt hj) h
  obtain ⟨dw, dm⟩ := dl i l (Nat.lt_succ_self i) hl
  unfold makeM at e
  cases ho : S.over i with
  | true =>
    rw [ho, if_pos rfl] at e
    cases e
    refine ⟨dl, fun _ => Nat.le_refl _, fun _ _ _ _ h => h, ?_, fun h => h⟩
    unfold att
    rw [ho]
    exact Nat.le_refl _
  | false =>
    rw [ho, if_neg (by decide)] at e
    obtain ⟨x, S1, e1, R⟩ := step_ok gd hp hL hl low0 g own (lk ho)
    unfold stepM at e
    rw [hl] at e
    dsimp only at e
    rw [e1] at e
    dsimp only at e
    have mi := R.made i (Nat.le_refl i)
    have oi := R.over i (Nat.le_refl i)
    have a1 : att S1 i = att S i := att_of mi oi
    rw [ho] at oi
    -- what the step left, of whatever word
    obtain ⟨f1, f2, f3, f4, f5, f6⟩ : Dl C S1 i ∧ (∀ j, att S j ≤ att S1 j) ∧ (∀ q X, X i = true → (∀ j, X j = true → i ≤ j) → J C q X S → J C q X S1) ∧ (∀ s, s < l.names.length → Wn C i s (att S i + 1) ≤ att S1 (C.tgt (.at i s))) ∧ (isMg l = true → x ≠ .none → Mx C (S1.push i x) i) ∧
        (AC C S → ∀ k : Int, (∀ i', i' ≠ i → C.ls[i']? = some (.source k) → S1.asks.count k = att S1 i') ∧ (l = .source k → S1.asks.count k = att S i + 1) ∧ ((∀ i : Nat, C.ls[i]? ≠ some (.source k)) → S1.asks.count k = 0)) := by
      cases hs : isSrc l with
      | false =>
        have D := sd_ok gd hp hd hl hs (Rd.refl g low0 dl0) own (lk ho) ho dw (fun h => dm h ho) e1
        refine ⟨D.rt.dl, D.rt.mono, D.rt.j, D.want, D.mx, fun h k => ?_⟩
        obtain ⟨h1, h2⟩ := D.rt.ac h k
        exact ⟨fun i' _ hi' => h1 i' hi', fun z => (by subst z; cases hs), h2⟩
      | true =>
        cases l with
        | source k =>
          have e1 : askM C k S = some (x, S1) := e1
          unfold askM at e1
          dsimp only at e1
          have e2 := (gd_some e1).2
          have sm : S1.made = S.made ∧ S1.over = S.over ∧ S1.pos = S.pos ∧ S1.h0 = S.h0 ∧ S1.h1 = S.h1 ∧ S1.asks = S.asks ++ [k] := by
            split at e2 <;> cases e2 <;> exact ⟨rfl, rfl, rfl, rfl, rfl, rfl⟩
          obtain ⟨s1, s2, s3, s4, s5, s6⟩ := sm
          have at' : ∀ j, att S1 j = att S j := fun j => att_of (by rw [s1]) (by rw [s2])
          refine ⟨dl0.flat s1 s2 s3 (fun j _ => ⟨by rw [s4], by rw [s5]⟩), fun j => by rw [at']; exact Nat.le_refl _, fun q X _ _ h => h.flat gd s1 s2, fun s hs' => absurd hs' (Nat.not_lt_zero _), (fun h => nomatch h), fun h k' => ?_⟩
          obtain ⟨h1, h2⟩ := h k'
          rw [s6, List.count_append]
          refine ⟨fun i' hne hi' => ?_, fun z => ?_, fun hn => ?_⟩
          · have kk : k ≠ k' := fun z => by
              subst z
              exact hne (gd.uniq hi' hl)
            rw [h1 i' hi', at', List.count_singleton, if_neg (by simpa using kk), Nat.add_zero]
          · cases z
            rw [h1 i hl, List.count_singleton, if_pos (by simp)]
          · have kk : k ≠ k' := fun z => by
              subst z
              exact hn i hl
            rw [h2 hn, List.count_singleton, if_neg (by simpa using kk)]
        | _ => cases hs
    by_cases c : x = .none
    · rw [if_pos c] at e
      obtain ⟨S2, e2, lg⟩ := letGo_ok gd.run.ct gd.run.n1 25 i (S1.setOver i) (by have := gd.l24; omega) hi (by
        show S1.left.length ≤ TL C S1 + C.lists.length
        exact R.glob.left)
      rw [e2] at e
      cases e
      have sm := lg.sam
      refine md_end gd hl ho a1 f1 f2 f3 f4 (fun _ h => ?_) f6 (fun j hj => by rw [sm.made]; rfl) (fun j hj => by rw [sm.over]; exact fset_ne hj) ?_ sm.pos sm.h0 sm.h1 sm.asks
      · rw [sm.over] at h
        have h : (fset S1.over i true) i = false := h
        rw [fset_self] at h
        cases h
      · unfold att
        rw [sm.made, sm.over, ho]
        show (S1.made i).length + b2n ((fset S1.over i true) i) = (S.made i).length + 0 + 1
        rw [fset_self, mi]
        rfl
    · rw [if_neg c] at e
      have e := (gd_some e).2
      cases e
      refine md_end gd hl ho a1 f1 f2 f3 f4 (fun hm _ => f5 hm c) f6 (fun j hj => fset_ne hj) (fun j hj => rfl) ?_ rfl rfl rfl rfl
      unfold att
      rw [pushed, List.length_append, mi]
      show (S.made i).length + 1 + b2n (S1.over i) = (S.made i).length + b2n (S.over i) + 1
      rw [oi, ho]
      rfl
theorem pullW_D (gd : Gd C ks) (hp : Pulls C pl (C.tgt p)) (hd : PD C pl (C.tgt p)) (hL : 60000 ≤ L) (hi : C.tgt p < C.ls.length) (low : Low C S (C.tgt p + 1)) (g : Glob C S) (le : S.pos p ≤ (S.made (C.tgt p)).length) (hpp : ∀ j s, j ≤ C.tgt p → p ≠ .at j s) (dl : Dl C S (C.tgt p + 1)) {x : PyData}
    (e : pullW C (makeM C pl L 25) p S = some (x, S')) : PDr C p S S' := by
  have fin : ∀ S1, Dl C S1 (C.tgt p + 1) → (∀ j, att S j ≤ att S1 j) → (∀ q X, (∀ j, X j = true → C.tgt p < j) → Ju C q X S (C.tgt p) (S.pos p + 1) → J C q X S → J C q X S1) → S.pos p + 1 ≤ att S1 (C.tgt p) → (AC C S → AC C S1) → ∀ n, PDr C p S S1 ∧ PDr C p S (S1.setPos p n) := fun S1 d1 m1 j1 l1 a1 n => by
    refine ⟨⟨d1, m1, j1, l1, a1⟩, ⟨fun j l hj hl => ?_, m1, fun q X h1 h2 h3 => (j1 q X h1 h2 h3).flat gd rfl rfl, l1, fun h => (a1 h).flat rfl rfl rfl⟩⟩
    obtain ⟨h1, h2⟩ := d1 j l hj hl
    have pe : ∀ s, (S1.setPos p n).pos (.at j s) = S1.pos (.at j s) := fun s => fset_ne fun z => hpp j s (by omega) z.symm
    exact ⟨h1, fun hm ho => (h2 hm ho).same rfl rfl rfl (pe 0) (pe 1)⟩
  unfold pullW at e
  by_cases c : S.pos p = (S.made (C.tgt p)).length
  · rw [if_pos c] at e
    cases e1 : makeM C pl L 25 (C.tgt p) S with
    | none => rw [e1] at e; cases e
    | some S1 =>
      rw [e1] at e
      dsimp only at e
      have M := make_D gd hp hd hL hi low g dl e1
      have f := fin S1 M.dl M.mono (fun q X h1 h2 h3 => M.j q X h1 (by rw [← c]; exact h2) h3) (by rw [c]; exact M.lo) M.ac
      split at e
      · cases e; exact (f 0).1
      · have e := (gd_some e).2
        cases e
        exact (f _).2
  · rw [if_neg c] at e
    dsimp only at e
    have f := fin S dl (fun _ => Nat.le_refl _) (fun _ _ _ _ h => h) (by unfold att; omega) (fun h => h)
    rw [if_neg c] at e
    have e := (gd_some e).2
    cases e
    exact (f _).2
theorem pulls_D (gd : Gd C ks) (hL : 60000 ≤ L) : ∀ d, PD C (pullM C L 25 d) (min d C.ls.length)
  | 0 => fun p S x S' h => absurd h (by omega)
  | d + 1 => fun p S x S' ht low g le hpp dl e => by
    have ih := pulls_D gd hL d
    have ih2 := pulls_more gd hL d
    exact pullW_D gd (fun q S' hq => ih2 q S' (by omega)) (fun q S x S' hq => ih q S x S' (by omega)) hL (by omega) low g le hpp dl e
theorem PL_D (gd : Gd C ks) (hL : 60000 ≤ L) : PD C (PL C L) C.ls.length := by
  have h := pulls_D gd hL 25
  have := gd.l24
  rw [Nat.min_eq_right (by omega)] at h
  exact h
/-! ### outlets -/
structure Dem (C : Ct) (q : Nat → Nat) (S : Ms) : Prop where
  j : J C q (fun _ => false) S
  dl : Dl C S C.ls.length
  lo : ∀ o, o < C.outs.length → min (q o) ((Wl C (C.tgt (.out o))).length + 1) ≤ att S (C.tgt (.out o))
  pos : ∀ o, o < C.outs.length → S.pos (.out o) = min (q o) (Wl C (C.tgt (.out o))).length
  ac : AC C S
theorem Dem.pull (gd : Gd C ks) (hL : 60000 ≤ L) (r : Rest C S) {q : Nat → Nat} (D : Dem C q S) {o : Nat} (ho : o < C.outs.length) {x : PyData} (e : PL C L (.out o) S = some (x, S')) : Dem C (fset q o (q o + 1)) S' := by
  have ht : C.tgt (.out o) < C.ls.length := gd.run.out o ho
  obtain ⟨x2, S2, e2, got⟩ := PL_ok gd hL (.out o) S ht (fun j l h1 h2 => r.low j l (by omega) h2) r.glob (r.out o ho) (fun _ _ _ z => by cases z)
  rw [e] at e2
  cases e2
  have P := PL_D gd hL (.out o) S x S' ht (fun j l h1 h2 => r.low j l (by omega) h2) r.glob (r.out o ho) (fun _ _ _ z => by cases z) (fun j l h1 h2 => D.dl j l (by omega) h2) e
  have po := D.pos o ho
  have qm : ∀ o', q o' ≤ fset q o (q o + 1) o' := fun o' => by
    by_cases c : o' = o
    · subst c; rw [fset_self]; exact Nat.le_succ _
    · rw [fset_ne c]; exact Nat.le_refl _
  have j0 : J C (fset q o (q o + 1)) (fun _ => false) S := fun j hj => by
    rcases D.j j hj with h | h | ⟨o', h1, h2, h3⟩
    · exact .inl h
    · exact .inr (.inl h)
    · exact .inr (.inr ⟨o', h1, h2, Nat.le_trans h3 (qm o')⟩)
  refine ⟨P.j _ _ (fun j h => by cases h) (.inr (.inr ⟨o, ho, rfl, by rw [fset_self, po]; omega⟩)) j0, fun j l hj hl => ?_, fun o' ho' => ?_, fun o' ho' => ?_, P.ac D.ac⟩
  · by_cases c : j < C.tgt (.out o) + 1
    · exact P.dl j l c hl
    · obtain ⟨a, b⟩ := D.dl j l hj hl
      have pe : ∀ t, S'.pos (.at j t) = S.pos (.at j t) := fun t => got.frm.pos _ (fun z => by cases z) (fun i' t' hi' z => by cases z; omega)
      refine ⟨fun t ht' => ?_, fun hm h => (b hm (by rw [← got.frm.over j (by omega)]; exact h)).same (got.frm.made j (by omega)) (got.frm.h0 j (by omega)) (got.frm.h1 j (by omega)) (pe 0) (pe 1)⟩
      rw [att_of (S := S) (got.frm.made j (by omega)) (got.frm.over j (by omega))]
      exact Nat.le_trans (a t ht') (P.mono _)
  · by_cases c : o' = o
    · subst c
      rw [fset_self]
      have lo := P.lo
      rw [po] at lo
      omega
    · rw [fset_ne c]
      exact Nat.le_trans (D.lo o' ho') (P.mono _)
  · by_cases c : o' = o
    · subst c
      rw [fset_self]
      by_cases c2 : S.pos (.out o') < (Wl C (C.tgt (.out o'))).length
      · rw [(got.hit c2).2]; omega
      · rw [(got.miss c2).2]; omega
    · rw [fset_ne c, got.frm.pos _ (by intro z; cases z; exact c rfl) (fun _ _ _ z => by cases z)]
      exact D.pos o' ho'
theorem Dem.sam {q : Nat → Nat} (gd : Gd C ks) (D : Dem C q S) (s : Sam S S') : Dem C q S' := by
  have at' : ∀ j, att S' j = att S j := fun j => att_of (by rw [s.made]) (by rw [s.over])
  exact ⟨D.j.flat gd s.made s.over, D.dl.flat s.made s.over s.pos (fun j _ => ⟨by rw [s.h0], by rw [s.h1]⟩), fun o ho => by rw [at']; exact D.lo o ho, fun o ho => by rw [s.pos]; exact D.pos o ho, D.ac.flat s.made s.over s.asks⟩
theorem Dem.leave (gd : Gd C ks) (r : Rest C S) {q : Nat → Nat} (D : Dem C q S) {o : Nat} (ho : o < C.outs.length) (e : leaveM C 25 (.out o) (S.drop o) = some S') : Dem C q S' := by
  have ht : C.tgt (.out o) < C.ls.length := gd.run.out o ho
  obtain ⟨S2, e2, lg⟩ := leaveM_ok (S := S.drop o) gd.run.ct gd.run.n1 gd.l24 (p := .out o) ht r.glob.left
  rw [e] at e2
  cases e2
  have s := lg.sam
  have at' : ∀ j, att S' j = att S j := fun j => att_of (by rw [s.made]; rfl) (by rw [s.over]; rfl)
  exact ⟨D.j.flat gd s.made s.over, D.dl.flat s.made s.over s.pos (fun j _ => ⟨by rw [s.h0]; rfl, by rw [s.h1]; rfl⟩), fun o ho => by rw [at']; exact D.lo o ho, fun o ho => by rw [s.pos]; exact D.pos o ho, D.ac.flat s.made s.over s.asks⟩
theorem Dem.start (gd : Gd C ks) (h0 : S.asks = []) (h1 : ∀ p, S.pos p = 0) (h2 : ∀ i, S.made i = []) (h3 : ∀ i, S.over i = false) (h4 : ∀ i, S.h0 i = .none ∧ S.h1 i = .none) : Dem C (fun _ => 0) S := by
  have a0 : ∀ i, att S i = 0 := fun i => by unfold att; rw [h2, h3]; rfl
  refine ⟨fun j _ => .inl (a0 j), fun j l hj hl => ⟨fun s hs => ?_, fun _ _ => ?_⟩, fun o _ => by show min 0 _ ≤ _; omega, fun o _ => by rw [h1]; show 0 = min 0 _; omega, fun k => ⟨fun i _ => by rw [h0, a0]; rfl, fun _ => by rw [h0]; rfl⟩⟩
  · rw [a0, Wn_eq hl]
    unfold wN
    rw [if_pos rfl]
    exact Nat.zero_le _
  · unfold Mx
    dsimp only
    rw [h1, h1, h2, (h4 j).1, (h4 j).2]
    exact ⟨⟨rfl, fun h => absurd rfl h⟩, rfl, fun h => absurd rfl h⟩
end
open PySem PySem.Spec PyProof.Rows L2
/-! ### the law's reckoning is what is asked -/
theorem goodI_gP (p : PyData → Bool) (A : List PyData) : goodI p A A.length = (gP p A).map fun (n : Nat) => (n : Int) := by
  show ((List.range A.length).filter fun j => p (A.getD j .none)).map (fun (j : Nat) => (j : Int) + 1) = (((List.range A.length).filter fun j => p (A.getD j .none)).map (· + 1)).map fun (n : Nat) => (n : Int)
  rw [List.map_map]
  rfl
theorem getD_cast (xs : List Nat) (k : Nat) : (xs.map fun (n : Nat) => (n : Int)).getD k 0 = (xs.getD k 0 : Nat) := by
  rw [List.getD_eq_getElem?_getD, List.getD_eq_getElem?_getD, List.getElem?_map]
  cases xs[k]? <;> rfl
theorem heldI_sz (gs : List (Int × List Int)) (m : Nat) : (heldI gs m).sum = (gSz (gs.take m) : Nat) := by
  unfold heldI gSz
  generalize gs.take m = xs
  induction xs with
  | nil => rfl
  | cons x xs ih =>
    rw [List.map_cons, List.map_cons, List.sum_cons, List.sum_cons, ih]
    omega
theorem one_eq {l : Ln} {A B M : List PyData} {a : Int} (hn : l.names = [a]) (hk : numOk l = true) {m : Nat} (hm : 0 < m) : oneNeed l A M (m : Int) = (wN l A B M 0 m : Nat) := by
  unfold wN
  rw [if_neg (by omega)]
  cases l with
  | source k => cases hn
  | chain a b => cases hn
  | pair a b => cases hn
  | merge a b => cases hn
  | take n a =>
    have hk : (decide (0 ≤ n) && decide (n ≤ 9999)) = true := hk
    rw [Bool.and_eq_true, decide_eq_true_eq, decide_eq_true_eq] at hk
    show min (min (m : Int) n) _ = _
    dsimp only
    omega
  | skip n a =>
    have hk : (decide (0 ≤ n) && decide (n ≤ 9999)) = true := hk
    rw [Bool.and_eq_true, decide_eq_true_eq, decide_eq_true_eq] at hk
    show min ((m : Int) + n) _ = _
    dsimp only
    omega
  | whil ts a => rfl
  | map ds a =>
    show min (if (M.length : Int) < m then (A.length : Int) + 1 else m) _ = _
    dsimp only
    split <;> split <;> omega
  | fold f n a =>
    show min (if (M.length : Int) < m then (A.length : Int) + 1 else m) _ = _
    dsimp only
    split <;> split <;> omega
  | keep ts a =>
    show (if (M.length : Int) < m then (A.length : Int) + 1 else (goodI (met ts) A A.length).getD ((m : Int) - 1).toNat 0) = _
    dsimp only
    rw [goodI_gP, getD_cast, show ((m : Int) - 1).toNat = m - 1 by omega]
    split <;> split <;> first | omega | rfl
  | group g a =>
    show (if (M.length : Int) < m then (A.length : Int) + 1 else (heldI (groupI g (A.map toI)) (m : Int).toNat).sum + 1) = _
    dsimp only
    rw [heldI_sz, Int.toNat_natCast]
    split <;> split <;> first | omega | rfl
  | window n a =>
    have hk : (decide (1 ≤ n) && decide (n ≤ 9)) = true := hk
    rw [Bool.and_eq_true, decide_eq_true_eq, decide_eq_true_eq] at hk
    show (if (M.length : Int) < m then (A.length : Int) + 1 else (m : Int) + n - 1) = _
    dsimp only
    split <;> split <;> omega
theorem two_eq {l : Ln} {A B M : List PyData} {a b : Int} (hn : l.names = [a, b]) {m : Nat} (hm : 0 < m) : (twoNeed l A B (m : Int)).1 = (wN l A B M 0 m : Nat) ∧ (twoNeed l A B (m : Int)).2 = (wN l A B M 1 m : Nat) := by
  unfold wN
  rw [if_neg (show ¬ m = 0 by omega), if_neg (show ¬ m = 0 by omega)]
  cases l with
  | chain a b =>
    show min (m : Int) (A.length + 1) = _ ∧ max 0 ((m : Int) - A.length) = _
    dsimp only
    rw [if_pos rfl, if_neg (show ¬ ((1 : Nat) = 0) by decide)]
    omega
  | pair a b =>
    show (m : Int) = _ ∧ (m : Int) - (if (m : Int) > (A.length : Int) then 1 else 0) = _
    dsimp only
    rw [if_pos rfl, if_neg (show ¬ ((1 : Nat) = 0) by decide)]
    refine ⟨rfl, ?_⟩
    split <;> split <;> omega
  | merge a b =>
    show ((posN (A.map toI) (B.map toI) ((m : Int) - 1).toNat).1 : Int) + 1 = _ ∧ ((posN (A.map toI) (B.map toI) ((m : Int) - 1).toNat).2 : Int) + 1 = _
    dsimp only
    rw [if_pos rfl, if_neg (show ¬ ((1 : Nat) = 0) by decide), show ((m : Int) - 1).toNat = m - 1 by omega]
    exact ⟨by omega, by omega⟩
  | _ => cases hn
section
variable {C : Ct} {ks : List Kd} {S : Ms} {q : Nat → Nat}
/-- what is wanted of line a, when the lines from b on have been seen to -/
structure Wt (C : Ct) (q : Nat → Nat) (S : Ms) (b : Nat) (w : List Int) : Prop where
  len : w.length = C.ls.length
  out : ∀ o, o < C.outs.length → (q o : Int) ≤ w.getD (C.tgt (.out o)) 0
  line : ∀ i s l, b ≤ i → C.ls[i]? = some l → s < l.names.length → (Wn C i s (att S i) : Int) ≤ w.getD (C.tgt (.at i s)) 0
  ub : ∀ a, a < C.ls.length → w.getD a 0 = 0 ∨ (∃ o, o < C.outs.length ∧ C.tgt (.out o) = a ∧ w.getD a 0 = (q o : Int)) ∨ ∃ i s l, b ≤ i ∧ C.ls[i]? = some l ∧ s < l.names.length ∧ C.tgt (.at i s) = a ∧ w.getD a 0 = (Wn C i s (att S i) : Int)
theorem wantS_get {w : List Int} {a x : Int} {j : Nat} (ha : a.toNat < w.length) : (wantS w a x).getD j 0 = if j = a.toNat then max (w.getD a.toNat 0) x else w.getD j 0 := by
  unfold wantS
  rw [List.getD_eq_getElem?_getD, List.getElem?_set]
  by_cases c : a.toNat = j
  · subst c
    rw [if_pos rfl, if_pos ha, if_pos rfl]; rfl
  · rw [if_neg c, if_neg (fun z => c z.symm), ← List.getD_eq_getElem?_getD]
theorem att_le (gd : Gd C ks) (g : Glob C S) {i : Nat} (hi : i < C.ls.length) : att S i ≤ (Wl C i).length + 1 := by
  unfold att
  have := (g.pre i hi).2
  have := b2n_le (S.over i)
  omega
/-- a line's tries, once all behind it have been seen to -/
theorem Wt.exact (gd : Gd C ks) (g : Glob C S) (D : Dem C q S) {w : List Int} {i : Nat} (W : Wt C q S (i + 1) w) (hi : i < C.ls.length) : min (w.getD i 0) ((Wl C i).length + 1) = (att S i : Int) := by
  have le := att_le gd g hi
  have h1 : (att S i : Int) ≤ w.getD i 0 := by
    rcases D.j i hi with h | ⟨i', s, l, h1, h2, h3, h4⟩ | ⟨o, h1, h2, h3⟩
    · rw [h]
      have : (0 : Int) ≤ w.getD i 0 := by
        rcases W.ub i hi with h | ⟨_, _, _, h⟩ | ⟨_, _, _, _, _, _, _, h⟩ <;> rw [h] <;> omega
      exact this
    · have lt := gd.run.ct.tgt h1 h2
      have h4 : att S i ≤ Wn C i' s (att S i') := h4
      have := W.line i' s l (by omega) h1 h2
      rw [h3] at this
      omega
    · have := W.out o h1
      rw [h2] at this
      omega
  have h2 : min (w.getD i 0) ((Wl C i).length + 1) ≤ (att S i : Int) := by
    rcases W.ub i hi with h | ⟨o, h1, h2, h⟩ | ⟨i', s, l, h1, h2, h3, h4, h⟩
    · rw [h]; omega
    · have := D.lo o h1
      rw [h2] at this
      rw [h]; omega
    · have := (D.dl i' l (List.getElem?_eq_some_iff.mp h2).1 h2).1 s h3
      rw [h4] at this
      rw [h]; omega
  omega
/-- one line seen to -/
theorem Wt.step (gd : Gd C ks) (g : Glob C S) (D : Dem C q S) {wf : List Int × List Int} {i : Nat} (hi : i < C.ls.length) (W : Wt C q S (i + 1) wf.1)
    (F : wf.2.length = C.lists.length ∧ (∀ (i' : Nat) (k : Int), i + 1 ≤ i' → C.ls[i']? = some (.source k) → wf.2.getD k.toNat 0 = (att S i' : Int)) ∧ ∀ k : Nat, (∀ i' : Nat, i + 1 ≤ i' → C.ls[i']? ≠ some (.source (k : Int))) → wf.2.getD k 0 = 0) :
    Wt C q S i (backS C.ls (plainD C.ls C.lists) wf i).1 ∧ (backS C.ls (plainD C.ls C.lists) wf i).2.length = C.lists.length ∧ (∀ (i' : Nat) (k : Int), i ≤ i' → C.ls[i']? = some (.source k) → (backS C.ls (plainD C.ls C.lists) wf i).2.getD k.toNat 0 = (att S i' : Int)) ∧
      ∀ k : Nat, (∀ i' : Nat, i ≤ i' → C.ls[i']? ≠ some (.source (k : Int))) → (backS C.ls (plainD C.ls C.lists) wf i).2.getD k 0 = 0 := by
  have hl : C.ls[i]? = some C.ls[i] := List.getElem?_eq_getElem hi
  generalize C.ls[i] = l at hl
  have ex := W.exact gd g D hi
  have hw : min (wf.1.getD i 0) ((((plainD C.ls C.lists).getD i []).length : Int) + 1) = (att S i : Int) := ex
  have W0 : (∀ s, s < l.names.length → (Wn C i s (att S i) : Int) ≤ wf.1.getD (C.tgt (.at i s)) 0) → Wt C q S i wf.1 := fun hs => by
    refine ⟨W.len, W.out, fun i' s l' h1 h2 h3 => ?_, fun a ha => ?_⟩
    · by_cases c : i' = i
      · subst c
        rw [hl] at h2
        cases h2
        exact hs s h3
      · exact W.line i' s l' (by omega) h2 h3
    · rcases W.ub a ha with h | h | ⟨i', s, l', h1, h2⟩
      · exact .inl h
      · exact .inr (.inl h)
      · exact .inr (.inr ⟨i', s, l', by omega, h2⟩)
  obtain ⟨F1, F2, F3⟩ := F
  have Fs : (∀ k, l ≠ .source k) → wf.2.length = C.lists.length ∧ (∀ (i' : Nat) (k : Int), i ≤ i' → C.ls[i']? = some (.source k) → wf.2.getD k.toNat 0 = (att S i' : Int)) ∧ ∀ k : Nat, (∀ i' : Nat, i ≤ i' → C.ls[i']? ≠ some (.source (k : Int))) → wf.2.getD k 0 = 0 := fun hs => by
    refine ⟨F1, fun i' k h1 h2 => ?_, fun k h => F3 k fun i' hi' => h i' (by omega)⟩
    by_cases c : i' = i
    · subst c
      rw [hl] at h2
      exact absurd (Option.some.inj h2) (hs k)
    · exact F2 i' k (by omega) h2
  unfold backS
  dsimp only
  rw [hw, hl]
  cases hn : l.names with
  | nil =>
    cases l with
    | source k =>
      dsimp only
      obtain ⟨k0, k1, _⟩ := gd.src hl
      refine ⟨W0 (fun s hs => absurd hs (Nat.not_lt_zero s)), by rw [List.length_set]; exact F1, fun i' k' h1 h2 => ?_, fun k' h => ?_⟩
      · rw [List.getD_eq_getElem?_getD, List.getElem?_set]
        by_cases c : i' = i
        · subst c
          rw [hl] at h2
          cases h2
          rw [if_pos rfl, if_pos (by omega)]; rfl
        · have ne : k.toNat ≠ k'.toNat := fun z => by
            obtain ⟨k0', _, _⟩ := gd.src h2
            have : k = k' := by omega
            subst this
            exact c (gd.uniq h2 hl)
          rw [if_neg ne, ← List.getD_eq_getElem?_getD]
          exact F2 i' k' (by omega) h2
      · rw [List.getD_eq_getElem?_getD, List.getElem?_set]
        have ne : k.toNat ≠ k' := fun z => by
          refine h i (Nat.le_refl i) ?_
          rw [hl, ← z, Int.toNat_of_nonneg k0]
        rw [if_neg ne, ← List.getD_eq_getElem?_getD]
        exact F3 k' fun i' hi' => h i' (by omega)
    | _ => cases hn
  | cons a r =>
    have ns : ∀ k, l ≠ .source k := fun k z => by subst z; cases hn
    -- what one place adds
    have addW : ∀ (w : List Int) (s : Nat) (a : Int) (done : Nat → Prop), l.names[s]? = some a → (w.length = C.ls.length ∧ (∀ j, wf.1.getD j 0 ≤ w.getD j 0) ∧ (∀ t, t < l.names.length → done t → (Wn C i t (att S i) : Int) ≤ w.getD (C.tgt (.at i t)) 0) ∧
          ∀ j, w.getD j 0 = wf.1.getD j 0 ∨ ∃ t, t < l.names.length ∧ j = C.tgt (.at i t) ∧ w.getD j 0 = (Wn C i t (att S i) : Int)) →
        ((wantS w a (Wn C i s (att S i))).length = C.ls.length ∧ (∀ j, wf.1.getD j 0 ≤ (wantS w a (Wn C i s (att S i))).getD j 0) ∧ (∀ t, t < l.names.length → (done t ∨ t = s) → (Wn C i t (att S i) : Int) ≤ (wantS w a (Wn C i s (att S i))).getD (C.tgt (.at i t)) 0) ∧
          ∀ j, (wantS w a (Wn C i s (att S i))).getD j 0 = wf.1.getD j 0 ∨ ∃ t, t < l.names.length ∧ j = C.tgt (.at i t) ∧ (wantS w a (Wn C i s (att S i))).getD j 0 = (Wn C i t (att S i) : Int)) := fun w s a done ha h => by
      obtain ⟨h1, h2, h3, h4⟩ := h
      have hs := (List.getElem?_eq_some_iff.mp ha).1
      have ht := gd.run.ct.tgt hl hs
      have te := tgt_at hl ha
      have al : a.toNat < w.length := by rw [h1]; omega
      refine ⟨wantS_len.trans h1, fun j => ?_, fun t ht' hd => ?_, fun j => ?_⟩
      · have := h2 j
        rw [wantS_get al]
        split
        · rename_i h; subst h; omega
        · exact this
      · rw [wantS_get al]
        rcases hd with hd | rfl
        · have := h3 t ht' hd
          split
          · rename_i h; rw [h] at this; omega
          · exact this
        · rw [te, if_pos rfl]; omega
      · rw [wantS_get al]
        split
        · rename_i h
          subst h
          by_cases c : (Wn C i s (att S i) : Int) ≤ w.getD a.toNat 0
          · rw [show max (w.getD a.toNat 0) (Wn C i s (att S i) : Int) = w.getD a.toNat 0 by omega]
            exact h4 a.toNat
          · exact .inr ⟨s, hs, te.symm, by omega⟩
        · exact h4 j
    have mk : ∀ w : List Int, (w.length = C.ls.length ∧ (∀ j, wf.1.getD j 0 ≤ w.getD j 0) ∧ (∀ t, t < l.names.length → (Wn C i t (att S i) : Int) ≤ w.getD (C.tgt (.at i t)) 0) ∧
          ∀ j, w.getD j 0 = wf.1.getD j 0 ∨ ∃ t, t < l.names.length ∧ j = C.tgt (.at i t) ∧ w.getD j 0 = (Wn C i t (att S i) : Int)) → Wt C q S i w := fun w h => by
      obtain ⟨h1, h2, h3, h4⟩ := h
      refine ⟨h1, fun o ho => Int.le_trans (W.out o ho) (h2 _), fun i' s l' a1 a2 a3 => ?_, fun b hb => ?_⟩
      · by_cases c : i' = i
        · subst c
          rw [hl] at a2
          cases a2
          exact h3 s a3
        · exact Int.le_trans (W.line i' s l' (by omega) a2 a3) (h2 _)
      · rcases h4 b with h | ⟨t, t1, t2, t3⟩
        · rw [h]
          rcases W.ub b hb with h | h | ⟨i', s, l', q1, q2⟩
          · exact .inl h
          · exact .inr (.inl h)
          · exact .inr (.inr ⟨i', s, l', by omega, q2⟩)
        · exact .inr (.inr ⟨i, t, l, Nat.le_refl i, hl, t1, t2.symm, t3⟩)
    have base : (wf.1.length = C.ls.length ∧ (∀ j, wf.1.getD j 0 ≤ wf.1.getD j 0) ∧ (∀ t, t < l.names.length → False → (Wn C i t (att S i) : Int) ≤ wf.1.getD (C.tgt (.at i t)) 0) ∧
          ∀ j, wf.1.getD j 0 = wf.1.getD j 0 ∨ ∃ t, t < l.names.length ∧ j = C.tgt (.at i t) ∧ wf.1.getD j 0 = (Wn C i t (att S i) : Int)) := ⟨W.len, fun _ => Int.le_refl _, fun _ _ h => h.elim, fun _ => .inl rfl⟩
    have num := gd.run.ct.num i l hl
    have zero : att S i = 0 → Wt C q S i wf.1 := fun h0 => W0 fun s hs => by
      have z : Wn C i s (att S i) = 0 := by
        rw [h0, Wn_eq hl]; unfold wN; exact if_pos rfl
      rw [z]
      have ht := gd.run.ct.tgt hl hs
      rcases W.ub (C.tgt (.at i s)) (by omega) with h | ⟨_, _, _, h⟩ | ⟨_, _, _, _, _, _, _, h⟩ <;> rw [h] <;> omega
    cases r with
    | nil =>
      have A0 : l.names[0]? = some a := by rw [hn]; rfl
      have te := tgt_at hl A0
      have body : Wt C q S i (if 0 < (att S i : Int) then (wantS wf.1 a (oneNeed l ((plainD C.ls C.lists).getD a.toNat []) ((plainD C.ls C.lists).getD i []) (att S i)), wf.2) else wf).1 ∧ (if 0 < (att S i : Int) then (wantS wf.1 a (oneNeed l ((plainD C.ls C.lists).getD a.toNat []) ((plainD C.ls C.lists).getD i []) (att S i)), wf.2) else wf).2 = wf.2 := by
        by_cases c : 0 < (att S i : Int)
        · rw [if_pos c]
          refine ⟨?_, rfl⟩
          have e : oneNeed l ((plainD C.ls C.lists).getD a.toNat []) ((plainD C.ls C.lists).getD i []) (att S i) = (Wn C i 0 (att S i) : Int) := by
            rw [Wn_eq hl, ← one_eq (B := Wl C (C.tgt (.at i 1))) hn num (by omega)]
            unfold Wl
            rw [te]
          dsimp only
          rw [e]
          obtain ⟨b1, b2, b3, b4⟩ := addW wf.1 0 a (fun _ => False) A0 base
          exact mk _ ⟨b1, b2, fun t ht => b3 t ht (.inr (by rw [hn] at ht; simpa using ht)), b4⟩
        · rw [if_neg c]
          exact ⟨zero (by omega), rfl⟩
      have goal : ∀ (x : List Int × List Int), Wt C q S i x.1 ∧ x.2 = wf.2 → Wt C q S i x.1 ∧ x.2.length = C.lists.length ∧ (∀ (i' : Nat) (k : Int), i ≤ i' → C.ls[i']? = some (.source k) → x.2.getD k.toNat 0 = (att S i' : Int)) ∧ ∀ k : Nat, (∀ i' : Nat, i ≤ i' → C.ls[i']? ≠ some (.source (k : Int))) → x.2.getD k 0 = 0 := fun x hx => by
        rw [hx.2]
        exact ⟨hx.1, Fs ns⟩
      cases l with
      | source k => cases hn
      | chain _ _ => cases hn
      | pair _ _ => cases hn
      | merge _ _ => cases hn
      | _ => (cases hn; exact goal _ body)
    | cons b r =>
      have hr : r = [] := by cases l <;> first | (cases hn; rfl) | cases hn
      subst hr
      have A0 : l.names[0]? = some a := by rw [hn]; rfl
      have A1 : l.names[1]? = some b := by rw [hn]; rfl
      have te := tgt_at hl A0
      have te1 := tgt_at hl A1
      have body : Wt C q S i (if 0 < (att S i : Int) then (wantS (wantS wf.1 a (twoNeed l ((plainD C.ls C.lists).getD a.toNat []) ((plainD C.ls C.lists).getD b.toNat []) (att S i)).1) b (twoNeed l ((plainD C.ls C.lists).getD a.toNat []) ((plainD C.ls C.lists).getD b.toNat []) (att S i)).2, wf.2) else wf).1 ∧
          (if 0 < (att S i : Int) then (wantS (wantS wf.1 a (twoNeed l ((plainD C.ls C.lists).getD a.toNat []) ((plainD C.ls C.lists).getD b.toNat []) (att S i)).1) b (twoNeed l ((plainD C.ls C.lists).getD a.toNat []) ((plainD C.ls C.lists).getD b.toNat []) (att S i)).2, wf.2) else wf).2 = wf.2 := by
        by_cases c : 0 < (att S i : Int)
        · rw [if_pos c]
          refine ⟨?_, rfl⟩
          have e : (twoNeed l ((plainD C.ls C.lists).getD a.toNat []) ((plainD C.ls C.lists).getD b.toNat []) (att S i)).1 = (Wn C i 0 (att S i) : Int) ∧ (twoNeed l ((plainD C.ls C.lists).getD a.toNat []) ((plainD C.ls C.lists).getD b.toNat []) (att S i)).2 = (Wn C i 1 (att S i) : Int) := by
            have := two_eq (l := l) (A := Wl C (C.tgt (.at i 0))) (B := Wl C (C.tgt (.at i 1))) (M := Wl C i) hn (m := att S i) (by omega)
            rw [Wn_eq hl, Wn_eq hl, ← this.1, ← this.2]
            unfold Wl
            rw [te, te1]
            exact ⟨rfl, rfl⟩
          dsimp only
          rw [e.1, e.2]
          have b1 := addW wf.1 0 a (fun _ => False) A0 base
          obtain ⟨b1, b2, b3, b4⟩ := addW _ 1 b (fun t => False ∨ t = 0) A1 b1
          exact mk _ ⟨b1, b2, fun t ht => b3 t ht (by rw [hn] at ht; have ht : t < 2 := ht; omega), b4⟩
        · rw [if_neg c]
          exact ⟨zero (by omega), rfl⟩
      have goal : ∀ (x : List Int × List Int), Wt C q S i x.1 ∧ x.2 = wf.2 → Wt C q S i x.1 ∧ x.2.length = C.lists.length ∧ (∀ (i' : Nat) (k : Int), i ≤ i' → C.ls[i']? = some (.source k) → x.2.getD k.toNat 0 = (att S i' : Int)) ∧ ∀ k : Nat, (∀ i' : Nat, i ≤ i' → C.ls[i']? ≠ some (.source (k : Int))) → x.2.getD k 0 = 0 := fun x hx => by
        rw [hx.2]
        exact ⟨hx.1, Fs ns⟩
      cases l with
      | chain _ _ => (cases hn; exact goal _ body)
      | pair _ _ => (cases hn; exact goal _ body)
      | merge _ _ => (cases hn; exact goal _ body)
      | _ => cases hn
/-- the whole reckoning -/
theorem needs_asks (gd : Gd C ks) (g : Glob C S) (D : Dem C q S) {outs counts : List Int} (hC : C.outs = outs.map Int.toNat) (hq : ∀ o, o < outs.length → counts.getD o 0 = (q o : Int)) :
    needsD C.ls C.lists outs counts = (List.range C.lists.length).map fun (k : Nat) => (S.asks.count (k : Int) : Int) := by
  have ol : C.outs.length = outs.length := by rw [hC, List.length_map]
  have oa : ∀ o, o < outs.length → (outs.getD o 0).toNat = C.tgt (.out o) := fun o ho => by
    show _ = C.outs.getD o 0
    rw [hC, List.getD_eq_getElem?_getD, List.getD_eq_getElem?_getD, List.getElem?_map, List.getElem?_eq_getElem ho]
    rfl
  -- the beginning
  have st : ∀ j, j ≤ outs.length → (startN outs counts C.ls.length j).length = C.ls.length ∧ (∀ o, o < j → (q o : Int) ≤ (startN outs counts C.ls.length j).getD (C.tgt (.out o)) 0) ∧
      ∀ a, a < C.ls.length → (startN outs counts C.ls.length j).getD a 0 = 0 ∨ ∃ o, o < j ∧ C.tgt (.out o) = a ∧ (startN outs counts C.ls.length j).getD a 0 = (q o : Int) := by
    intro j
    induction j with
    | zero =>
      intro _
      refine ⟨List.length_replicate, fun o h => absurd h (Nat.not_lt_zero o), fun a ha => .inl ?_⟩
      show (List.replicate C.ls.length (0 : Int)).getD a 0 = 0
      rw [List.getD_eq_getElem?_getD, List.getElem?_replicate, if_pos ha]; rfl
    | succ j ih =>
      intro hj
      obtain ⟨h1, h2, h3⟩ := ih (by omega)
      have ht : C.tgt (.out j) < C.ls.length := gd.run.out j (by omega)
      have al : (outs.getD j 0).toNat < (startN outs counts C.ls.length j).length := by rw [h1, oa j (by omega)]; exact ht
      have hc := hq j (by omega)
      have e : ∀ a, (startN outs counts C.ls.length (j + 1)).getD a 0 = if a = C.tgt (.out j) then max ((startN outs counts C.ls.length j).getD (C.tgt (.out j)) 0) (q j : Int) else (startN outs counts C.ls.length j).getD a 0 := fun a => by
        show (wantS _ _ _).getD a 0 = _
        rw [wantS_get al, oa j (by omega), hc]
      refine ⟨wantS_len.trans h1, fun o ho => ?_, fun a ha => ?_⟩
      · rw [e]
        by_cases c : o = j
        · subst c; rw [if_pos rfl]; omega
        · have := h2 o (by omega)
          split
          · rename_i h; rw [h] at this; omega
          · exact this
      · rw [e]
        split
        · rename_i h
          subst h
          by_cases c : (q j : Int) ≤ (startN outs counts C.ls.length j).getD (C.tgt (.out j)) 0
          · rw [show max ((startN outs counts C.ls.length j).getD (C.tgt (.out j)) 0) (q j : Int) = (startN outs counts C.ls.length j).getD (C.tgt (.out j)) 0 by omega]
            rcases h3 _ ha with h | ⟨o, o1, o2, o3⟩
            · exact .inl h
            · exact .inr ⟨o, by omega, o2, o3⟩
          · exact .inr ⟨j, Nat.lt_succ_self j, rfl, by omega⟩
        · rcases h3 a ha with h | ⟨o, o1, o2, o3⟩
          · exact .inl h
          · exact .inr ⟨o, by omega, o2, o3⟩
  obtain ⟨s1, s2, s3⟩ := st outs.length (Nat.le_refl _)
  have run : ∀ j, j ≤ C.ls.length → Wt C q S (C.ls.length - j) (backN C.ls (plainD C.ls C.lists) (startN outs counts C.ls.length outs.length, List.replicate C.lists.length 0) j).1 ∧
      (backN C.ls (plainD C.ls C.lists) (startN outs counts C.ls.length outs.length, List.replicate C.lists.length 0) j).2.length = C.lists.length ∧
      (∀ (i' : Nat) (k : Int), C.ls.length - j ≤ i' → C.ls[i']? = some (.source k) → (backN C.ls (plainD C.ls C.lists) (startN outs counts C.ls.length outs.length, List.replicate C.lists.length 0) j).2.getD k.toNat 0 = (att S i' : Int)) ∧
      ∀ k : Nat, (∀ i' : Nat, C.ls.length - j ≤ i' → C.ls[i']? ≠ some (.source (k : Int))) → (backN C.ls (plainD C.ls C.lists) (startN outs counts C.ls.length outs.length, List.replicate C.lists.length 0) j).2.getD k 0 = 0 := by
    intro j
    induction j with
    | zero =>
      intro _
      refine ⟨⟨s1, fun o ho => s2 o (by omega), fun i s l h1 h2 => absurd (List.getElem?_eq_some_iff.mp h2).1 (by omega), fun a ha => ?_⟩, List.length_replicate, fun i' k h1 h2 => absurd (List.getElem?_eq_some_iff.mp h2).1 (by omega), fun k _ => ?_⟩
      · rcases s3 a ha with h | ⟨o, o1, o2, o3⟩
        · exact .inl h
        · exact .inr (.inl ⟨o, by omega, o2, o3⟩)
      · show (List.replicate C.lists.length (0 : Int)).getD k 0 = 0
        rw [List.getD_eq_getElem?_getD, List.getElem?_replicate]
        split <;> rfl
    | succ j ih =>
      intro hj
      obtain ⟨h1, h2⟩ := ih (by omega)
      have e : C.ls.length - 1 - j + 1 = C.ls.length - j := by omega
      have e2 : C.ls.length - (j + 1) = C.ls.length - 1 - j := by omega
      rw [← e] at h1 h2
      rw [e2]
      exact Wt.step gd g D (by omega) h1 h2
  obtain ⟨_, r2, r3, r4⟩ := run C.ls.length (Nat.le_refl _)
  rw [Nat.sub_self] at r3 r4
  refine List.ext_getElem? fun k => ?_
  have r2 : (needsD C.ls C.lists outs counts).length = C.lists.length := r2
  by_cases hk : k < C.lists.length
  · rw [List.getElem?_map, List.getElem?_range hk, List.getElem?_eq_getElem (by omega)]
    show some _ = some (S.asks.count (k : Int) : Int)
    congr 1
    have e : (needsD C.ls C.lists outs counts)[k]'(by omega) = (needsD C.ls C.lists outs counts).getD k 0 := by
      rw [List.getD_eq_getElem?_getD, List.getElem?_eq_getElem (by omega)]; rfl
    rw [e]
    obtain ⟨a1, a2⟩ := D.ac (k : Int)
    by_cases c : ∃ i : Nat, C.ls[i]? = some (Ln.source (k : Int))
    · obtain ⟨i, hi⟩ := c
      have := r3 i k (Nat.zero_le _) hi
      rw [Int.toNat_natCast] at this
      rw [a1 i hi]
      exact this
    · have c' : ∀ i : Nat, C.ls[i]? ≠ some (.source (k : Int)) := fun i hi => c ⟨i, hi⟩
      rw [a2 c']
      exact r4 k fun i' _ => c' i'
  · rw [List.getElem?_eq_none (by omega), List.getElem?_eq_none (by rw [List.length_map, List.length_range]; omega)]
/-- no source is asked that is none -/
theorem asks_in (gd : Gd C ks) (D : Dem C q S) : ∀ k ∈ S.asks, 0 ≤ k ∧ k < (C.lists.length : Int) := fun k hk => by
  obtain ⟨a1, a2⟩ := D.ac k
  by_cases c : ∃ i : Nat, C.ls[i]? = some (Ln.source k)
  · obtain ⟨i, hi⟩ := c
    obtain ⟨h1, h2, _⟩ := gd.src hi
    exact ⟨h1, h2⟩
  · have := a2 fun i hi => c ⟨i, hi⟩
    exact absurd hk (List.count_eq_zero.mp this)
end
theorem counts_sum {n : Nat} : ∀ {xs : List Int}, (∀ k ∈ xs, 0 ≤ k ∧ k < (n : Int)) → ((List.range n).map fun (k : Nat) => (xs.count (k : Int) : Int)).sum = (xs.length : Int)
  | [], _ => by
    have : ∀ l : List Nat, (l.map fun (k : Nat) => (([] : List Int).count (k : Int) : Int)).sum = 0 := by
      intro l
      induction l with
      | nil => rfl
      | cons a l ih => rw [List.map_cons, List.sum_cons, ih]; rfl
    exact this _
  | x :: xs, h => by
    have ih := counts_sum (n := n) (xs := xs) fun k hk => h k (List.mem_cons_of_mem _ hk)
    obtain ⟨h0, h1⟩ := h x List.mem_cons_self
    have key : ∀ m : Nat, ((List.range m).map fun (k : Nat) => ((x :: xs).count (k : Int) : Int)).sum = ((List.range m).map fun (k : Nat) => (xs.count (k : Int) : Int)).sum + if x < (m : Int) then 1 else 0 := by
      intro m
      induction m with
      | zero => rw [if_neg (by omega)]; rfl
      | succ m ihm =>
        rw [List.range_succ, List.map_append, List.map_append, List.sum_append, List.sum_append, ihm]
        show _ + (((x :: xs).count (m : Int) : Int) + 0) = _ + ((xs.count (m : Int) : Int) + 0) + _
        rw [List.count_cons]
        have e : ((x == (m : Int)) = true) ↔ x = (m : Int) := by simp
        simp only [e]
        split <;> split <;> split <;> omega
    rw [key, ih, if_pos h1, List.length_cons]
    omega
/-! the beginning -/
theorem foldP_h {g : Nat → Ms → Option Ms} (h : ∀ s S S', g s S = some S' → S'.h0 = S.h0 ∧ S'.h1 = S.h1) : ∀ (ss : List Nat) (S S' : Ms), foldP g ss S = some S' → S'.h0 = S.h0 ∧ S'.h1 = S.h1
  | [], S, S', e => by cases e; exact ⟨rfl, rfl⟩
  | s :: ss, S, S', e => by
    unfold foldP at e
    cases e1 : g s S with
    | none => rw [e1] at e; cases e
    | some S1 =>
      rw [e1] at e
      obtain ⟨a, b⟩ := h s S S1 e1
      obtain ⟨c, d⟩ := foldP_h h ss S1 S' e
      exact ⟨c.trans a, d.trans b⟩
theorem letGo_h (C : Ct) : ∀ (f i : Nat) (S S' : Ms), letGo C f i S = some S' → S'.h0 = S.h0 ∧ S'.h1 = S.h1
  | 0, _, _, _, e => by cases e
  | f + 1, i, S, S', e => by
    have e : letGoW C (leaveW C (letGo C f)) i S = some S' := e
    unfold letGoW at e
    split at e
    · cases e; exact ⟨rfl, rfl⟩
    · cases hl : C.ls[i]? with
      | none => rw [hl] at e; cases e
      | some l =>
        rw [hl] at e
        dsimp only at e
        cases e1 : foldP (fun s => leaveW C (letGo C f) (.at i s)) (List.range l.names.length) (S.setLoose i) with
        | none => rw [e1] at e; cases e
        | some S1 =>
          rw [e1] at e
          have h1 := foldP_h (fun s S S' e => by
            unfold leaveW at e
            dsimp only at e
            split at e
            · have q := letGo_h C f _ _ _ e
              exact ⟨q.1, q.2⟩
            · cases e; exact ⟨rfl, rfl⟩) _ _ _ e1
          cases hs : l.src with
          | none => rw [hs] at e; cases e; exact h1
          | some k =>
            rw [hs] at e
            have e := (gd_some e).2
            cases e
            exact h1
theorem start_h {C : Ct} {S : Ms} (e : startM C = some S) : ∀ i, S.h0 i = .none ∧ S.h1 i = .none := by
  obtain ⟨_, _, _, e4, e5, _⟩ := stO_more C C.outs.length
  unfold startM at e
  cases e1 : looseL C (List.range C.ls.length) (stO C C.outs.length) with
  | none => rw [e1] at e; cases e
  | some S1 =>
    rw [e1] at e
    have e := (gd_some e).2
    cases e
    have h := foldP_h (fun s S S' e => by
      split at e
      · exact letGo_h C 25 _ _ _ e
      · cases e; exact ⟨rfl, rfl⟩) _ _ _ e1
    intro i
    show S1.h0 i = _ ∧ S1.h1 i = _
    rw [h.1, h.2, e4, e5]
    exact ⟨rfl, rfl⟩
theorem start_dem {C : Ct} {ks : List Kd} (gd : Gd C ks) : ∃ S, startM C = some S ∧ Rest C S ∧ Dem C (fun _ => 0) S ∧ S.asks = [] ∧ ∀ j, S.gone j = false := by
  obtain ⟨S, e, r, a, p, m, o, g⟩ := start_ok gd
  exact ⟨S, e, r, .start gd a p m o (start_h e), a, g⟩
open PySem PySem.Spec PyProof.Rows L2
section
def top (i : Nat) : Stmt := PySem.Challenge.pw_weavepull_k06_two_lines_pulled.main.body.getD i (.Pass ⟨0, 0, 0, 0⟩)
abbrev s__law_dice : Stmt := top 56
theorem sc__law_dice : FnScope ["_law_script", "_law_mixed", "_law_cell"] ["_law_script"] (defScope s__law_dice) := ⟨rfl, rfl, rfl, by decide +kernel, rfl, by decide +kernel, by decide +kernel⟩
abbrev s__law_next : Stmt := top 57
theorem sc__law_next : FnScope ["_law_dice_here", "_law_many", "_law_found", "_law_cell"] ["_law_dice_here", "_law_many"] (defScope s__law_next) := ⟨rfl, rfl, rfl, by decide +kernel, rfl, by decide +kernel, by decide +kernel⟩
abbrev s_kind_done : Stmt := top 14
theorem sc_kind_done : FnScope ["word", "kind"] ["word", "kind"] (defScope s_kind_done) := ⟨rfl, rfl, rfl, by decide +kernel, rfl, by decide +kernel, by decide +kernel⟩
abbrev s_kind_made : Stmt := top 13
theorem sc_kind_made : FnScope ["deeds", "kind", "deed"] ["deeds", "kind"] (defScope s_kind_made) := ⟨rfl, rfl, rfl, by decide +kernel, rfl, by decide +kernel, by decide +kernel⟩
abbrev s_kind_of : Stmt := top 28
theorem sc_kind_of : FnScope ["line", "kinds", "word", "kind"] ["line", "kinds"] (defScope s_kind_of) := ⟨rfl, rfl, rfl, by decide +kernel, rfl, by decide +kernel, by decide +kernel⟩
abbrev s_named : Stmt := top 25
theorem sc_named : FnScope ["line"] ["line"] (defScope s_named) := ⟨rfl, rfl, rfl, by decide +kernel, rfl, by decide +kernel, by decide +kernel⟩
abbrev s_place_can_be : Stmt := top 26
theorem sc_place_can_be : FnScope ["line", "at", "many", "sources", "a"] ["line", "at", "many", "sources"] (defScope s_place_can_be) := ⟨rfl, rfl, rfl, by decide +kernel, rfl, by decide +kernel, by decide +kernel⟩
abbrev s_is_number : Stmt := top 9
theorem sc_is_number : FnScope ["number"] ["number"] (defScope s_is_number) := ⟨rfl, rfl, rfl, by decide +kernel, rfl, by decide +kernel, by decide +kernel⟩
abbrev s_deeds_can_be : Stmt := top 10
theorem sc_deeds_can_be : FnScope ["deeds", "deed", "n"] ["deeds"] (defScope s_deeds_can_be) := ⟨rfl, rfl, rfl, by decide +kernel, rfl, by decide +kernel, by decide +kernel⟩
abbrev s_test_can_be : Stmt := top 12
theorem sc_test_can_be : FnScope ["test"] ["test"] (defScope s_test_can_be) := ⟨rfl, rfl, rfl, by decide +kernel, rfl, by decide +kernel, by decide +kernel⟩
abbrev s_tests_can_be : Stmt := top 11
theorem sc_tests_can_be : FnScope ["tests", "test"] ["tests"] (defScope s_tests_can_be) := ⟨rfl, rfl, rfl, by decide +kernel, rfl, by decide +kernel, by decide +kernel⟩
abbrev s_numbers_can_be : Stmt := top 27
theorem sc_numbers_can_be : FnScope ["line", "word"] ["line"] (defScope s_numbers_can_be) := ⟨rfl, rfl, rfl, by decide +kernel, rfl, by decide +kernel, by decide +kernel⟩
abbrev s_looked : Stmt := top 24
theorem sc_looked : FnScope ["weave", "many", "kinds", "sources", "at", "line", "kind", "a"] ["weave", "many"] (defScope s_looked) := ⟨rfl, rfl, rfl, by decide +kernel, rfl, by decide +kernel, by decide +kernel⟩
abbrev s_Sources___init__ : Stmt := inClass (top 30) 0
theorem sc_Sources___init__ : FnScope ["self", "many"] ["self", "many"] (defScope s_Sources___init__) := ⟨rfl, rfl, rfl, by decide +kernel, rfl, by decide +kernel, by decide +kernel⟩
abbrev s_ListedSources___init__ : Stmt := inClass (top 54) 0
theorem sc_ListedSources___init__ : NdefX.NScope ["self", "lists", "__class__", "numbers"] ["self", "lists"] ["__class__"] (defScope s_ListedSources___init__) := NdefX.nscope_by (by decide +kernel)
abbrev s_outs_looked : Stmt := top 50
theorem sc_outs_looked : FnScope ["weave", "outs", "out"] ["weave", "outs"] (defScope s_outs_looked) := ⟨rfl, rfl, rfl, by decide +kernel, rfl, by decide +kernel, by decide +kernel⟩
abbrev s_Place___init__ : Stmt := inClass (top 48) 0
theorem sc_Place___init__ : FnScope ["self", "walk"] ["self", "walk"] (defScope s_Place___init__) := ⟨rfl, rfl, rfl, by decide +kernel, rfl, by decide +kernel, by decide +kernel⟩
abbrev s_Walk___init__ : Stmt := inClass (top 47) 0
theorem sc_Walk___init__ : FnScope ["self", "line", "places", "sources"] ["self", "line", "places", "sources"] (defScope s_Walk___init__) := ⟨rfl, rfl, rfl, by decide +kernel, rfl, by decide +kernel, by decide +kernel⟩
abbrev s_walks_of : Stmt := top 51
theorem sc_walks_of : FnScope ["weave", "sources", "walks", "line", "places", "a"] ["weave", "sources"] (defScope s_walks_of) := ⟨rfl, rfl, rfl, by decide +kernel, rfl, by decide +kernel, by decide +kernel⟩
abbrev s_Sources_leave_unnamed : Stmt := inClass (top 30) 1
theorem sc_Sources_leave_unnamed : FnScope ["self", "by_lines", "unnamed", "k"] ["self", "by_lines"] (defScope s_Sources_leave_unnamed) := ⟨rfl, rfl, rfl, by decide +kernel, rfl, by decide +kernel, by decide +kernel⟩
abbrev s_Place_leave : Stmt := inClass (top 48) 2
theorem sc_Place_leave : FnScope ["self", "walk"] ["self"] (defScope s_Place_leave) := ⟨rfl, rfl, rfl, by decide +kernel, rfl, by decide +kernel, by decide +kernel⟩
abbrev s_Sources_leave : Stmt := inClass (top 30) 2
theorem sc_Sources_leave : FnScope ["self", "k"] ["self", "k"] (defScope s_Sources_leave) := ⟨rfl, rfl, rfl, by decide +kernel, rfl, by decide +kernel, by decide +kernel⟩
abbrev s_Walk_let_go : Stmt := inClass (top 47) 4
theorem sc_Walk_let_go : FnScope ["self", "place"] ["self"] (defScope s_Walk_let_go) := ⟨rfl, rfl, rfl, by decide +kernel, rfl, by decide +kernel, by decide +kernel⟩
abbrev s_Outlets___init__ : Stmt := inClass (top 49) 0
theorem sc_Outlets___init__ : FnScope ["self", "weave", "outs", "sources", "walks", "walk", "out", "line"] ["self", "weave", "outs", "sources"] (defScope s_Outlets___init__) := ⟨rfl, rfl, rfl, by decide +kernel, rfl, by decide +kernel, by decide +kernel⟩
abbrev s_Run___init__ : Stmt := inClass (top 53) 0
theorem sc_Run___init__ : FnScope ["self", "weave", "outs", "lists"] ["self", "weave", "outs", "lists"] (defScope s_Run___init__) := ⟨rfl, rfl, rfl, by decide +kernel, rfl, by decide +kernel, by decide +kernel⟩
abbrev s__law_merged : Stmt := top 64
theorem sc__law_merged : FnScope ["_law_ones", "_law_others", "_law_found"] ["_law_ones", "_law_others"] (defScope s__law_merged) := ⟨rfl, rfl, rfl, by decide +kernel, rfl, by decide +kernel, by decide +kernel⟩
abbrev s__law_grouped : Stmt := top 65
theorem sc__law_grouped : FnScope ["_law_by", "_law_items", "_law_found", "_law_item", "_law_last"] ["_law_by", "_law_items"] (defScope s__law_grouped) := ⟨rfl, rfl, rfl, by decide +kernel, rfl, by decide +kernel, by decide +kernel⟩
abbrev s__law_all_done : Stmt := top 61
theorem sc__law_all_done : FnScope ["_law_deeds", "_law_item", "_law_deed"] ["_law_deeds", "_law_item"] (defScope s__law_all_done) := ⟨rfl, rfl, rfl, by decide +kernel, rfl, by decide +kernel, by decide +kernel⟩
abbrev s__law_folded : Stmt := top 63
theorem sc__law_folded : FnScope ["_law_word", "_law_one", "_law_other"] ["_law_word", "_law_one", "_law_other"] (defScope s__law_folded) := ⟨rfl, rfl, rfl, by decide +kernel, rfl, by decide +kernel, by decide +kernel⟩
abbrev s__law_met : Stmt := top 62
theorem sc__law_met : FnScope ["_law_tests", "_law_number_here", "_law_test"] ["_law_tests", "_law_number_here"] (defScope s__law_met) := ⟨rfl, rfl, rfl, by decide +kernel, rfl, by decide +kernel, by decide +kernel⟩
abbrev s__law_list : Stmt := top 66
theorem sc__law_list : FnScope ["_law_line", "_law_made", "_law_lists", "_law_word", "_law_items", "_law_many", "_law_found", "_law_item", "_law_bad", "_law_k"] ["_law_line", "_law_made", "_law_lists"] (defScope s__law_list) := ⟨rfl, rfl, rfl, by decide +kernel, rfl, by decide +kernel, by decide +kernel⟩
abbrev s__law_plain : Stmt := top 67
theorem sc__law_plain : FnScope ["_law_weave", "_law_lists", "_law_made", "_law_line"] ["_law_weave", "_law_lists"] (defScope s__law_plain) := ⟨rfl, rfl, rfl, by decide +kernel, rfl, by decide +kernel, by decide +kernel⟩
abbrev s_Run_asked : Stmt := inClass (top 53) 3
theorem sc_Run_asked : FnScope ["self"] ["self"] (defScope s_Run_asked) := ⟨rfl, rfl, rfl, by decide +kernel, rfl, by decide +kernel, by decide +kernel⟩
abbrev s__law_number : Stmt := top 60
theorem sc__law_number : FnScope ["_law_d"] ["_law_d"] (defScope s__law_number) := ⟨rfl, rfl, rfl, by decide +kernel, rfl, by decide +kernel, by decide +kernel⟩
abbrev s__law_like : Stmt := top 59
theorem sc__law_like : FnScope ["_law_found", "_law_due", "_law_k"] ["_law_found", "_law_due"] (defScope s__law_like) := ⟨rfl, rfl, rfl, by decide +kernel, rfl, by decide +kernel, by decide +kernel⟩
abbrev s_ListedSources_ask : Stmt := inClass (top 54) 1
theorem sc_ListedSources_ask : FnScope ["self", "k", "at"] ["self", "k"] (defScope s_ListedSources_ask) := ⟨rfl, rfl, rfl, by decide +kernel, rfl, by decide +kernel, by decide +kernel⟩
abbrev s_asked : Stmt := top 32
theorem sc_asked : FnScope ["walk"] ["walk"] (defScope s_asked) := ⟨rfl, rfl, rfl, by decide +kernel, rfl, by decide +kernel, by decide +kernel⟩
abbrev s_Walk_pulled : Stmt := inClass (top 47) 2
theorem sc_Walk_pulled : FnScope ["self", "side"] ["self", "side"] (defScope s_Walk_pulled) := ⟨rfl, rfl, rfl, by decide +kernel, rfl, by decide +kernel, by decide +kernel⟩
abbrev s_done : Stmt := top 5
theorem sc_done : FnScope ["deed", "item", "word"] ["deed", "item"] (defScope s_done) := ⟨rfl, rfl, rfl, by decide +kernel, rfl, by decide +kernel, by decide +kernel⟩
abbrev s_all_done : Stmt := top 4
theorem sc_all_done : FnScope ["deeds", "item", "deed"] ["deeds", "item"] (defScope s_all_done) := ⟨rfl, rfl, rfl, by decide +kernel, rfl, by decide +kernel, by decide +kernel⟩
abbrev s_mapped : Stmt := top 33
theorem sc_mapped : FnScope ["walk", "item"] ["walk"] (defScope s_mapped) := ⟨rfl, rfl, rfl, by decide +kernel, rfl, by decide +kernel, by decide +kernel⟩
abbrev s_holds : Stmt := top 7
theorem sc_holds : FnScope ["test", "number"] ["test", "number"] (defScope s_holds) := ⟨rfl, rfl, rfl, by decide +kernel, rfl, by decide +kernel, by decide +kernel⟩
abbrev s_all_hold : Stmt := top 6
theorem sc_all_hold : FnScope ["tests", "number", "test"] ["tests", "number"] (defScope s_all_hold) := ⟨rfl, rfl, rfl, by decide +kernel, rfl, by decide +kernel, by decide +kernel⟩
abbrev s_kept : Stmt := top 34
theorem sc_kept : FnScope ["walk", "number"] ["walk"] (defScope s_kept) := ⟨rfl, rfl, rfl, by decide +kernel, rfl, by decide +kernel, by decide +kernel⟩
abbrev s_ahead_of_failing : Stmt := top 35
theorem sc_ahead_of_failing : FnScope ["walk", "number"] ["walk"] (defScope s_ahead_of_failing) := ⟨rfl, rfl, rfl, by decide +kernel, rfl, by decide +kernel, by decide +kernel⟩
abbrev s_taken : Stmt := top 36
theorem sc_taken : FnScope ["walk"] ["walk"] (defScope s_taken) := ⟨rfl, rfl, rfl, by decide +kernel, rfl, by decide +kernel, by decide +kernel⟩
abbrev s_behind_skipped : Stmt := top 37
theorem sc_behind_skipped : FnScope ["walk"] ["walk"] (defScope s_behind_skipped) := ⟨rfl, rfl, rfl, by decide +kernel, rfl, by decide +kernel, by decide +kernel⟩
abbrev s_grouped : Stmt := top 38
theorem sc_grouped : FnScope ["walk", "by", "number", "row"] ["walk"] (defScope s_grouped) := ⟨rfl, rfl, rfl, by decide +kernel, rfl, by decide +kernel, by decide +kernel⟩
abbrev s_windowed : Stmt := top 39
theorem sc_windowed : FnScope ["walk", "place", "start"] ["walk"] (defScope s_windowed) := ⟨rfl, rfl, rfl, by decide +kernel, rfl, by decide +kernel, by decide +kernel⟩
abbrev s_folded : Stmt := top 8
theorem sc_folded : FnScope ["word", "one", "other"] ["word", "one", "other"] (defScope s_folded) := ⟨rfl, rfl, rfl, by decide +kernel, rfl, by decide +kernel, by decide +kernel⟩
abbrev s_folded_on : Stmt := top 40
theorem sc_folded_on : FnScope ["walk", "number", "so_far"] ["walk"] (defScope s_folded_on) := ⟨rfl, rfl, rfl, by decide +kernel, rfl, by decide +kernel, by decide +kernel⟩
abbrev s_chained : Stmt := top 41
theorem sc_chained : FnScope ["walk", "item"] ["walk"] (defScope s_chained) := ⟨rfl, rfl, rfl, by decide +kernel, rfl, by decide +kernel, by decide +kernel⟩
abbrev s_Walk_holding : Stmt := inClass (top 47) 3
theorem sc_Walk_holding : FnScope ["self", "side"] ["self", "side"] (defScope s_Walk_holding) := ⟨rfl, rfl, rfl, by decide +kernel, rfl, by decide +kernel, by decide +kernel⟩
abbrev s_paired : Stmt := top 42
theorem sc_paired : FnScope ["walk", "one", "other"] ["walk"] (defScope s_paired) := ⟨rfl, rfl, rfl, by decide +kernel, rfl, by decide +kernel, by decide +kernel⟩
abbrev s_merged : Stmt := top 43
theorem sc_merged : FnScope ["walk", "one", "other"] ["walk"] (defScope s_merged) := ⟨rfl, rfl, rfl, by decide +kernel, rfl, by decide +kernel, by decide +kernel⟩
abbrev s_next_item : Stmt := top 45
theorem sc_next_item : FnScope ["walk", "step"] ["walk"] (defScope s_next_item) := ⟨rfl, rfl, rfl, by decide +kernel, rfl, by decide +kernel, by decide +kernel⟩
abbrev s_Walk_make : Stmt := inClass (top 47) 1
theorem sc_Walk_make : FnScope ["self", "item"] ["self"] (defScope s_Walk_make) := ⟨rfl, rfl, rfl, by decide +kernel, rfl, by decide +kernel, by decide +kernel⟩
abbrev s_Place_pull : Stmt := inClass (top 48) 1
theorem sc_Place_pull : FnScope ["self", "walk"] ["self"] (defScope s_Place_pull) := ⟨rfl, rfl, rfl, by decide +kernel, rfl, by decide +kernel, by decide +kernel⟩
abbrev s_Outlets_place : Stmt := inClass (top 49) 1
theorem sc_Outlets_place : FnScope ["self", "j"] ["self", "j"] (defScope s_Outlets_place) := ⟨rfl, rfl, rfl, by decide +kernel, rfl, by decide +kernel, by decide +kernel⟩
abbrev s_Run_pull : Stmt := inClass (top 53) 1
theorem sc_Run_pull : FnScope ["self", "j"] ["self", "j"] (defScope s_Run_pull) := ⟨rfl, rfl, rfl, by decide +kernel, rfl, by decide +kernel, by decide +kernel⟩
abbrev s__law_given : Stmt := top 68
theorem sc__law_given : FnScope ["_law_line", "_law_ones", "_law_others", "_law_given_here", "_law_one", "_law_other"] ["_law_line", "_law_ones", "_law_others"] (defScope s__law_given) := ⟨rfl, rfl, rfl, by decide +kernel, rfl, by decide +kernel, by decide +kernel⟩
abbrev s__law_asks : Stmt := top 69
theorem sc__law_asks : FnScope ["_law_line", "_law_lists", "_law_many", "_law_ones", "_law_others", "_law_asks_here", "_law_k"] ["_law_line", "_law_lists", "_law_many"] (defScope s__law_asks) := ⟨rfl, rfl, rfl, by decide +kernel, rfl, by decide +kernel, by decide +kernel⟩
abbrev s_law : Stmt := top 70
theorem sc_law : FnScope ["_law_script", "_law_d", "_law_lists", "_law_word", "_law_turn", "_law_weave", "_law_made", "_law_run", "_law_k", "_law_many", "_law_due", "_law_j"] ["_law_script"] (defScope s_law) := ⟨rfl, rfl, rfl, by decide +kernel, rfl, by decide +kernel, by decide +kernel⟩
structure Tx (P : Program) (K : PySem.W.Frag) (w : World) (mg : Str → Option Value) where
  k_Walk : ClsAt K mg "Walk"
  n_Walk_line : NoAttr K k_Walk.C "line"
  n_Walk_places : NoAttr K k_Walk.C "places"
  n_Walk_sources : NoAttr K k_Walk.C "sources"
  n_Walk_made : NoAttr K k_Walk.C "made"
  n_Walk_holders : NoAttr K k_Walk.C "holders"
  n_Walk_over : NoAttr K k_Walk.C "over"
  n_Walk_loose : NoAttr K k_Walk.C "loose"
  n_Walk_stretch : NoAttr K k_Walk.C "stretch"
  n_Walk_held : NoAttr K k_Walk.C "held"
  k_Place : ClsAt K mg "Place"
  n_Place_walk : NoAttr K k_Place.C "walk"
  n_Place_at : NoAttr K k_Place.C "at"
  k_Outlets : ClsAt K mg "Outlets"
  n_Outlets_outs : NoAttr K k_Outlets.C "outs"
  k_Run : ClsAt K mg "Run"
  n_Run_sources : NoAttr K k_Run.C "sources"
  n_Run_outlets : NoAttr K k_Run.C "outlets"
  k_ListedSources : ClsAt K mg "ListedSources"
  n_ListedSources_many : NoAttr K k_ListedSources.C "many"
  n_ListedSources_left : NoAttr K k_ListedSources.C "left"
  n_ListedSources_lists : NoAttr K k_ListedSources.C "lists"
  n_ListedSources_nexts : NoAttr K k_ListedSources.C "nexts"
  n_ListedSources_asks : NoAttr K k_ListedSources.C "asks"
  _law_dice : At K mg "_law_dice" s__law_dice ["_law_script"]
  _law_next : At K mg "_law_next" s__law_next ["_law_dice_here", "_law_many"]
  kind_done : At K mg "kind_done" s_kind_done ["word", "kind"]
  kind_made : At K mg "kind_made" s_kind_made ["deeds", "kind"]
  kind_of : At K mg "kind_of" s_kind_of ["line", "kinds"]
  named : At K mg "named" s_named ["line"]
  place_can_be : At K mg "place_can_be" s_place_can_be ["line", "at", "many", "sources"]
  is_number : At K mg "is_number" s_is_number ["number"]
  deeds_can_be : At K mg "deeds_can_be" s_deeds_can_be ["deeds"]
  test_can_be : At K mg "test_can_be" s_test_can_be ["test"]
  tests_can_be : At K mg "tests_can_be" s_tests_can_be ["tests"]
  numbers_can_be : At K mg "numbers_can_be" s_numbers_can_be ["line"]
  looked : At K mg "looked" s_looked ["weave", "many"]
  Sources___init__ : BAt K "__init__" "Sources.__init__" s_Sources___init__ ["self", "many"]
  ListedSources___init__ : SAt P K k_ListedSources "ListedSources.__init__" s_ListedSources___init__ ["self", "lists"] Sources___init__.f
  outs_looked : At K mg "outs_looked" s_outs_looked ["weave", "outs"]
  Place___init__ : MAt K k_Place "__init__" "Place.__init__" s_Place___init__ ["self", "walk"]
  Walk___init__ : MAt K k_Walk "__init__" "Walk.__init__" s_Walk___init__ ["self", "line", "places", "sources"]
  walks_of : At K mg "walks_of" s_walks_of ["weave", "sources"]
  Sources_leave_unnamed : MAt K k_ListedSources "leave_unnamed" "Sources.leave_unnamed" s_Sources_leave_unnamed ["self", "by_lines"]
  Place_leave : MAt K k_Place "leave" "Place.leave" s_Place_leave ["self"]
  Sources_leave : MAt K k_ListedSources "leave" "Sources.leave" s_Sources_leave ["self", "k"]
  Walk_let_go : MAt K k_Walk "let_go" "Walk.let_go" s_Walk_let_go ["self"]
  Outlets___init__ : MAt K k_Outlets "__init__" "Outlets.__init__" s_Outlets___init__ ["self", "weave", "outs", "sources"]
  Run___init__ : MAt K k_Run "__init__" "Run.__init__" s_Run___init__ ["self", "weave", "outs", "lists"]
  _law_merged : At K mg "_law_merged" s__law_merged ["_law_ones", "_law_others"]
  _law_grouped : At K mg "_law_grouped" s__law_grouped ["_law_by", "_law_items"]
  _law_all_done : At K mg "_law_all_done" s__law_all_done ["_law_deeds", "_law_item"]
  _law_folded : At K mg "_law_folded" s__law_folded ["_law_word", "_law_one", "_law_other"]
  _law_met : At K mg "_law_met" s__law_met ["_law_tests", "_law_number_here"]
  _law_list : At K mg "_law_list" s__law_list ["_law_line", "_law_made", "_law_lists"]
  _law_plain : At K mg "_law_plain" s__law_plain ["_law_weave", "_law_lists"]
  Run_asked : MAt K k_Run "asked" "Run.asked" s_Run_asked ["self"]
  _law_number : At K mg "_law_number" s__law_number ["_law_d"]
  _law_like : At K mg "_law_like" s__law_like ["_law_found", "_law_due"]
  ListedSources_ask : MAt K k_ListedSources "ask" "ListedSources.ask" s_ListedSources_ask ["self", "k"]
  asked : At K mg "asked" s_asked ["walk"]
  Walk_pulled : MAt K k_Walk "pulled" "Walk.pulled" s_Walk_pulled ["self", "side"]
  done : At K mg "done" s_done ["deed", "item"]
  all_done : At K mg "all_done" s_all_done ["deeds", "item"]
  mapped : At K mg "mapped" s_mapped ["walk"]
  holds : At K mg "holds" s_holds ["test", "number"]
  all_hold : At K mg "all_hold" s_all_hold ["tests", "number"]
  kept : At K mg "kept" s_kept ["walk"]
  ahead_of_failing : At K mg "ahead_of_failing" s_ahead_of_failing ["walk"]
  taken : At K mg "taken" s_taken ["walk"]
  behind_skipped : At K mg "behind_skipped" s_behind_skipped ["walk"]
  grouped : At K mg "grouped" s_grouped ["walk"]
  windowed : At K mg "windowed" s_windowed ["walk"]
  folded : At K mg "folded" s_folded ["word", "one", "other"]
  folded_on : At K mg "folded_on" s_folded_on ["walk"]
  chained : At K mg "chained" s_chained ["walk"]
  Walk_holding : MAt K k_Walk "holding" "Walk.holding" s_Walk_holding ["self", "side"]
  paired : At K mg "paired" s_paired ["walk"]
  merged : At K mg "merged" s_merged ["walk"]
  next_item : At K mg "next_item" s_next_item ["walk"]
  Walk_make : MAt K k_Walk "make" "Walk.make" s_Walk_make ["self"]
  Place_pull : MAt K k_Place "pull" "Place.pull" s_Place_pull ["self"]
  Outlets_place : MAt K k_Outlets "place" "Outlets.place" s_Outlets_place ["self", "j"]
  Run_pull : MAt K k_Run "pull" "Run.pull" s_Run_pull ["self", "j"]
  _law_given : At K mg "_law_given" s__law_given ["_law_line", "_law_ones", "_law_others"]
  _law_asks : At K mg "_law_asks" s__law_asks ["_law_line", "_law_lists", "_law_many"]
  law : At K mg "law" s_law ["_law_script"]
  c_STEPS : DictAt K w mg "STEPS" [("source", asked.f), ("map", mapped.f), ("keep", kept.f), ("while", ahead_of_failing.f), ("take", taken.f), ("skip", behind_skipped.f), ("group", grouped.f), ("window", windowed.f), ("fold", folded_on.f), ("chain", chained.f), ("pair", paired.f), ("merge", merged.f)]
  c_REST : IntAt mg "REST" 1000003
  c_LONGEST : IntAt mg "LONGEST" 64
  c_MOST_LINES : IntAt mg "MOST_LINES" 24
  c_MOST_TAKEN : IntAt mg "MOST_TAKEN" 9999
  c_WIDEST : IntAt mg "WIDEST" 9
  c_NUMBER : StrAt mg "NUMBER" "number"
  z_all : mg "all" = none
  z_bool : mg "bool" = none
  z_enumerate : mg "enumerate" = none
  z_int : mg "int" = none
  z_isinstance : mg "isinstance" = none
  z_len : mg "len" = none
  z_list : mg "list" = none
  z_max : mg "max" = none
  z_min : mg "min" = none
  z_range : mg "range" = none
  z_sorted : mg "sorted" = none
  z_str : mg "str" = none
  z_sum : mg "sum" = none
  z_super : mg "super" = none
  z_tuple : mg "tuple" = none
abbrev Tx.cs {P : Program} {K : PySem.W.Frag} {w : World} {mg : Str → Option Value} (T : Tx P K w mg) : Cs := ⟨T.k_Walk.C, T.k_Place.C, T.k_ListedSources.C, T.k_Outlets.C, T.k_Run.C⟩
variable {P : Program} {w : World} {K : PySem.W.Frag} {mg : Str → Option Value} {base : Heap}
local macro_rules | `(tactic| walk_at "go") => `(tactic| repeat (first
  | (apply Exists.intro; refine And.intro rfl ?_; all_goals apply isProp)
  | (apply Exists.intro; apply Exists.intro; refine And.intro rfl (And.intro rfl ?_); all_goals apply isProp)
  | refine And.intro rfl ?_
  | refine And.intro (by omega) ?_
  | (refine And.intro ?_ ?_; (apply posOf; omega); all_goals apply isProp)
  | refine And.intro (by assumption) ?_
  | (refine And.intro ?_ ?_; (apply Exists.intro; assumption); all_goals apply isProp)
  | refine And.intro (Or.inl (And.intro (by omega) (by omega))) ?_
  | refine And.intro (Or.inr (And.intro (by omega) (by omega))) ?_
  | refine And.intro (And.intro (by omega) (by omega)) ?_
  | (refine Or.inr ?_; (apply Exists.intro; refine And.intro rfl ?_; all_goals apply isProp))
  | (refine Or.inl ?_; (apply Exists.intro; refine And.intro rfl ?_; all_goals apply isProp))
  | (apply Exists.intro; apply Exists.intro; refine And.intro rfl ?_; refine And.intro ?_ ?_; (first | (apply Or.inl; assumption) | (apply Or.inr; assumption) | (apply Or.inl; apply SqL.of; assumption)); all_goals apply isProp)
  | (apply Exists.intro; apply Exists.intro; apply Exists.intro; apply Exists.intro; refine And.intro rfl (And.intro rfl ?_); refine And.intro ?_ ?_; (first | (apply SqL.of; assumption) | (apply SqT.of; assumption) | assumption); refine And.intro rfl ?_; all_goals apply isProp)
  | refine And.intro (And.intro (by omega) (And.intro (by omega) (by decide))) ?_
  | (refine And.intro ?_ ?_; (apply Or.inl; refine And.intro rfl ?_; apply Exists.intro; apply SqL.of; assumption); all_goals apply isProp)
  | (refine And.intro ?_ ?_; (apply acc_ty; assumption); all_goals apply isProp)
  | (apply iteT; all_goals apply isProp)
  | (apply iteF; all_goals apply isProp)
  | (apply Exists.intro; apply Exists.intro; refine And.intro rfl ?_; all_goals apply isProp)
  | (apply Exists.intro; apply Exists.intro; apply Exists.intro; refine And.intro rfl ?_; all_goals apply isProp)
  | (apply Exists.intro; apply Exists.intro; apply Exists.intro; apply Exists.intro; refine And.intro rfl ?_; all_goals apply isProp)))
local macro_rules | `(tactic| walk_at "no") => `(tactic| first
  | refine ite_f (by decide +kernel) ?_
  | refine ite_f (decide_eq_false (by assumption)) ?_
  | refine ite_f (decide_eq_false (by intro z; injection z with z; omega)) ?_)
local macro_rules | `(tactic| walk_at "yes") => `(tactic| first
  | refine ite_t (by decide +kernel) ?_
  | refine ite_t (decide_eq_true (by assumption)) ?_
  | refine ite_t (decide_eq_true (by omega)) ?_)
local macro_rules | `(tactic| walk_at "w") => `(tactic| first | refine ite_f (by decide +kernel) ?_ | refine ite_t (by decide +kernel) ?_)
local macro_rules | `(tactic| walk_at "wd") => `(tactic| (refine ⟨_, 0, 0, _, (by assumption), rfl, rfl, rfl, ?_⟩; intro v iv; cases Im.s iv; walk_at "go"))
local macro_rules | `(tactic| walk_at "wds") => `(tactic| (walk_at "go"; repeat walk_at "wd"))
local macro_rules | `(tactic| walk_at "n1") => `(tactic| (refine ⟨_, 1, 1, _, (by assumption), rfl, rfl, rfl, ?_⟩; intro v iv; cases Im.i iv; walk_at "go"))
local macro_rules | `(tactic| walk_at "n2") => `(tactic| (refine ⟨_, 2, 2, _, (by assumption), rfl, rfl, rfl, ?_⟩; intro v iv; cases Im.i iv; walk_at "go"))
set_option hygiene false in
local macro_rules | `(tactic| walk_at "f") => `(tactic| first
  | refine ⟨_, _, _, _, _, rfl, (by assumption), T.k_Walk.cl, T.n_Walk_line, (by rfl), ?_⟩
  | refine ⟨_, _, _, _, _, rfl, (by assumption), T.k_Walk.cl, T.n_Walk_places, (by rfl), ?_⟩
  | refine ⟨_, _, _, _, _, rfl, (by assumption), T.k_Walk.cl, T.n_Walk_sources, (by rfl), ?_⟩
  | refine ⟨_, _, _, _, _, rfl, (by assumption), T.k_Walk.cl, T.n_Walk_made, (by rfl), ?_⟩
  | refine ⟨_, _, _, _, _, rfl, (by assumption), T.k_Walk.cl, T.n_Walk_holders, (by rfl), ?_⟩
  | refine ⟨_, _, _, _, _, rfl, (by assumption), T.k_Walk.cl, T.n_Walk_over, (by rfl), ?_⟩
  | refine ⟨_, _, _, _, _, rfl, (by assumption), T.k_Walk.cl, T.n_Walk_loose, (by rfl), ?_⟩
  | refine ⟨_, _, _, _, _, rfl, (by assumption), T.k_Walk.cl, T.n_Walk_stretch, (by rfl), ?_⟩
  | refine ⟨_, _, _, _, _, rfl, (by assumption), T.k_Walk.cl, T.n_Walk_held, (by rfl), ?_⟩
  | refine ⟨_, _, _, _, _, rfl, (by assumption), T.k_Place.cl, T.n_Place_walk, (by rfl), ?_⟩
  | refine ⟨_, _, _, _, _, rfl, (by assumption), T.k_Place.cl, T.n_Place_at, (by rfl), ?_⟩
  | refine ⟨_, _, _, _, _, rfl, (by assumption), T.k_Outlets.cl, T.n_Outlets_outs, (by rfl), ?_⟩
  | refine ⟨_, _, _, _, _, rfl, (by assumption), T.k_Run.cl, T.n_Run_sources, (by rfl), ?_⟩
  | refine ⟨_, _, _, _, _, rfl, (by assumption), T.k_Run.cl, T.n_Run_outlets, (by rfl), ?_⟩
  | refine ⟨_, _, _, _, _, rfl, (by assumption), T.k_ListedSources.cl, T.n_ListedSources_many, (by rfl), ?_⟩
  | refine ⟨_, _, _, _, _, rfl, (by assumption), T.k_ListedSources.cl, T.n_ListedSources_left, (by rfl), ?_⟩
  | refine ⟨_, _, _, _, _, rfl, (by assumption), T.k_ListedSources.cl, T.n_ListedSources_lists, (by rfl), ?_⟩
  | refine ⟨_, _, _, _, _, rfl, (by assumption), T.k_ListedSources.cl, T.n_ListedSources_nexts, (by rfl), ?_⟩
  | refine ⟨_, _, _, _, _, rfl, (by assumption), T.k_ListedSources.cl, T.n_ListedSources_asks, (by rfl), ?_⟩)
set_option hygiene false in
local macro_rules | `(tactic| walk_at "fs") => `(tactic| first
  | refine ⟨_, _, _, _, rfl, (by assumption), T.k_Walk.cl, T.n_Walk_line, (by exact (by decide : (9 : Nat) < 1000)), ?_⟩
  | refine ⟨_, _, _, _, rfl, (by assumption), T.k_Walk.cl, T.n_Walk_places, (by exact (by decide : (9 : Nat) < 1000)), ?_⟩
  | refine ⟨_, _, _, _, rfl, (by assumption), T.k_Walk.cl, T.n_Walk_sources, (by exact (by decide : (9 : Nat) < 1000)), ?_⟩
  | refine ⟨_, _, _, _, rfl, (by assumption), T.k_Walk.cl, T.n_Walk_made, (by exact (by decide : (9 : Nat) < 1000)), ?_⟩
  | refine ⟨_, _, _, _, rfl, (by assumption), T.k_Walk.cl, T.n_Walk_holders, (by exact (by decide : (9 : Nat) < 1000)), ?_⟩
  | refine ⟨_, _, _, _, rfl, (by assumption), T.k_Walk.cl, T.n_Walk_over, (by exact (by decide : (9 : Nat) < 1000)), ?_⟩
  | refine ⟨_, _, _, _, rfl, (by assumption), T.k_Walk.cl, T.n_Walk_loose, (by exact (by decide : (9 : Nat) < 1000)), ?_⟩
  | refine ⟨_, _, _, _, rfl, (by assumption), T.k_Walk.cl, T.n_Walk_stretch, (by exact (by decide : (9 : Nat) < 1000)), ?_⟩
  | refine ⟨_, _, _, _, rfl, (by assumption), T.k_Walk.cl, T.n_Walk_held, (by exact (by decide : (9 : Nat) < 1000)), ?_⟩
  | refine ⟨_, _, _, _, rfl, (by assumption), T.k_Place.cl, T.n_Place_walk, (by exact (by decide : (2 : Nat) < 1000)), ?_⟩
  | refine ⟨_, _, _, _, rfl, (by assumption), T.k_Place.cl, T.n_Place_at, (by exact (by decide : (2 : Nat) < 1000)), ?_⟩
  | refine ⟨_, _, _, _, rfl, (by assumption), T.k_Outlets.cl, T.n_Outlets_outs, (by exact (by decide : (1 : Nat) < 1000)), ?_⟩
  | refine ⟨_, _, _, _, rfl, (by assumption), T.k_Run.cl, T.n_Run_sources, (by exact (by decide : (2 : Nat) < 1000)), ?_⟩
  | refine ⟨_, _, _, _, rfl, (by assumption), T.k_Run.cl, T.n_Run_outlets, (by exact (by decide : (2 : Nat) < 1000)), ?_⟩
  | refine ⟨_, _, _, _, rfl, (by assumption), T.k_ListedSources.cl, T.n_ListedSources_many, (by exact (by decide : (5 : Nat) < 1000)), ?_⟩
  | refine ⟨_, _, _, _, rfl, (by assumption), T.k_ListedSources.cl, T.n_ListedSources_left, (by exact (by decide : (5 : Nat) < 1000)), ?_⟩
  | refine ⟨_, _, _, _, rfl, (by assumption), T.k_ListedSources.cl, T.n_ListedSources_lists, (by exact (by decide : (5 : Nat) < 1000)), ?_⟩
  | refine ⟨_, _, _, _, rfl, (by assumption), T.k_ListedSources.cl, T.n_ListedSources_nexts, (by exact (by decide : (5 : Nat) < 1000)), ?_⟩
  | refine ⟨_, _, _, _, rfl, (by assumption), T.k_ListedSources.cl, T.n_ListedSources_asks, (by exact (by decide : (5 : Nat) < 1000)), ?_⟩)
def spDice (K : PySem.W.Frag) : Sp := fun vs H Q _ => ∃ (a : Addr) (ns : List Int), vs = [.ref a] ∧ Fz K H a (ns.map V.int) ∧ ns.length ≤ 63 ∧
  ∀ D H', H D = none → Same H H' → IsDice K H' D → Q (.ref D) H'
theorem ok__law_dice (T : Tx P K w mg) : FnOk P w K mg base CX0 1 T._law_dice.f T._law_dice.fd ["_law_script"] (spDice K) := by
  refine T._law_dice.F.ok sc__law_dice (fun vs H Q E h => ?_) (fun cdv A outer s H vs Q E hr h => ?_)
  · obtain ⟨a, ns, rfl, _⟩ := h
    rfl
  obtain ⟨a, ns, rfl, hF, hl, q⟩ := h
  have hS := hF.seq
  refine ⟨_, (pss_cons (ps_set (i := 1) sc__law_dice.nd rfl (by first | exact Or.inl rfl | exact Or.inr rfl) pe_int)
      (pss_cons (ps_for PassesOwn.never rfl (pi_list (pv 0)) (pg_name (i := 2) sc__law_dice.nd rfl (by first | exact Or.inl rfl | exact Or.inr rfl)) (pss_one (ps_set (i := 1) sc__law_dice.nd rfl (by first | exact Or.inl rfl | exact Or.inr rfl) (pe_op op_mod (pe_op op_add (pe_op op_add (pe_op op_mul (pv 1) pe_int) (pe_op op_mul (pe_op op_mod (pv 2) pe_int) pe_int)) pe_int) pe_int))))
      (pss_one (ps_ret (pe_lr (pa_cons (pv 0) (pa_cons pe_int (pa_cons (pe_op op_mul (pv 1) (pe_callTy call_int1 (by rfl) T.z_int (by decide +kernel) (pa_cons (pe_cmpR op_gt (pe_callB call_len_seq (by rfl) T.z_len PySem.boot_len (pa_cons (pv 0) pa_nil)) pe_int (nomark _)) pa_nil))) (pa_cons pe_int pa_nil))))))))), ?_⟩
  refine ⟨_, rfl, a, rfl, ⟨_, hS⟩, for_list (K := K) (a := a) (xs := ns.map V.int) (fun i σ H2 => Hold (H2 = H ∧ ∃ (m : Int) (v : Option V), σ = [some (.ref a), some (.int m), v] ∧ 0 ≤ m ∧ m < 2147483647))
    (.mk ⟨rfl, 0, none, rfl, by decide, by decide⟩) (fun i σ H2 _ h => h.out.1 ▸ hS) ?_ ?_⟩
  · rintro i x σ H2 hi h
    obtain ⟨rfl, m, v, rfl, h0, h1⟩ := h.out
    obtain ⟨z, rfl⟩ : ∃ z, x = V.int z := by
      rw [List.getElem?_map] at hi
      obtain ⟨z, _, rfl⟩ := Option.map_eq_some_iff.mp hi
      exact ⟨z, rfl⟩
    walk_at "go"
    exact .mk ⟨rfl, _, _, rfl, Int.emod_nonneg _ (by decide), Int.emod_lt_of_pos _ (by decide)⟩
  · rintro σ H2 h
    obtain ⟨rfl, m, v, rfl, h0, h1⟩ := h.out
    walk_at "go"
    refine ⟨by simp, fun D H1 nD s1 t1 e1 => ?_⟩
    refine q D H1 nD s1 ⟨a, ns, _, _, _, e1, (same_tk s1).f _ _ hF, hl, Int.le_refl _, ?_, ?_, Int.le_refl _⟩
    all_goals (split <;> omega)

def spNext (K : PySem.W.Frag) : Sp := fun vs H Q _ => ∃ (D : Addr) (m : Int), vs = [.ref D, .int m] ∧ 1 ≤ m ∧ m ≤ 1000003 ∧ IsDice K H D ∧
  ∀ (r : Int) H', 0 ≤ r → r < m → IsDice K H' D → But D H H' → Q (.int r) H'
theorem ok__law_next (T : Tx P K w mg) : FnOk P w K mg base CX0 1 T._law_next.f T._law_next.fd ["_law_dice_here", "_law_many"] (spNext K) := by
  refine T._law_next.F.ok sc__law_next (fun vs H Q E h => ?_) (fun cdv A outer s H vs Q E hr h => ?_)
  · obtain ⟨a, ns, rfl, _⟩ := h
    rfl
  obtain ⟨D, m, rfl, h1, h2, hD, q⟩ := h
  obtain ⟨a, ns, p, mx, r, eD, hF, hl, hp, hm0, hm1, hr0⟩ := hD
  have hS := hF.seq
  have mo : ∀ z : Int, 0 ≤ z % m ∧ z % m < m := fun z => ⟨Int.emod_nonneg _ (by omega), Int.emod_lt_of_pos _ (by omega)⟩
  have dv : ∀ z : Int, 0 ≤ z → 0 ≤ z / m := fun z hz => Int.ediv_nonneg hz (by omega)
  refine ⟨_, (pss_cons (ps_if (pt_cmpR op_gt (pe_ix ix_list (pv 0) pe_int (fun _ _ => rfl)) pe_int (nomark _)) (pss_cons (ps_set (i := 2) sc__law_next.nd rfl (by first | exact Or.inl rfl | exact Or.inr rfl) (pe_op op_mod (pe_ix ix_list (pv 0) pe_int (fun _ _ => rfl)) (pv 1)))
      (pss_cons (ps_asg (pe_op op_fdiv (pe_ix ix_list (pv 0) pe_int (fun _ _ => rfl)) (pv 1)) (pg_sub (pv 0) pe_int set_listN))
      (pss_one (ps_ret (pv 2))))) pss_nil)
      (pss_cons (ps_asg (pe_op op_add (pe_ix ix_list (pv 0) pe_int (fun _ _ => rfl)) pe_int) (pg_sub (pv 0) pe_int set_listN))
      (pss_cons (ps_if (pt_cmpR op_le (pe_ix ix_list (pv 0) pe_int (fun _ _ => rfl)) (pe_callB call_len_seq (by rfl) T.z_len PySem.boot_len (pa_cons (pe_ix ix_list (pv 0) pe_int (fun _ _ => rfl)) pa_nil)) (nomark _)) (pss_cons (ps_set (i := 3) sc__law_next.nd rfl (by first | exact Or.inl rfl | exact Or.inr rfl) (pe_ix ix_list (pe_ix ix_list (pv 0) pe_int (fun _ _ => rfl)) (pe_op op_sub (pe_ix ix_list (pv 0) pe_int (fun _ _ => rfl)) pe_int) (fun _ _ => rfl)))
      (pss_cons (ps_asg (pe_ifExp (pt_cmpR op_ge (pv 3) (pe_op op_pow pe_int pe_int) (nomark _)) (pe_op op_fdiv (pv 3) (pv 1)) pe_int) (pg_sub (pv 0) pe_int set_listN))
      (pss_one (ps_ret (pe_op op_mod (pv 3) (pv 1)))))) pss_nil)
      (pss_cons (ps_asg (pe_op op_mod (pe_op op_mul (pe_ix ix_list (pv 0) pe_int (fun _ _ => rfl)) pe_int) pe_int) (pg_sub (pv 0) pe_int set_listN))
      (pss_one (ps_ret (pe_op op_mod (pe_op op_fdiv (pe_ix ix_list (pv 0) pe_int (fun _ _ => rfl)) pe_int) (pv 1)))))))), ?_⟩
  walk_at "go"
  refine ite_d (fun c => ?_) (fun c => ?_)
  · walk_at "go"
    refine ⟨_, _, _, _, _, rfl, rfl, eD, rfl, rfl, fun H1 b1 t_b1 e1 => ?_⟩
    have e1 : H1 D = some (.lst [.ref a, .int p, .int mx, .int (r / m)]) := e1
    walk_at "go"
    exact q _ H1 (mo r).1 (mo r).2 ⟨a, ns, p, mx, _, e1, (b1.tk eD).f _ _ hF, hl, hp, hm0, hm1, dv r hr0⟩ b1
  · walk_at "go"
    refine ⟨_, _, _, _, _, rfl, rfl, eD, rfl, rfl, fun H1 b1 t_b1 e1 => ?_⟩
    have e1 : H1 D = some (.lst [.ref a, .int (p + 1), .int mx, .int r]) := e1
    have hF1 := (b1.tk (K := K) eD).f _ _ hF
    have hS1 := hF1.seq
    walk_at "go"
    refine ite_d (fun c2 => ?_) (fun c2 => ?_)
    · rw [List.length_map] at c2
      have hj : p.toNat < ns.length := by omega
      have hat : atI (ns.map V.int) (p + 1 - 1) = some (.int ns[p.toNat]) := by
        refine at_of (j := p.toNat) (by omega) ?_
        rw [List.getElem?_map, List.getElem?_eq_getElem hj]
        rfl
      walk_at "go"
      refine ⟨_, _, _, _, rfl, rfl, hS1, hat, ?_⟩
      walk_at "go"
      refine ite_d (fun c3 => ?_) (fun c3 => ?_)
      · have c3 : (1000000000000000000 : Int) ≤ ns[p.toNat] := c3
        walk_at "go"
        refine ⟨_, _, _, _, _, rfl, rfl, e1, rfl, rfl, fun H2 b2 t_b2 e2 => ?_⟩
        have e2 : H2 D = some (.lst [.ref a, .int (p + 1), .int mx, .int (ns[p.toNat] / m)]) := e2
        walk_at "go"
        exact q _ H2 (mo _).1 (mo _).2 ⟨a, ns, _, mx, _, e2, (b2.tk e1).f _ _ hF1, hl, by omega, hm0, hm1, dv _ (by omega)⟩ (b1.trans b2)
      · walk_at "go"
        refine ⟨_, _, _, _, _, rfl, rfl, e1, rfl, rfl, fun H2 b2 t_b2 e2 => ?_⟩
        have e2 : H2 D = some (.lst [.ref a, .int (p + 1), .int mx, .int 0]) := e2
        walk_at "go"
        exact q _ H2 (mo _).1 (mo _).2 ⟨a, ns, _, mx, _, e2, (b2.tk e1).f _ _ hF1, hl, by omega, hm0, hm1, Int.le_refl _⟩ (b1.trans b2)
    · walk_at "go"
      refine ⟨_, _, _, _, _, rfl, rfl, e1, rfl, rfl, fun H2 b2 t_b2 e2 => ?_⟩
      have e2 : H2 D = some (.lst [.ref a, .int (p + 1), .int (mx * 48271 % 2147483647), .int r]) := e2
      walk_at "go"
      exact q _ H2 (mo _).1 (mo _).2 ⟨a, ns, _, _, _, e2, (b2.tk e1).f _ _ hF1, hl, by omega, Int.emod_nonneg _ (by decide), Int.emod_lt_of_pos _ (by decide), hr0⟩ (b1.trans b2)

def spKindDone (K : PySem.W.Frag) : Sp := fun vs H Q _ => ∃ (vw vk : V), vs = [vw, vk] ∧ Hold (∃ (d : Deed) (k : Kd), vw = .str (wdD d) ∧ Im K H vk k.d ∧ k.dp ≤ 60 ∧ ∀ v H', Same H H' → Im K H' v (kdO (kindD d k)) → Q v H')
theorem Kd.shaped60 {k : Kd} (h : k.dp ≤ 60) : SeqAt.shaped k.d = true := by
  unfold SeqAt.shaped
  rw [Kd.can, Kd.depth, Bool.true_and]
  exact decide_eq_true (by omega)
theorem ok_kind_done (T : Tx P K w mg) : FnOk P w K mg base CX0 1 T.kind_done.f T.kind_done.fd ["word", "kind"] (spKindDone K) := by
  refine T.kind_done.F.ok sc_kind_done (fun vs H Q E h => ?_) (fun cdv A outer s H vs Q E hr h => ?_)
  · obtain ⟨a, b, rfl, _⟩ := h
    rfl
  obtain ⟨vw, vk, rfl, h⟩ := h
  obtain ⟨d, k, rfl, ik, hk, q⟩ := h.out
  refine ⟨_, (pss_cons (ps_if (pt_cmpR op_eq (pv 0) pe_str (nomark _)) (pss_one (ps_ret (pe_td (pa_cons pe_str (pa_cons (pv 1) (pa_cons (pv 1) pa_nil)))))) pss_nil)
      (pss_cons (ps_if (pt_cmpR op_eq (pv 0) pe_str (nomark _)) (pss_one (ps_ret (pe_ifExp (pt_cmpR op_eq (pe_ix ix_kd (pv 1) pe_int (fun _ _ => rfl)) pe_str (nomark _)) (pe_glob (v := .str "number") (by rfl) T.c_NUMBER.g ⟨_, rfl⟩) pe_non))) pss_nil)
      (pss_cons (ps_if (pt_cmpR op_eq (pv 0) pe_str (nomark _)) (pss_one (ps_ret (pe_ifExp (pt_cmpR (op_eqD hr.units) (pv 1) (pe_td (pa_cons pe_str (pa_cons (pe_glob (v := .str "number") (by rfl) T.c_NUMBER.g ⟨_, rfl⟩) pa_nil))) (nomark _)) (pe_glob (v := .str "number") (by rfl) T.c_NUMBER.g ⟨_, rfl⟩) pe_non))) pss_nil)
      (pss_cons (ps_if (pt_cmpR op_inTS (pv 0) (pe_td (pa_cons pe_str (pa_cons pe_str pa_nil))) (by rfl)) (pss_cons (ps_if (pt_cmpR op_ne (pe_ix ix_kd (pv 1) pe_int (fun _ _ => rfl)) pe_str (nomark _)) (pss_one (ps_ret pe_non)) pss_nil)
      (pss_one (ps_ret (pe_ifExp (pt_cmpR op_eq (pv 0) pe_str (nomark _)) (pe_ix ix_kd (pv 1) pe_int (fun _ _ => rfl)) (pe_ix ix_kd (pv 1) pe_int (fun _ _ => rfl)))))) pss_nil)
      (pss_one (ps_ret (pe_ifExp (pt_cmpR (op_eqD hr.units) (pv 1) (pe_glob (v := .str "number") (by rfl) T.c_NUMBER.g ⟨_, rfl⟩) (nomark _)) (pe_glob (v := .str "number") (by rfl) T.c_NUMBER.g ⟨_, rfl⟩) pe_non))))))), ?_⟩
  have num : ∀ (H1 : Hp), Same H H1 → (∀ v H', Same H H' → Im K H' v (kdO (if k = .num then some .num else none)) → Q v H') → Im K H1 vk k.d →
      rEqD K vk (.str "number") H1 fun x H' => ∃ b, x = V.bl b ∧ (if b = true then Q (.str "number") H' else Q .non H') := fun H1 s1 q i1 => by
    refine ⟨k.d, Kd.num.d, Im.p i1, .str _, Kd.shaped60 hk, by decide +kernel, ?_⟩
    rw [Kd.eqv]
    refine ⟨_, rfl, ?_⟩
    by_cases c : k = .num
    · refine ite_t (decide_eq_true c) ?_
      rw [if_pos c] at q
      exact q _ H1 s1 (.str _)
    · refine ite_f (decide_eq_false c) ?_
      rw [if_neg c] at q
      exact q _ H1 s1 .non
  cases d with
  | both =>
    walk_at "go"
    refine ⟨[.str "pair", k.d, k.d], .cons (.str _) (.cons ik (.cons ik .nil)), by simp, fun p H1 s1 t1 i1 => ?_⟩
    exact q _ H1 s1 i1
  | many =>
    walk_at "go"
    cases k with
    | num =>
      obtain rfl := Im.s ik
      refine Or.inl ⟨_, 110, rfl, rfl, by decide, by decide +kernel, ?_⟩
      walk_at "go"
      exact q _ H (Same.refl H) .non
    | pair a b =>
      refine Or.inr ⟨_, 0, 0, _, ik, rfl, rfl, rfl, fun v iv => ?_⟩
      obtain rfl := iv.s
      walk_at "go"
      exact q _ H (Same.refl H) .non
    | row a =>
      refine Or.inr ⟨_, 0, 0, _, ik, rfl, rfl, rfl, fun v iv => ?_⟩
      obtain rfl := iv.s
      walk_at "go"
      exact q _ H (Same.refl H) (.str _)
  | sum =>
    walk_at "go"
    refine ⟨[.str "row", .str "number"], .cons (.str _) (.cons (.str _) .nil), by simp, fun p1 H1 s1 t1 i1 => ?_⟩
    refine ⟨k.d, (Kd.row .num).d, (ik.u t1).p, i1.p, Kd.shaped60 hk, by decide +kernel, ?_⟩
    rw [Kd.eqv]
    refine ⟨_, rfl, ?_⟩
    by_cases c : k = .row .num
    · refine ite_t (decide_eq_true c) ?_
      walk_at "go"
      subst c
      exact q _ H1 s1 (.str _)
    · refine ite_f (decide_eq_false c) ?_
      walk_at "go"
      have e : kindD .sum k = none := by
        cases k with
        | row a =>
          cases a with
          | num => exact absurd rfl c
          | _ => rfl
        | _ => rfl
      rw [e] at q
      exact q _ H1 s1 .non
  | first =>
    walk_at "go"
    refine ⟨[.str "first", .str "second"], .cons (.str _) (.cons (.str _) .nil), by simp, fun p1 H1 s1 t1 i1 => ?_⟩
    refine ⟨_, ["first", "second"], rfl, i1, ?_⟩
    refine ⟨_, rfl, ?_⟩
    walk_at "w"
    walk_at "go"
    have j := ik.u t1
    cases k with
    | num =>
      obtain rfl := Im.s ik
      refine Or.inl ⟨_, 110, rfl, rfl, by decide, by decide +kernel, ?_⟩
      walk_at "go"
      exact q _ H1 s1 .non
    | row a =>
      refine Or.inr ⟨_, 0, 0, _, j, rfl, rfl, rfl, fun v iv => ?_⟩
      obtain rfl := iv.s
      walk_at "go"
      exact q _ H1 s1 .non
    | pair a b =>
      refine Or.inr ⟨_, 0, 0, _, j, rfl, rfl, rfl, fun v iv => ?_⟩
      obtain rfl := iv.s
      walk_at "go"
      refine Or.inr ⟨_, 1, 1, _, j, rfl, rfl, rfl, fun v iv => ?_⟩
      exact q _ H1 s1 iv
  | second =>
    walk_at "go"
    refine ⟨[.str "first", .str "second"], .cons (.str _) (.cons (.str _) .nil), by simp, fun p1 H1 s1 t1 i1 => ?_⟩
    refine ⟨_, ["first", "second"], rfl, i1, ?_⟩
    refine ⟨_, rfl, ?_⟩
    walk_at "w"
    walk_at "go"
    have j := ik.u t1
    cases k with
    | num =>
      obtain rfl := Im.s ik
      refine Or.inl ⟨_, 110, rfl, rfl, by decide, by decide +kernel, ?_⟩
      walk_at "go"
      exact q _ H1 s1 .non
    | row a =>
      refine Or.inr ⟨_, 0, 0, _, j, rfl, rfl, rfl, fun v iv => ?_⟩
      obtain rfl := iv.s
      walk_at "go"
      exact q _ H1 s1 .non
    | pair a b =>
      refine Or.inr ⟨_, 0, 0, _, j, rfl, rfl, rfl, fun v iv => ?_⟩
      obtain rfl := iv.s
      walk_at "go"
      refine Or.inr ⟨_, 2, 2, _, j, rfl, rfl, rfl, fun v iv => ?_⟩
      exact q _ H1 s1 iv
  | add n =>
    walk_at "go"
    refine ⟨[.str "first", .str "second"], .cons (.str _) (.cons (.str _) .nil), by simp, fun p1 H1 s1 t1 i1 => ?_⟩
    refine ⟨_, ["first", "second"], rfl, i1, ?_⟩
    refine ⟨_, rfl, ?_⟩
    refine ite_f (by show decide (("add" : Str) ∈ [("first" : Str), "second"]) = false; decide +kernel) ?_
    walk_at "go"
    have e : kindD (.add n) k = if k = .num then some .num else none := by cases k <;> rfl
    rw [e] at q
    exact num H1 s1 q (ik.u t1)
  | times n =>
    walk_at "go"
    refine ⟨[.str "first", .str "second"], .cons (.str _) (.cons (.str _) .nil), by simp, fun p1 H1 s1 t1 i1 => ?_⟩
    refine ⟨_, ["first", "second"], rfl, i1, ?_⟩
    refine ⟨_, rfl, ?_⟩
    refine ite_f (by show decide (("times" : Str) ∈ [("first" : Str), "second"]) = false; decide +kernel) ?_
    walk_at "go"
    have e : kindD (.times n) k = if k = .num then some .num else none := by cases k <;> rfl
    rw [e] at q
    exact num H1 s1 q (ik.u t1)
  | minus =>
    walk_at "go"
    refine ⟨[.str "first", .str "second"], .cons (.str _) (.cons (.str _) .nil), by simp, fun p1 H1 s1 t1 i1 => ?_⟩
    refine ⟨_, ["first", "second"], rfl, i1, ?_⟩
    refine ⟨_, rfl, ?_⟩
    walk_at "w"
    walk_at "go"
    have e : kindD .minus k = if k = .num then some .num else none := by cases k <;> rfl
    rw [e] at q
    exact num H1 s1 q (ik.u t1)

def spKindMade (K : PySem.W.Frag) : Sp := fun vs H Q _ => ∃ (vd vk : V), vs = [vd, vk] ∧ Hold (∃ (ds : List Deed) (k : Kd), Im K H vd (.tuple (ds.map Deed.d)) ∧ Im K H vk k.d ∧ (∀ i k1, kindAll (ds.take i) k = some k1 → k1.dp ≤ 60) ∧ ∀ v H', Same H H' → Im K H' v (kdO (kindAll ds k)) → Q v H')
theorem kindD_dp {d : Deed} {k k' : Kd} (h : kindD d k = some k') : k'.dp ≤ k.dp + 1 := by
  cases d with
  | both => cases h; simp only [Kd.dp]; omega
  | add n => cases k with
    | num => cases h; exact Nat.zero_le _
    | _ => cases h
  | times n => cases k with
    | num => cases h; exact Nat.zero_le _
    | _ => cases h
  | minus => cases k with
    | num => cases h; exact Nat.zero_le _
    | _ => cases h
  | first => cases k with
    | pair a b => cases h; simp only [Kd.dp]; omega
    | _ => cases h
  | second => cases k with
    | pair a b => cases h; simp only [Kd.dp]; omega
    | _ => cases h
  | sum => cases k with
    | row a => cases a with
      | num => cases h; exact Nat.zero_le _
      | _ => cases h
    | _ => cases h
  | many => cases k with
    | row a => cases h; exact Nat.zero_le _
    | _ => cases h
theorem kindAll_none : ∀ {ds : List Deed} {k k1 : Kd} {i : Nat} {d : Deed}, ds[i]? = some d → kindAll (ds.take i) k = some k1 → kindD d k1 = none → kindAll ds k = none
  | [], _, _, _, _, h, _, _ => by simp at h
  | e :: ds, k, k1, 0, d, h, h1, h2 => by
    obtain rfl : e = d := by simpa using h
    cases h1
    show (kindD e k).bind _ = none
    rw [h2]
    rfl
  | e :: ds, k, k1, i + 1, d, h, h1, h2 => by
    have h1 : (kindD e k).bind (kindAll (ds.take i)) = some k1 := h1
    show (kindD e k).bind (kindAll ds) = none
    cases q : kindD e k with
    | none => rfl
    | some z =>
      rw [q] at h1
      exact kindAll_none (ds := ds) (i := i) (by simpa using h) h1 h2
theorem ok_kind_made (T : Tx P K w mg) : FnOk P w K mg base CX0 2 T.kind_made.f T.kind_made.fd ["deeds", "kind"] (spKindMade K) := by
  refine T.kind_made.F.ok sc_kind_made (fun vs H Q E h => ?_) (fun cdv A outer s H vs Q E hr h => ?_)
  · obtain ⟨a, b, rfl, _⟩ := h
    rfl
  obtain ⟨vd, vk, rfl, h⟩ := h
  obtain ⟨ds, k, id, ik, hk, q⟩ := h.out
  obtain ⟨a, xs, rfl, ht, hs⟩ := id.t
  have len := hs.len
  rw [List.length_map] at len
  refine ⟨_, (pss_cons (ps_for PassesOwn.never rfl (pi_tup (pv 0)) (pg_name (i := 2) sc_kind_made.nd rfl (by first | exact Or.inl rfl | exact Or.inr rfl)) (pss_cons (ps_set (i := 1) sc_kind_made.nd rfl (by first | exact Or.inl rfl | exact Or.inr rfl) (pe_call (ok_kind_done T) hr (by rfl) T.kind_done.g T.kind_done.F.kp T.kind_done.b .nil pass0 (pa_cons (pe_ix ix_tupD (pv 2) pe_int (fun _ _ => rfl)) (pa_cons (pv 1) pa_nil))))
      (pss_one (ps_if (pt_cmpR op_isN (pv 1) pe_non (nomark _)) (pss_one (ps_ret pe_non)) pss_nil))))
      (pss_one (ps_ret (pv 1)))), ?_⟩
  refine ⟨_, rfl, a, rfl, ⟨_, ht⟩, for_tup (K := K) (a := a) (xs := xs) (fun i σ H2 => Hold (∃ (v : V) (o : Option V) (k1 : Kd), σ = [some (.ref a), some v, o] ∧ Same H H2 ∧ kindAll (ds.take i) k = some k1 ∧ Im K H2 v k1.d))
    (.mk ⟨vk, none, k, rfl, Same.refl H, rfl, ik⟩) (fun i σ H2 _ h => by obtain ⟨_, _, _, _, s2, _⟩ := h.out; exact (same_tk s2).t _ _ ht) ?_ ?_⟩
  · intro i y σ H2 hi h
    obtain ⟨v, o, k1, rfl, s2, e1, iv⟩ := h.out
    obtain ⟨d, hd, iy⟩ := hs.get hi
    rw [List.getElem?_map] at hd
    obtain ⟨d, hd', rfl⟩ := Option.map_eq_some_iff.mp hd
    have iy2 := iy.u (same_tk s2)
    obtain ⟨wd, ed, ew⟩ := d.tail
    rw [ed] at iy2
    have hi' := (List.getElem?_eq_some_iff.mp hd').1
    walk_at "go"
    refine ⟨_, 0, 0, _, iy2, rfl, rfl, rfl, fun u iu => ?_⟩
    obtain rfl := iu.s
    walk_at "go"
    refine .mk ⟨d, k1, by rw [ew], iv, hk _ _ e1, fun v3 H3 s3 i3 => ?_⟩
    walk_at "go"
    cases e2 : kindD d k1 with
    | none =>
      rw [e2] at i3
      obtain rfl : v3 = .non := by cases i3; rfl
      refine ite_t (decide_eq_true rfl) ?_
      walk_at "go"
      refine q _ H3 (s2.trans s3) ?_
      rw [kindAll_none hd' e1 e2]
      exact .non
    | some k2 =>
      rw [e2] at i3
      refine ite_f (decide_eq_false (kdO_ne i3)) ?_
      walk_at "go"
      refine .mk ⟨v3, _, k2, rfl, s2.trans s3, ?_, i3⟩
      rw [take_succ hd', kindAll_snoc e1, e2]
  · intro σ H2 h
    obtain ⟨v, o, k1, rfl, s2, e1, iv⟩ := h.out
    walk_at "go"
    rw [len, List.take_length] at e1
    refine q v H2 s2 ?_
    rw [e1]
    exact iv

def spKindOf (K : PySem.W.Frag) : Sp := fun vs H Q _ => ∃ (v vp : V), vs = [v, vp] ∧ Hold (∃ (l : Ln) (p : Addr) (ks : List Kd), vp = .ref p ∧ Im K H v l.d ∧ Acc K H p (ks.map Kd.d) ∧ ks.length = l.names.length ∧ (∀ k ∈ ks, k.dp ≤ 60) ∧
  (∀ ds a k, l = .map ds a → ks = [k] → ∀ i k1, kindAll (ds.take i) k = some k1 → k1.dp ≤ 60) ∧ ∀ u H', Same H H' → Im K H' u (kdO (kindN l ks)) → Q u H')
theorem two_of {α : Type} {xs : List α} (h : xs.length = 2) : ∃ a b, xs = [a, b] := by
  match xs, h with
  | [a, b], _ => exact ⟨a, b, rfl⟩
theorem one_of {α : Type} {xs : List α} (h : xs.length = 1) : ∃ a, xs = [a] := by
  match xs, h with
  | [a], _ => exact ⟨a, rfl⟩
theorem ok_kind_of (T : Tx P K w mg) : FnOk P w K mg base CX0 3 T.kind_of.f T.kind_of.fd ["line", "kinds"] (spKindOf K) := by
  refine T.kind_of.F.ok sc_kind_of (fun vs H Q E h => ?_) (fun cdv A outer s H vs Q E hr h => ?_)
  · obtain ⟨a, b, rfl, _⟩ := h
    rfl
  obtain ⟨v, vp, rfl, h⟩ := h
  obtain ⟨l, p, ks, rfl, iv, a0, hl, hd, hm, q⟩ := h.out
  refine ⟨_, (pss_cons (ps_set (i := 2) sc_kind_of.nd rfl (by first | exact Or.inl rfl | exact Or.inr rfl) (pe_ix ix_tupD (pv 0) pe_int (fun _ _ => rfl)))
      (pss_cons (ps_if (pt_cmpR op_eq (pv 2) pe_str (nomark _)) (pss_one (ps_ret (pe_call (ok_kind_made T) hr (by rfl) T.kind_made.g T.kind_made.F.kp T.kind_made.b .nil pass0 (pa_cons (pe_ix ix_tupD (pv 0) pe_int (fun _ _ => rfl)) (pa_cons (pe_ix ix_listA (pv 1) pe_int (fun _ _ => rfl)) pa_nil))))) pss_nil)
      (pss_cons (ps_if (pt_cmpR op_inTS (pv 2) (pe_td (pa_cons pe_str (pa_cons pe_str pa_nil))) (by rfl)) (pss_one (ps_ret (pe_ix ix_listA (pv 1) pe_int (fun _ _ => rfl)))) pss_nil)
      (pss_cons (ps_if (pt_cmpR op_eq (pv 2) pe_str (nomark _)) (pss_one (ps_ret (pe_td (pa_cons pe_str (pa_cons (pe_ix ix_listA (pv 1) pe_int (fun _ _ => rfl)) pa_nil))))) pss_nil)
      (pss_cons (ps_if (pt_cmpR op_eq (pv 2) pe_str (nomark _)) (pss_one (ps_ret (pe_td (pa_cons pe_str (pa_cons (pe_ix ix_listA (pv 1) pe_int (fun _ _ => rfl)) (pa_cons (pe_ix ix_listA (pv 1) pe_int (fun _ _ => rfl)) pa_nil)))))) pss_nil)
      (pss_cons (ps_if (pt_cmpR op_eq (pv 2) pe_str (nomark _)) (pss_one (ps_ret (pe_ifExp (pt_cmpR (op_eqD hr.units) (pe_ix ix_listA (pv 1) pe_int (fun _ _ => rfl)) (pe_ix ix_listA (pv 1) pe_int (fun _ _ => rfl)) (nomark _)) (pe_ix ix_listA (pv 1) pe_int (fun _ _ => rfl)) pe_non))) pss_nil)
      (pss_cons (ps_if (pt_not (pt_val (pe_callB (cr_all rfl) (by rfl) T.z_all (by decide +kernel) (pa_cons (pe_lc (own := [("kind", 3)]) (g := gName 3) (tt := tYes) rfl sc_kind_of.nd (pi_list (pv 1)) (blkOk_by (own := [("kind", 3)]) (N := ["line", "kinds", "word", "kind"]) (sc := defScope s_kind_of) (by decide +kernel)) (fun _ _ _ _ _ => pg_name (i := 3) sc_kind_of.nd rfl (Or.inl rfl)) (fun _ _ _ _ _ => pts_nil) (fun _ _ _ _ _ => (pe_cmpR (show OpR _ _ (rEqD K) from (op_eqD hr.units)) (pv 3) (pe_glob (v := .str "number") (by rfl) T.c_NUMBER.g ⟨_, rfl⟩) (nomark _)))) pa_nil)))) (pss_one (ps_ret pe_non)) pss_nil)
      (pss_one (ps_ret (pe_ifExp (pt_cmpR op_eq (pv 2) pe_str (nomark _)) (pe_td (pa_cons pe_str (pa_cons (pe_glob (v := .str "number") (by rfl) T.c_NUMBER.g ⟨_, rfl⟩) (pa_cons (pe_td (pa_cons pe_str (pa_cons (pe_glob (v := .str "number") (by rfl) T.c_NUMBER.g ⟨_, rfl⟩) pa_nil))) pa_nil)))) (pe_glob (v := .str "number") (by rfl) T.c_NUMBER.g ⟨_, rfl⟩))))))))))), ?_⟩
  cases l with
  | map ds a =>
    obtain ⟨k, rfl⟩ := one_of hl
    walk_at "wds"
    refine ⟨_, 1, 1, _, iv, rfl, rfl, rfl, fun u iu => ?_⟩
    walk_at "go"
    refine ⟨_, _, _, 0, _, rfl, a0, rfl, rfl, rfl, fun x ix => ?_⟩
    walk_at "go"
    exact .mk ⟨ds, k, iu, ix, hm ds a k rfl rfl, q⟩
  | take n a =>
    obtain ⟨k, rfl⟩ := one_of hl
    walk_at "wds"
    refine ⟨[.str "take", .str "skip"], .cons (.str _) (.cons (.str _) .nil), by simp, fun p1 H1 s1 t1 i1 => ?_⟩
    refine ⟨_, ["take", "skip"], rfl, i1, ?_⟩
    refine ⟨_, rfl, ?_⟩
    walk_at "w"
    walk_at "go"
    refine ⟨_, _, _, 0, _, rfl, a0.same s1, rfl, rfl, rfl, fun x ix => ?_⟩
    exact q _ H1 s1 ix
  | skip n a =>
    obtain ⟨k, rfl⟩ := one_of hl
    walk_at "wds"
    refine ⟨[.str "take", .str "skip"], .cons (.str _) (.cons (.str _) .nil), by simp, fun p1 H1 s1 t1 i1 => ?_⟩
    refine ⟨_, ["take", "skip"], rfl, i1, ?_⟩
    refine ⟨_, rfl, ?_⟩
    walk_at "w"
    walk_at "go"
    refine ⟨_, _, _, 0, _, rfl, a0.same s1, rfl, rfl, rfl, fun x ix => ?_⟩
    exact q _ H1 s1 ix
  | window n a =>
    obtain ⟨k, rfl⟩ := one_of hl
    walk_at "wds"
    refine ⟨[.str "take", .str "skip"], .cons (.str _) (.cons (.str _) .nil), by simp, fun p1 H1 s1 t1 i1 => ?_⟩
    refine ⟨_, ["take", "skip"], rfl, i1, ?_⟩
    refine ⟨_, rfl, ?_⟩
    walk_at "w"
    walk_at "go"
    refine ⟨_, _, _, 0, _, rfl, a0.same s1, rfl, rfl, rfl, fun x ix => ?_⟩
    refine ⟨[.str "row", k.d], .cons (.str _) (.cons ix .nil), by simp, fun p2 H2 s2 t2 i2 => ?_⟩
    exact q _ H2 (s1.trans s2) i2
  | pair a b =>
    obtain ⟨k, j, rfl⟩ := two_of hl
    walk_at "wds"
    refine ⟨[.str "take", .str "skip"], .cons (.str _) (.cons (.str _) .nil), by simp, fun p1 H1 s1 t1 i1 => ?_⟩
    refine ⟨_, ["take", "skip"], rfl, i1, ?_⟩
    refine ⟨_, rfl, ?_⟩
    walk_at "w"
    walk_at "go"
    refine ⟨_, _, _, 0, _, rfl, a0.same s1, rfl, rfl, rfl, fun x ix => ?_⟩
    walk_at "go"
    refine ⟨_, _, _, 1, _, rfl, a0.same s1, rfl, rfl, rfl, fun y iy => ?_⟩
    refine ⟨[.str "pair", k.d, j.d], .cons (.str _) (.cons ix (.cons iy .nil)), by simp, fun p2 H2 s2 t2 i2 => ?_⟩
    exact q _ H2 (s1.trans s2) i2
  | chain a b =>
    obtain ⟨k, j, rfl⟩ := two_of hl
    walk_at "wds"
    refine ⟨[.str "take", .str "skip"], .cons (.str _) (.cons (.str _) .nil), by simp, fun p1 H1 s1 t1 i1 => ?_⟩
    refine ⟨_, ["take", "skip"], rfl, i1, ?_⟩
    refine ⟨_, rfl, ?_⟩
    walk_at "w"
    walk_at "go"
    refine ⟨_, _, _, 0, _, rfl, a0.same s1, rfl, rfl, rfl, fun x ix => ?_⟩
    walk_at "go"
    refine ⟨_, _, _, 1, _, rfl, a0.same s1, rfl, rfl, rfl, fun y iy => ?_⟩
    refine ⟨k.d, j.d, ix.p, iy.p, Kd.shaped60 (hd _ (by simp)), Kd.shaped60 (hd _ (by simp)), ?_⟩
    rw [Kd.eqv]
    refine ⟨_, rfl, ?_⟩
    have e : kindN (.chain a b) [k, j] = if k = j then some k else none := rfl
    rw [e] at q
    by_cases c : k = j
    · refine ite_t (decide_eq_true c) ?_
      walk_at "go"
      refine ⟨_, _, _, 0, _, rfl, a0.same s1, rfl, rfl, rfl, fun z iz => ?_⟩
      rw [if_pos c] at q
      exact q _ H1 s1 iz
    · refine ite_f (decide_eq_false c) ?_
      walk_at "go"
      rw [if_neg c] at q
      exact q _ H1 s1 .non
  | source k0 =>
    obtain rfl : ks = [] := List.length_eq_zero_iff.mp hl
    walk_at "wds"
    refine ⟨[.str "take", .str "skip"], .cons (.str _) (.cons (.str _) .nil), by simp, fun p1 H1 s1 t1 i1 => ?_⟩
    refine ⟨_, ["take", "skip"], rfl, i1, ?_⟩
    refine ⟨_, rfl, ?_⟩
    walk_at "w"
    walk_at "go"
    obtain ⟨xs, e1, i1⟩ := a0.same s1
    have len := i1.len
    rw [List.length_map] at len
    refine ⟨⟨_, SqL.of e1⟩, fun D nD => lc_list (K := K) (a := p) (xs := xs) (fun i H2 => Hold (Same H1 H2 ∧ H2 D = some (.lst (((([] : List Kd).take i).map fun k => decide (k = .num)).map V.bl))))
        (.mk ⟨same_new nD, upd_same⟩) (fun i H2 _ h => SqL.of (h.out.1 _ _ e1)) ?_ ?_⟩
    · intro i y H2 hi h
      obtain ⟨s2, e2⟩ := h.out
      obtain ⟨d, hd', iy⟩ := i1.get hi
      rw [List.getElem?_map] at hd'
      obtain ⟨k', hk, rfl⟩ := Option.map_eq_some_iff.mp hd'
      walk_at "go"
      refine ⟨k'.d, Kd.num.d, (iy.u (same_tk s2)).p, .str _, Kd.shaped60 (hd _ (List.mem_of_getElem? hk)), by decide +kernel, ?_⟩
      rw [Kd.eqv]
      refine ⟨_, e2, ?_, .mk ⟨same_put s2 nD, ?_⟩⟩
      · rw [List.length_map, List.length_map, List.length_take]
        refine small1000 ?_
        simp
      · rw [upd_same, take_succ hk, List.map_append, List.map_append]
        rfl
    · intro H2 h
      obtain ⟨s2, e2⟩ := h.out
      have s12 := s1.trans s2
      rw [len, List.take_length] at e2
      refine ⟨_, _, rfl, SqL.of e2, ?_⟩
      walk_at "go"
      exact q _ H2 s12 (.str _)
  | keep ts a =>
    obtain ⟨k, rfl⟩ := one_of hl
    walk_at "wds"
    refine ⟨[.str "take", .str "skip"], .cons (.str _) (.cons (.str _) .nil), by simp, fun p1 H1 s1 t1 i1 => ?_⟩
    refine ⟨_, ["take", "skip"], rfl, i1, ?_⟩
    refine ⟨_, rfl, ?_⟩
    walk_at "w"
    walk_at "go"
    obtain ⟨xs, e1, i1⟩ := a0.same s1
    have len := i1.len
    rw [List.length_map] at len
    refine ⟨⟨_, SqL.of e1⟩, fun D nD => lc_list (K := K) (a := p) (xs := xs) (fun i H2 => Hold (Same H1 H2 ∧ H2 D = some (.lst ((([k].take i).map fun k => decide (k = .num)).map V.bl))))
        (.mk ⟨same_new nD, upd_same⟩) (fun i H2 _ h => SqL.of (h.out.1 _ _ e1)) ?_ ?_⟩
    · intro i y H2 hi h
      obtain ⟨s2, e2⟩ := h.out
      obtain ⟨d, hd', iy⟩ := i1.get hi
      rw [List.getElem?_map] at hd'
      obtain ⟨k', hk, rfl⟩ := Option.map_eq_some_iff.mp hd'
      walk_at "go"
      refine ⟨k'.d, Kd.num.d, (iy.u (same_tk s2)).p, .str _, Kd.shaped60 (hd _ (List.mem_of_getElem? hk)), by decide +kernel, ?_⟩
      rw [Kd.eqv]
      refine ⟨_, e2, ?_, .mk ⟨same_put s2 nD, ?_⟩⟩
      · rw [List.length_map, List.length_map, List.length_take]
        refine small1000 ?_
        simp
        omega
      · rw [upd_same, take_succ hk, List.map_append, List.map_append]
        rfl
    · intro H2 h
      obtain ⟨s2, e2⟩ := h.out
      have s12 := s1.trans s2
      rw [len, List.take_length] at e2
      refine ⟨_, _, rfl, SqL.of e2, ?_⟩
      by_cases c : k = .num
      · subst c
        walk_at "go"
        exact q _ H2 s12 (.str _)
      · have e : (List.map (fun k => decide (k = Kd.num)) [k]).all id = false := by simp [c]
        rw [e]
        walk_at "go"
        refine q _ H2 s12 ?_
        have e2 : kindN (.keep ts a) [k] = none := if_neg c
        rw [e2]
        exact .non
  | whil ts a =>
    obtain ⟨k, rfl⟩ := one_of hl
    walk_at "wds"
    refine ⟨[.str "take", .str "skip"], .cons (.str _) (.cons (.str _) .nil), by simp, fun p1 H1 s1 t1 i1 => ?_⟩
    refine ⟨_, ["take", "skip"], rfl, i1, ?_⟩
    refine ⟨_, rfl, ?_⟩
    walk_at "w"
    walk_at "go"
    obtain ⟨xs, e1, i1⟩ := a0.same s1
    have len := i1.len
    rw [List.length_map] at len
    refine ⟨⟨_, SqL.of e1⟩, fun D nD => lc_list (K := K) (a := p) (xs := xs) (fun i H2 => Hold (Same H1 H2 ∧ H2 D = some (.lst ((([k].take i).map fun k => decide (k = .num)).map V.bl))))
        (.mk ⟨same_new nD, upd_same⟩) (fun i H2 _ h => SqL.of (h.out.1 _ _ e1)) ?_ ?_⟩
    · intro i y H2 hi h
      obtain ⟨s2, e2⟩ := h.out
      obtain ⟨d, hd', iy⟩ := i1.get hi
      rw [List.getElem?_map] at hd'
      obtain ⟨k', hk, rfl⟩ := Option.map_eq_some_iff.mp hd'
      walk_at "go"
      refine ⟨k'.d, Kd.num.d, (iy.u (same_tk s2)).p, .str _, Kd.shaped60 (hd _ (List.mem_of_getElem? hk)), by decide +kernel, ?_⟩
      rw [Kd.eqv]
      refine ⟨_, e2, ?_, .mk ⟨same_put s2 nD, ?_⟩⟩
      · rw [List.length_map, List.length_map, List.length_take]
        refine small1000 ?_
        simp
        omega
      · rw [upd_same, take_succ hk, List.map_append, List.map_append]
        rfl
    · intro H2 h
      obtain ⟨s2, e2⟩ := h.out
      have s12 := s1.trans s2
      rw [len, List.take_length] at e2
      refine ⟨_, _, rfl, SqL.of e2, ?_⟩
      by_cases c : k = .num
      · subst c
        walk_at "go"
        exact q _ H2 s12 (.str _)
      · have e : (List.map (fun k => decide (k = Kd.num)) [k]).all id = false := by simp [c]
        rw [e]
        walk_at "go"
        refine q _ H2 s12 ?_
        have e2 : kindN (.whil ts a) [k] = none := if_neg c
        rw [e2]
        exact .non
  | fold f n a =>
    obtain ⟨k, rfl⟩ := one_of hl
    walk_at "wds"
    refine ⟨[.str "take", .str "skip"], .cons (.str _) (.cons (.str _) .nil), by simp, fun p1 H1 s1 t1 i1 => ?_⟩
    refine ⟨_, ["take", "skip"], rfl, i1, ?_⟩
    refine ⟨_, rfl, ?_⟩
    walk_at "w"
    walk_at "go"
    obtain ⟨xs, e1, i1⟩ := a0.same s1
    have len := i1.len
    rw [List.length_map] at len
    refine ⟨⟨_, SqL.of e1⟩, fun D nD => lc_list (K := K) (a := p) (xs := xs) (fun i H2 => Hold (Same H1 H2 ∧ H2 D = some (.lst ((([k].take i).map fun k => decide (k = .num)).map V.bl))))
        (.mk ⟨same_new nD, upd_same⟩) (fun i H2 _ h => SqL.of (h.out.1 _ _ e1)) ?_ ?_⟩
    · intro i y H2 hi h
      obtain ⟨s2, e2⟩ := h.out
      obtain ⟨d, hd', iy⟩ := i1.get hi
      rw [List.getElem?_map] at hd'
      obtain ⟨k', hk, rfl⟩ := Option.map_eq_some_iff.mp hd'
      walk_at "go"
      refine ⟨k'.d, Kd.num.d, (iy.u (same_tk s2)).p, .str _, Kd.shaped60 (hd _ (List.mem_of_getElem? hk)), by decide +kernel, ?_⟩
      rw [Kd.eqv]
      refine ⟨_, e2, ?_, .mk ⟨same_put s2 nD, ?_⟩⟩
      · rw [List.length_map, List.length_map, List.length_take]
        refine small1000 ?_
        simp
        omega
      · rw [upd_same, take_succ hk, List.map_append, List.map_append]
        rfl
    · intro H2 h
      obtain ⟨s2, e2⟩ := h.out
      have s12 := s1.trans s2
      rw [len, List.take_length] at e2
      refine ⟨_, _, rfl, SqL.of e2, ?_⟩
      by_cases c : k = .num
      · subst c
        walk_at "go"
        exact q _ H2 s12 (.str _)
      · have e : (List.map (fun k => decide (k = Kd.num)) [k]).all id = false := by simp [c]
        rw [e]
        walk_at "go"
        refine q _ H2 s12 ?_
        have e2 : kindN (.fold f n a) [k] = none := if_neg c
        rw [e2]
        exact .non
  | group n a =>
    obtain ⟨k, rfl⟩ := one_of hl
    walk_at "wds"
    refine ⟨[.str "take", .str "skip"], .cons (.str _) (.cons (.str _) .nil), by simp, fun p1 H1 s1 t1 i1 => ?_⟩
    refine ⟨_, ["take", "skip"], rfl, i1, ?_⟩
    refine ⟨_, rfl, ?_⟩
    walk_at "w"
    walk_at "go"
    obtain ⟨xs, e1, i1⟩ := a0.same s1
    have len := i1.len
    rw [List.length_map] at len
    refine ⟨⟨_, SqL.of e1⟩, fun D nD => lc_list (K := K) (a := p) (xs := xs) (fun i H2 => Hold (Same H1 H2 ∧ H2 D = some (.lst ((([k].take i).map fun k => decide (k = .num)).map V.bl))))
        (.mk ⟨same_new nD, upd_same⟩) (fun i H2 _ h => SqL.of (h.out.1 _ _ e1)) ?_ ?_⟩
    · intro i y H2 hi h
      obtain ⟨s2, e2⟩ := h.out
      obtain ⟨d, hd', iy⟩ := i1.get hi
      rw [List.getElem?_map] at hd'
      obtain ⟨k', hk, rfl⟩ := Option.map_eq_some_iff.mp hd'
      walk_at "go"
      refine ⟨k'.d, Kd.num.d, (iy.u (same_tk s2)).p, .str _, Kd.shaped60 (hd _ (List.mem_of_getElem? hk)), by decide +kernel, ?_⟩
      rw [Kd.eqv]
      refine ⟨_, e2, ?_, .mk ⟨same_put s2 nD, ?_⟩⟩
      · rw [List.length_map, List.length_map, List.length_take]
        refine small1000 ?_
        simp
        omega
      · rw [upd_same, take_succ hk, List.map_append, List.map_append]
        rfl
    · intro H2 h
      obtain ⟨s2, e2⟩ := h.out
      have s12 := s1.trans s2
      rw [len, List.take_length] at e2
      refine ⟨_, _, rfl, SqL.of e2, ?_⟩
      by_cases c : k = .num
      · subst c
        walk_at "go"
        refine ⟨[.str "row", .str "number"], .cons (.str _) (.cons (.str _) .nil), by simp, fun p3 H3 s3 t3 i3 => ?_⟩
        walk_at "go"
        refine ⟨[.str "pair", .str "number", (Kd.row .num).d], .cons (.str _) (.cons (.str _) (.cons i3 .nil)), by simp, fun p4 H4 s4 t4 i4 => ?_⟩
        exact q _ H4 (s12.trans (s3.trans s4)) i4
      · have e : (List.map (fun k => decide (k = Kd.num)) [k]).all id = false := by simp [c]
        rw [e]
        walk_at "go"
        refine q _ H2 s12 ?_
        have e2 : kindN (.group n a) [k] = none := if_neg c
        rw [e2]
        exact .non
  | merge a b =>
    obtain ⟨k, j, rfl⟩ := two_of hl
    walk_at "wds"
    refine ⟨[.str "take", .str "skip"], .cons (.str _) (.cons (.str _) .nil), by simp, fun p1 H1 s1 t1 i1 => ?_⟩
    refine ⟨_, ["take", "skip"], rfl, i1, ?_⟩
    refine ⟨_, rfl, ?_⟩
    walk_at "w"
    walk_at "go"
    obtain ⟨xs, e1, i1⟩ := a0.same s1
    have len := i1.len
    rw [List.length_map] at len
    refine ⟨⟨_, SqL.of e1⟩, fun D nD => lc_list (K := K) (a := p) (xs := xs) (fun i H2 => Hold (Same H1 H2 ∧ H2 D = some (.lst ((([k, j].take i).map fun k => decide (k = .num)).map V.bl))))
        (.mk ⟨same_new nD, upd_same⟩) (fun i H2 _ h => SqL.of (h.out.1 _ _ e1)) ?_ ?_⟩
    · intro i y H2 hi h
      obtain ⟨s2, e2⟩ := h.out
      obtain ⟨d, hd', iy⟩ := i1.get hi
      rw [List.getElem?_map] at hd'
      obtain ⟨k', hk, rfl⟩ := Option.map_eq_some_iff.mp hd'
      walk_at "go"
      refine ⟨k'.d, Kd.num.d, (iy.u (same_tk s2)).p, .str _, Kd.shaped60 (hd _ (List.mem_of_getElem? hk)), by decide +kernel, ?_⟩
      rw [Kd.eqv]
      refine ⟨_, e2, ?_, .mk ⟨same_put s2 nD, ?_⟩⟩
      · rw [List.length_map, List.length_map, List.length_take]
        refine small1000 ?_
        simp
        omega
      · rw [upd_same, take_succ hk, List.map_append, List.map_append]
        rfl
    · intro H2 h
      obtain ⟨s2, e2⟩ := h.out
      have s12 := s1.trans s2
      rw [len, List.take_length] at e2
      refine ⟨_, _, rfl, SqL.of e2, ?_⟩
      by_cases c : k = .num ∧ j = .num
      · obtain ⟨rfl, rfl⟩ := c
        walk_at "go"
        exact q _ H2 s12 (.str _)
      · have e : (List.map (fun k => decide (k = Kd.num)) [k, j]).all id = false := by
          simp
          intro h1 h2
          exact c ⟨h1, h2⟩
        rw [e]
        walk_at "go"
        refine q _ H2 s12 ?_
        have e2 : kindN (.merge a b) [k, j] = none := if_neg c
        rw [e2]
        exact .non

def spNamed (K : PySem.W.Frag) : Sp := fun vs H Q _ => ∃ (v : V), vs = [v] ∧ Hold (∃ (l : Ln), Im K H v l.d ∧ ∀ p H', H p = none → Same H H' → Acc K H' p (l.names.map PyData.int) → Q (.ref p) H')
theorem ok_named (T : Tx P K w mg) : FnOk P w K mg base CX0 1 T.named.f T.named.fd ["line"] (spNamed K) := by
  refine T.named.F.ok sc_named (fun vs H Q E h => ?_) (fun cdv A outer s H vs Q E hr h => ?_)
  · obtain ⟨a, rfl, _⟩ := h
    rfl
  obtain ⟨v, rfl, h⟩ := h
  obtain ⟨l, iv, q⟩ := h.out
  refine ⟨_, (pss_cons (ps_if (pt_cmpR op_eq (pe_ix ix_tupD (pv 0) pe_int (fun _ _ => rfl)) pe_str (nomark _)) (pss_one (ps_ret (pe_ld pa_nil))) pss_nil)
      (pss_cons (ps_if (pt_cmpR op_inTS (pe_ix ix_tupD (pv 0) pe_int (fun _ _ => rfl)) (pe_td (pa_cons pe_str (pa_cons pe_str (pa_cons pe_str pa_nil)))) (by rfl)) (pss_one (ps_ret (pe_ld (pa_cons (pe_ix ix_tupD (pv 0) pe_int (fun _ _ => rfl)) (pa_cons (pe_ix ix_tupD (pv 0) pe_int (fun _ _ => rfl)) pa_nil))))) pss_nil)
      (pss_one (ps_ret (pe_ld (pa_cons (pe_ix ix_tupN (pv 0) (pe_un un_neg pe_int) (fun _ _ => rfl)) pa_nil)))))), ?_⟩
  cases l with
  | source k =>
    walk_at "wds"
    exact ⟨[], .nil, by simp, fun p H1 n1 s1 t1 a1 => q p H1 n1 s1 a1⟩
  | _ =>
    walk_at "wds"
    refine ⟨[.str "chain", .str "pair", .str "merge"], .cons (.str _) (.cons (.str _) (.cons (.str _) .nil)), by simp, fun p1 H1 s1 t1 i1 => ?_⟩
    refine ⟨_, ["chain", "pair", "merge"], rfl, i1, ?_⟩
    refine ⟨_, rfl, ?_⟩
    walk_at "w"
    walk_at "go"
    have iv1 := iv.u t1
    first
    | (refine ⟨_, -1, 2, _, iv1, rfl, rfl, rfl, fun u iu => ?_⟩
       obtain rfl := iu.i
       refine ⟨[.int _], .cons (.int _) .nil, by simp, fun p H2 n2 s2 t2 a2 => q p H2 (s1.free n2) (s1.trans s2) a2⟩)
    | (refine ⟨_, -1, 3, _, iv1, rfl, rfl, rfl, fun u iu => ?_⟩
       obtain rfl := iu.i
       refine ⟨[.int _], .cons (.int _) .nil, by simp, fun p H2 n2 s2 t2 a2 => q p H2 (s1.free n2) (s1.trans s2) a2⟩)
    | (refine ⟨_, 1, 1, _, iv1, rfl, rfl, rfl, fun u iu => ?_⟩
       obtain rfl := iu.i
       walk_at "go"
       refine ⟨_, 2, 2, _, iv1, rfl, rfl, rfl, fun u iu => ?_⟩
       obtain rfl := iu.i
       refine ⟨[.int _, .int _], .cons (.int _) (.cons (.int _) .nil), by simp, fun p H2 n2 s2 t2 a2 => q p H2 (s1.free n2) (s1.trans s2) a2⟩)

def spPlace (K : PySem.W.Frag) : Sp := fun vs H Q _ => ∃ (v va vm vs' : V), vs = [v, va, vm, vs'] ∧ Hold (∃ (l : Ln) (at_ many : Int) (p : Addr) (ss : List Int), Im K H v l.d ∧ va = .int at_ ∧ vm = .int many ∧ vs' = .ref p ∧ Acc K H p (ss.map PyData.int) ∧ ∀ H', Same H H' → Q (.bl (placeOk l at_ many ss)) H')
theorem ok_place_can_be (T : Tx P K w mg) : FnOk P w K mg base CX0 2 T.place_can_be.f T.place_can_be.fd ["line", "at", "many", "sources"] (spPlace K) := by
  refine T.place_can_be.F.ok sc_place_can_be (fun vs H Q E h => ?_) (fun cdv A outer s H vs Q E hr h => ?_)
  · obtain ⟨a, b, c, d, rfl, _⟩ := h
    rfl
  obtain ⟨v, va, vm, vs', rfl, h⟩ := h
  obtain ⟨l, at_, many, p, ss, iv, rfl, rfl, rfl, a0, q⟩ := h.out
  refine ⟨_, (pss_cons (ps_if (pt_cmpR op_eq (pe_ix ix_tupD (pv 0) pe_int (fun _ _ => rfl)) pe_str (nomark _)) (pss_one (ps_ret (pe_and (pe_chain op_le op_lt pe_int (pe_ix ix_tupD (pv 0) pe_int (fun _ _ => rfl)) (pv 2)) (pe_one (pe_cmpR op_notInI (pe_ix ix_tupD (pv 0) pe_int (fun _ _ => rfl)) (pv 3) (by rfl)))))) pss_nil)
      (pss_one (ps_ret (pe_callB (cr_all rfl) (by rfl) T.z_all (by decide +kernel) (pa_cons (pe_lc (own := [("a", 4)]) (g := gName 4) (tt := tYes) rfl sc_place_can_be.nd (pi_list (pe_call (ok_named T) hr (by rfl) T.named.g T.named.F.kp T.named.b .nil pass0 (pa_cons (pv 0) pa_nil))) (blkOk_by (own := [("a", 4)]) (N := ["line", "at", "many", "sources", "a"]) (sc := defScope s_place_can_be) (by decide +kernel)) (fun _ _ _ _ _ => pg_name (i := 4) sc_place_can_be.nd rfl (Or.inl rfl)) (fun _ _ _ _ _ => pts_nil) (fun _ _ _ _ _ => (pe_chain op_le op_lt pe_int (pv 4) (pv 1)))) pa_nil))))), ?_⟩
  by_cases hsrc : ∃ k, l = .source k
  · obtain ⟨k, rfl⟩ := hsrc
    walk_at "wds"
    walk_at "n1"
    have e : placeOk (.source k) at_ many ss = ((decide (0 ≤ k) && decide (k < many)) && !decide (k ∈ ss)) := rfl
    rw [e] at q
    by_cases c1 : 0 ≤ k
    · rw [decide_eq_true c1, Bool.true_and] at q
      refine ite_t (decide_eq_true c1) ?_
      walk_at "go"
      by_cases c2 : k < many
      · rw [decide_eq_true c2, Bool.true_and] at q
        refine ite_t (decide_eq_true c2) ?_
        walk_at "go"
        walk_at "n1"
        exact ⟨_, _, ss, rfl, rfl, a0, q H (Same.refl H)⟩
      · rw [decide_eq_false c2, Bool.false_and] at q
        refine ite_f (decide_eq_false c2) ?_
        walk_at "go"
        exact q H (Same.refl H)
    · rw [decide_eq_false c1, Bool.false_and, Bool.false_and] at q
      refine ite_f (decide_eq_false c1) ?_
      walk_at "go"
      exact q H (Same.refl H)
  · have e : placeOk l at_ many ss = l.names.all fun a => decide (0 ≤ a) && decide (a < at_) := by
      cases l with
      | source k => exact absurd ⟨k, rfl⟩ hsrc
      | _ => rfl
    rw [e] at q
    have w : ∃ (x : Str) (ds : List PyData), l.d = .tuple (.str x :: ds) ∧ decide (V.str x = V.str "source") = false := by
      cases l with
      | source k => exact absurd ⟨k, rfl⟩ hsrc
      | _ => exact ⟨_, _, rfl, by decide +kernel⟩
    obtain ⟨x, ds, ed, ex⟩ := w
    have iw := iv
    rw [ed] at iw
    walk_at "go"
    refine ⟨_, 0, 0, _, iw, rfl, rfl, rfl, fun u iu => ?_⟩
    obtain rfl := iu.s
    refine ⟨rfl, _, rfl, ?_⟩
    refine ite_f ex ?_
    walk_at "go"
    refine .mk ⟨l, iv, fun p1 H1 n1 s1 a1 => ?_⟩
    obtain ⟨xs, e1, i1⟩ := a1
    have ei := Ims.of_ints _ i1
    subst ei
    refine ⟨p1, rfl, ⟨_, SqL.of e1⟩, fun D nD => lc_list (K := K) (a := p1) (xs := l.names.map V.int) (fun i H2 => Hold (Same H1 H2 ∧ H2 D = some (.lst (((l.names.take i).map fun a => decide (0 ≤ a) && decide (a < at_)).map V.bl))))
        (.mk ⟨same_new nD, upd_same⟩) (fun i H2 _ h => SqL.of (h.out.1 _ _ e1)) ?_ ?_⟩
    · intro i y H2 hi h
      obtain ⟨s2, e2⟩ := h.out
      rw [List.getElem?_map] at hi
      obtain ⟨n, hn, rfl⟩ := Option.map_eq_some_iff.mp hi
      have fin : ∀ b : Bool, b = (decide (0 ≤ n) && decide (n < at_)) → ∃ acc, H2 D = some (.lst acc) ∧ acc.length < sizeLine ∧ Hold (Same H1 (upd H2 D (.lst (acc ++ [V.bl b]))) ∧ (upd H2 D (.lst (acc ++ [V.bl b]))) D = some (.lst (((l.names.take (i + 1)).map fun a => decide (0 ≤ a) && decide (a < at_)).map V.bl))) := fun b hb => by
        refine ⟨_, e2, ?_, .mk ⟨same_put s2 nD, ?_⟩⟩
        · rw [List.length_map, List.length_map, List.length_take]
          refine small1000 ?_
          have : l.names.length ≤ 2 := by cases l <;> simp [Ln.names]
          omega
        · rw [upd_same, take_succ hn, List.map_append, List.map_append, hb]
          rfl
      walk_at "go"
      by_cases c1 : 0 ≤ n
      · refine ite_t (decide_eq_true c1) ?_
        walk_at "go"
        exact fin _ (by rw [decide_eq_true c1, Bool.true_and])
      · refine ite_f (decide_eq_false c1) ?_
        exact fin _ (by rw [decide_eq_false c1, Bool.false_and])
    · intro H2 h
      obtain ⟨s2, e2⟩ := h.out
      refine ⟨_, _, rfl, SqL.of e2, ?_⟩
      rw [List.length_map, List.take_length, List.all_map]
      exact q H2 (s1.trans s2)

def spIsNumber (K : PySem.W.Frag) : Sp := fun vs H Q _ => ∃ (n : Int), vs = [.int n] ∧ Hold (Q (.bl (isNum n)) H)
theorem ok_is_number (T : Tx P K w mg) : FnOk P w K mg base CX0 1 T.is_number.f T.is_number.fd ["number"] (spIsNumber K) := by
  refine T.is_number.F.ok sc_is_number (fun vs H Q E h => ?_) (fun cdv A outer s H vs Q E hr h => ?_)
  · obtain ⟨a, rfl, _⟩ := h
    rfl
  obtain ⟨n, rfl, h⟩ := h
  have q := h.out
  refine ⟨_, (pss_one (ps_ret (pe_chain op_le op_lt pe_int (pv 0) (pe_glob (v := .int 1000003) (by rfl) T.c_REST.g ⟨_, rfl⟩)))), ?_⟩
  walk_at "go"
  have e : isNum n = (decide (0 ≤ n) && decide (n < 1000003)) := rfl
  rw [e] at q
  by_cases c : 0 ≤ n
  · rw [decide_eq_true c] at q
    refine ite_t (decide_eq_true c) ?_
    walk_at "go"
    exact q
  · rw [decide_eq_false c] at q
    refine ite_f (decide_eq_false c) ?_
    exact q

def spDeedsCan (K : PySem.W.Frag) : Sp := fun vs H Q _ => ∃ (v : V), vs = [v] ∧ Hold (∃ (ds : List Deed), Im K H v (.tuple (ds.map Deed.d)) ∧ ds.length ≤ 1000 ∧ ∀ H', Same H H' → Q (.bl (deedsCan ds)) H')
theorem ok_deeds_can_be (T : Tx P K w mg) : FnOk P w K mg base CX0 2 T.deeds_can_be.f T.deeds_can_be.fd ["deeds"] (spDeedsCan K) := by
  refine T.deeds_can_be.F.ok sc_deeds_can_be (fun vs H Q E h => ?_) (fun cdv A outer s H vs Q E hr h => ?_)
  · obtain ⟨a, rfl, _⟩ := h
    rfl
  obtain ⟨v, rfl, h⟩ := h
  obtain ⟨ds, iv, hl, q⟩ := h.out
  obtain ⟨a, xs, rfl, ht, hs⟩ := id iv.t
  have len := hs.len
  rw [List.length_map] at len
  refine ⟨_, (pss_one (ps_ret (pe_and (pe_chain op_le op_le pe_int (pe_callB call_lenT (by rfl) T.z_len PySem.boot_len (pa_cons (pv 0) pa_nil)) (pe_glob (v := .int 64) (by rfl) T.c_LONGEST.g ⟨_, rfl⟩)) (pe_one (pe_callB (cr_all rfl) (by rfl) T.z_all (by decide +kernel) (pa_cons (pe_lc2 (own := [("deed", 1), ("n", 2)]) (g := gName 1) (tt := tYes) (g1 := gName 2) (tt1 := tYes) (vs1 := [2]) (wi1 := iTup K (tSl (rSlD K) (tVar 1) (tPart (tC (.int 1))) tNoPart)) rfl sc_deeds_can_be.nd (pi_tup (pv 0)) (blkOk_by (own := [("deed", 1), ("n", 2)]) (N := ["deeds", "deed", "n"]) (sc := defScope s_deeds_can_be) (by decide +kernel)) (by decide) (fun _ _ _ _ _ => pg_name (i := 1) sc_deeds_can_be.nd rfl (Or.inl rfl)) (fun _ _ _ _ _ => pts_nil) (fun _ _ _ _ _ => (pi_tupK (K := K) rfl (pe_slice (show SlR _ (rSlD K) from sl_tupD) (pv 1) (po_some pe_int) po_none))) (fun _ _ _ _ _ => pg_name (i := 2) sc_deeds_can_be.nd rfl (Or.inl rfl)) (fun _ _ _ _ _ => pts_nil) (fun _ _ _ _ _ => (pe_call (ok_is_number T) hr (by rfl) T.is_number.g T.is_number.F.kp T.is_number.b .nil pass0 (pa_cons (pv 2) pa_nil)))) pa_nil)))))), ?_⟩
  have e0 : deedsCan ds = ((decide (1 ≤ ds.length) && decide (ds.length ≤ 64)) && ds.all deedNum) := rfl
  walk_at "go"
  refine ⟨_, _, rfl, iv, ?_⟩
  walk_at "go"
  rw [List.length_map]
  by_cases c1 : 1 ≤ ds.length
  · refine ite_t (decide_eq_true (by omega)) ?_
    walk_at "go"
    by_cases c2 : ds.length ≤ 64
    · refine ite_t (decide_eq_true (by omega)) ?_
      refine ⟨_, rfl, a, rfl, ⟨_, ht⟩, fun D nD => loop_tup (K := K) (a := a) (xs := xs) (fun i H2 => Hold (Same H H2 ∧ H2 D = some (.lst (((ds.take i).flatMap fun d => d.args.map isNum).map V.bl))))
        (.mk ⟨same_new nD, upd_same⟩) (fun i H2 _ h => (same_tk h.out.1).t _ _ ht) ?_ ?_⟩
      · intro i x H2 hi h
        obtain ⟨s2, e2⟩ := h.out
        obtain ⟨d, hd, ix⟩ := hs.get hi
        rw [List.getElem?_map] at hd
        obtain ⟨d, hd', rfl⟩ := Option.map_eq_some_iff.mp hd
        have ix2 := ix.u (same_tk s2)
        obtain ⟨wd, ed, _⟩ := d.tail
        rw [ed] at ix2
        walk_at "go"
        refine ⟨_, ix2, fun v3 H3 s3 t3 i3 => ?_⟩
        rw [cut_tail] at i3
        obtain ⟨b, ys, rfl, ht3, hs3⟩ := i3.t
        have el := Ims.of_ints _ hs3
        subst el
        have e3 := s3 _ _ e2
        refine ⟨b, rfl, ⟨_, ht3⟩, loop_tup (K := K) (a := b) (xs := d.args.map V.int) (fun j H4 => Hold (Same H H4 ∧ SqT K H4 b (d.args.map V.int) ∧
            H4 D = some (.lst ((((ds.take i).flatMap fun d => d.args.map isNum) ++ (d.args.take j).map isNum).map V.bl)))) ?_ (fun j H4 _ h => h.out.2.1) ?_ ?_⟩
        · refine .mk ⟨s2.trans s3, ht3, ?_⟩
          rw [List.take_zero, List.map_nil, List.append_nil]
          exact e3
        · intro j y H4 hj h
          obtain ⟨s4, t4, e4⟩ := h.out
          rw [List.getElem?_map] at hj
          obtain ⟨n, hn, rfl⟩ := Option.map_eq_some_iff.mp hj
          walk_at "go"
          refine .mk ⟨_, e4, ?_, ?_⟩
          · have l1 : ((ds.take i).flatMap fun d => d.args.map isNum).length ≤ 1000 := by
              have l2 : ∀ es : List Deed, (es.flatMap fun d => d.args.map isNum).length ≤ es.length := fun es => by
                induction es with
                | nil => exact Nat.le_refl _
                | cons e es ih =>
                  rw [List.flatMap_cons, List.length_append, List.length_cons]
                  have : (e.args.map isNum).length ≤ 1 := by cases e <;> simp [Deed.args]
                  omega
              have := l2 (ds.take i)
              rw [List.length_take] at this
              omega
            have l3 : ((d.args.take j).map isNum).length ≤ 1 := by
              rw [List.length_map, List.length_take]
              have : d.args.length ≤ 1 := by cases d <;> simp [Deed.args]
              omega
            rw [List.length_map, List.length_append]
            exact Nat.lt_of_le_of_lt (by omega : _ ≤ 2000) (by decide)
          · have b4 : But D H4 (upd H4 D (.lst ((((ds.take i).flatMap fun d => d.args.map isNum) ++ (d.args.take j).map isNum).map V.bl ++ [.bl (isNum n)]))) := fun b u hb z => by rw [upd_ne hb]; exact z
            refine .mk ⟨same_put s4 nD, (b4.tk e4).t _ _ t4, ?_⟩
            rw [upd_same, take_succ hn, List.map_append, List.map_append, List.map_append, List.map_append, List.append_assoc]
            rfl
        · intro H4 h
          obtain ⟨s4, t4, e4⟩ := h.out
          refine .mk ⟨s4, ?_⟩
          rw [e4, take_succ hd', List.flatMap_append, List.length_map, List.take_length, List.flatMap_cons, List.flatMap_nil, List.append_nil]
      · intro H2 h
        obtain ⟨s2, e2⟩ := h.out
        refine ⟨_, _, rfl, SqL.of e2, ?_⟩
        rw [len, List.take_length, deeds_all]
        have e : deedsCan ds = ds.all deedNum := by rw [e0, decide_eq_true c1, decide_eq_true c2]; rfl
        rw [e] at q
        exact q H2 s2
    · refine ite_f (decide_eq_false (by omega)) ?_
      have e : deedsCan ds = false := by rw [e0, decide_eq_false c2, Bool.and_false, Bool.false_and]
      rw [e] at q
      walk_at "go"
      exact q H (Same.refl H)
  · refine ite_f (decide_eq_false (by omega)) ?_
    have e : deedsCan ds = false := by rw [e0, decide_eq_false c1, Bool.false_and, Bool.false_and]
    rw [e] at q
    walk_at "go"
    exact q H (Same.refl H)

def spTestCan (K : PySem.W.Frag) : Sp := fun vs H Q _ => ∃ (v : V), vs = [v] ∧ Hold (∃ (t : Tst), Im K H v t.d ∧ Q (.bl (tstNum t)) H)
theorem ok_test_can_be (T : Tx P K w mg) : FnOk P w K mg base CX0 2 T.test_can_be.f T.test_can_be.fd ["test"] (spTestCan K) := by
  refine T.test_can_be.F.ok sc_test_can_be (fun vs H Q E h => ?_) (fun cdv A outer s H vs Q E hr h => ?_)
  · obtain ⟨a, rfl, _⟩ := h
    rfl
  obtain ⟨v, rfl, h⟩ := h
  obtain ⟨t, iv, q⟩ := h.out
  refine ⟨_, (pss_cons (ps_if (pt_cmpR op_eq (pe_ix ix_tupD (pv 0) pe_int (fun _ _ => rfl)) pe_str (nomark _)) (pss_one (ps_ret (pe_and (pe_call (ok_is_number T) hr (by rfl) T.is_number.g T.is_number.F.kp T.is_number.b .nil pass0 (pa_cons (pe_ix ix_tupD (pv 0) pe_int (fun _ _ => rfl)) pa_nil)) (pe_one (pe_chain op_le op_lt pe_int (pe_ix ix_tupD (pv 0) pe_int (fun _ _ => rfl)) (pe_ix ix_tupD (pv 0) pe_int (fun _ _ => rfl))))))) pss_nil)
      (pss_one (ps_ret (pe_call (ok_is_number T) hr (by rfl) T.is_number.g T.is_number.F.kp T.is_number.b .nil pass0 (pa_cons (pe_ix ix_tupD (pv 0) pe_int (fun _ _ => rfl)) pa_nil))))), ?_⟩
  cases t with
  | below n =>
    walk_at "wds"
    walk_at "n1"
    exact .mk q
  | over n =>
    walk_at "wds"
    walk_at "n1"
    exact .mk q
  | rest m r =>
    walk_at "wds"
    walk_at "n1"
    have e : tstNum (.rest m r) = (isNum m && (decide (0 ≤ r) && decide (r < m))) := rfl
    refine .mk ?_
    refine ⟨_, rfl, ?_⟩
    rw [e] at q
    by_cases c1 : isNum m = true
    · rw [c1, Bool.true_and] at q
      refine ite_t c1 ?_
      walk_at "go"
      walk_at "n2"
      by_cases c2 : 0 ≤ r
      · rw [decide_eq_true c2, Bool.true_and] at q
        refine ite_t (decide_eq_true c2) ?_
        walk_at "go"
        walk_at "n1"
        exact q
      · rw [decide_eq_false c2, Bool.false_and] at q
        refine ite_f (decide_eq_false c2) ?_
        exact q
    · have c1 : isNum m = false := Bool.eq_false_iff.mpr c1
      rw [c1, Bool.false_and] at q
      refine ite_f c1 ?_
      exact q

def spTestsCan (K : PySem.W.Frag) : Sp := fun vs H Q _ => ∃ (v : V), vs = [v] ∧ Hold (∃ (ts : List Tst), Im K H v (.tuple (ts.map Tst.d)) ∧ ts.length ≤ 1000 ∧ ∀ H', Same H H' → Q (.bl (testsCan ts)) H')
theorem ok_tests_can_be (T : Tx P K w mg) : FnOk P w K mg base CX0 3 T.tests_can_be.f T.tests_can_be.fd ["tests"] (spTestsCan K) := by
  refine T.tests_can_be.F.ok sc_tests_can_be (fun vs H Q E h => ?_) (fun cdv A outer s H vs Q E hr h => ?_)
  · obtain ⟨a, rfl, _⟩ := h
    rfl
  obtain ⟨v, rfl, h⟩ := h
  obtain ⟨ts, iv, hl, q⟩ := h.out
  obtain ⟨a, xs, rfl, ht, hs⟩ := id iv.t
  have len := hs.len
  rw [List.length_map] at len
  refine ⟨_, (pss_one (ps_ret (pe_and (pe_chain op_le op_le pe_int (pe_callB call_lenT (by rfl) T.z_len PySem.boot_len (pa_cons (pv 0) pa_nil)) (pe_glob (v := .int 64) (by rfl) T.c_LONGEST.g ⟨_, rfl⟩)) (pe_one (pe_callB (cr_all rfl) (by rfl) T.z_all (by decide +kernel) (pa_cons (pe_lc (own := [("test", 1)]) (g := gName 1) (tt := tYes) rfl sc_tests_can_be.nd (pi_tup (pv 0)) (blkOk_by (own := [("test", 1)]) (N := ["tests", "test"]) (sc := defScope s_tests_can_be) (by decide +kernel)) (fun _ _ _ _ _ => pg_name (i := 1) sc_tests_can_be.nd rfl (Or.inl rfl)) (fun _ _ _ _ _ => pts_nil) (fun _ _ _ _ _ => (pe_call (ok_test_can_be T) hr (by rfl) T.test_can_be.g T.test_can_be.F.kp T.test_can_be.b .nil pass0 (pa_cons (pv 1) pa_nil)))) pa_nil)))))), ?_⟩
  have e0 : testsCan ts = ((decide (1 ≤ ts.length) && decide (ts.length ≤ 64)) && ts.all tstNum) := rfl
  walk_at "go"
  refine ⟨_, _, rfl, iv, ?_⟩
  walk_at "go"
  rw [List.length_map]
  by_cases c1 : 1 ≤ ts.length
  · refine ite_t (decide_eq_true (by omega)) ?_
    walk_at "go"
    by_cases c2 : ts.length ≤ 64
    · refine ite_t (decide_eq_true (by omega)) ?_
      refine ⟨_, rfl, a, rfl, ⟨_, ht⟩, fun D nD => lc_tup (K := K) (a := a) (xs := xs) (fun i H2 => Hold (Same H H2 ∧ H2 D = some (.lst (((ts.take i).map tstNum).map V.bl))))
        (.mk ⟨same_new nD, upd_same⟩) (fun i H2 _ h => (same_tk h.out.1).t _ _ ht) ?_ ?_⟩
      · intro i x H2 hi h
        obtain ⟨s2, e2⟩ := h.out
        obtain ⟨d, hd, ix⟩ := hs.get hi
        rw [List.getElem?_map] at hd
        obtain ⟨t, ht', rfl⟩ := Option.map_eq_some_iff.mp hd
        walk_at "go"
        refine .mk ⟨t, ix.u (same_tk s2), ?_⟩
        refine ⟨_, e2, ?_, .mk ⟨same_put s2 nD, ?_⟩⟩
        · rw [List.length_map, List.length_map, List.length_take]
          exact small1000 (by omega)
        · rw [upd_same, take_succ ht', List.map_append, List.map_append]
          rfl
      · intro H2 h
        obtain ⟨s2, e2⟩ := h.out
        refine ⟨_, _, rfl, SqL.of e2, ?_⟩
        rw [len, List.take_length, List.all_map]
        have e : testsCan ts = ts.all tstNum := by rw [e0, decide_eq_true c1, decide_eq_true c2]; rfl
        rw [e] at q
        exact q H2 s2
    · refine ite_f (decide_eq_false (by omega)) ?_
      have e : testsCan ts = false := by rw [e0, decide_eq_false c2, Bool.and_false, Bool.false_and]
      rw [e] at q
      walk_at "go"
      exact q H (Same.refl H)
  · refine ite_f (decide_eq_false (by omega)) ?_
    have e : testsCan ts = false := by rw [e0, decide_eq_false c1, Bool.false_and, Bool.false_and]
    rw [e] at q
    walk_at "go"
    exact q H (Same.refl H)

def spNumbers (K : PySem.W.Frag) : Sp := fun vs H Q _ => ∃ (v : V), vs = [v] ∧ Hold (∃ (l : Ln), Im K H v l.d ∧ (∀ ds a, l = .map ds a → ds.length ≤ 1000) ∧ (∀ ts a, l = .keep ts a ∨ l = .whil ts a → ts.length ≤ 1000) ∧ ∀ H', Same H H' → Q (.bl (numOk l)) H')
theorem ok_numbers_can_be (T : Tx P K w mg) : FnOk P w K mg base CX0 4 T.numbers_can_be.f T.numbers_can_be.fd ["line"] (spNumbers K) := by
  refine T.numbers_can_be.F.ok sc_numbers_can_be (fun vs H Q E h => ?_) (fun cdv A outer s H vs Q E hr h => ?_)
  · obtain ⟨a, rfl, _⟩ := h
    rfl
  obtain ⟨v, rfl, h⟩ := h
  obtain ⟨l, iv, ld, lt, q⟩ := h.out
  refine ⟨_, (pss_cons (ps_set (i := 1) sc_numbers_can_be.nd rfl (by first | exact Or.inl rfl | exact Or.inr rfl) (pe_ix ix_tupD (pv 0) pe_int (fun _ _ => rfl)))
      (pss_cons (ps_if (pt_cmpR op_eq (pv 1) pe_str (nomark _)) (pss_one (ps_ret (pe_call (ok_deeds_can_be T) (hr.mono (by decide)) (by rfl) T.deeds_can_be.g T.deeds_can_be.F.kp T.deeds_can_be.b .nil pass0 (pa_cons (pe_ix ix_tupD (pv 0) pe_int (fun _ _ => rfl)) pa_nil)))) pss_nil)
      (pss_cons (ps_if (pt_cmpR op_inTS (pv 1) (pe_td (pa_cons pe_str (pa_cons pe_str pa_nil))) (by rfl)) (pss_one (ps_ret (pe_call (ok_tests_can_be T) hr (by rfl) T.tests_can_be.g T.tests_can_be.F.kp T.tests_can_be.b .nil pass0 (pa_cons (pe_ix ix_tupD (pv 0) pe_int (fun _ _ => rfl)) pa_nil)))) pss_nil)
      (pss_cons (ps_if (pt_cmpR op_inTS (pv 1) (pe_td (pa_cons pe_str (pa_cons pe_str pa_nil))) (by rfl)) (pss_one (ps_ret (pe_chain op_le op_le pe_int (pe_ix ix_tupD (pv 0) pe_int (fun _ _ => rfl)) (pe_glob (v := .int 9999) (by rfl) T.c_MOST_TAKEN.g ⟨_, rfl⟩)))) pss_nil)
      (pss_cons (ps_if (pt_cmpR op_eq (pv 1) pe_str (nomark _)) (pss_one (ps_ret (pe_and (pe_cmpR op_ge (pe_ix ix_tupD (pv 0) pe_int (fun _ _ => rfl)) pe_int (nomark _)) (pe_one (pe_call (ok_is_number T) (hr.mono (by decide)) (by rfl) T.is_number.g T.is_number.F.kp T.is_number.b .nil pass0 (pa_cons (pe_ix ix_tupD (pv 0) pe_int (fun _ _ => rfl)) pa_nil)))))) pss_nil)
      (pss_cons (ps_if (pt_cmpR op_eq (pv 1) pe_str (nomark _)) (pss_one (ps_ret (pe_chain op_le op_le pe_int (pe_ix ix_tupD (pv 0) pe_int (fun _ _ => rfl)) (pe_glob (v := .int 9) (by rfl) T.c_WIDEST.g ⟨_, rfl⟩)))) pss_nil)
      (pss_cons (ps_if (pt_cmpR op_eq (pv 1) pe_str (nomark _)) (pss_one (ps_ret (pe_call (ok_is_number T) (hr.mono (by decide)) (by rfl) T.is_number.g T.is_number.F.kp T.is_number.b .nil pass0 (pa_cons (pe_ix ix_tupD (pv 0) pe_int (fun _ _ => rfl)) pa_nil)))) pss_nil)
      (pss_one (ps_ret pe_bl))))))))), ?_⟩
  cases l with
  | map ds a =>
    walk_at "wds"
    refine ⟨_, 1, 1, _, iv, rfl, rfl, rfl, fun u iu => ?_⟩
    walk_at "go"
    exact .mk ⟨ds, iu, ld _ _ rfl, q⟩
  | keep ts a =>
    walk_at "wds"
    refine ⟨[.str "keep", .str "while"], .cons (.str _) (.cons (.str _) .nil), by simp, fun p1 H1 s1 t1 i1 => ?_⟩
    refine ⟨_, ["keep", "while"], rfl, i1, ?_⟩
    refine ⟨_, rfl, ?_⟩
    have iv1 := iv.u t1
    walk_at "w"
    walk_at "go"
    refine ⟨_, 1, 1, _, iv1, rfl, rfl, rfl, fun u iu => ?_⟩
    walk_at "go"
    exact .mk ⟨ts, iu, lt _ _ (.inl rfl), fun H2 s2 => q H2 (s1.trans s2)⟩
  | whil ts a =>
    walk_at "wds"
    refine ⟨[.str "keep", .str "while"], .cons (.str _) (.cons (.str _) .nil), by simp, fun p1 H1 s1 t1 i1 => ?_⟩
    refine ⟨_, ["keep", "while"], rfl, i1, ?_⟩
    refine ⟨_, rfl, ?_⟩
    have iv1 := iv.u t1
    walk_at "w"
    walk_at "go"
    refine ⟨_, 1, 1, _, iv1, rfl, rfl, rfl, fun u iu => ?_⟩
    walk_at "go"
    exact .mk ⟨ts, iu, lt _ _ (.inr rfl), fun H2 s2 => q H2 (s1.trans s2)⟩
  | take n a =>
    walk_at "wds"
    refine ⟨[.str "keep", .str "while"], .cons (.str _) (.cons (.str _) .nil), by simp, fun p1 H1 s1 t1 i1 => ?_⟩
    refine ⟨_, ["keep", "while"], rfl, i1, ?_⟩
    refine ⟨_, rfl, ?_⟩
    have iv1 := iv.u t1
    walk_at "w"
    walk_at "go"
    refine ⟨[.str "take", .str "skip"], .cons (.str _) (.cons (.str _) .nil), by simp, fun p2 H2 s2 t2 i2 => ?_⟩
    refine ⟨_, ["take", "skip"], rfl, i2, ?_⟩
    refine ⟨_, rfl, ?_⟩
    have iv2 := iv1.u t2
    have s12 := s1.trans s2
    walk_at "w"
    walk_at "wds"
    walk_at "n1"
    have q : Q (.bl (decide (0 ≤ n) && decide (n ≤ 9999))) H2 := q H2 s12
    by_cases c1 : 0 ≤ n
    · refine ite_t (decide_eq_true c1) ?_
      walk_at "go"
      rw [decide_eq_true c1, Bool.true_and] at q
      exact q
    · refine ite_f (decide_eq_false c1) ?_
      walk_at "go"
      rw [decide_eq_false c1, Bool.false_and] at q
      exact q
  | skip n a =>
    walk_at "wds"
    refine ⟨[.str "keep", .str "while"], .cons (.str _) (.cons (.str _) .nil), by simp, fun p1 H1 s1 t1 i1 => ?_⟩
    refine ⟨_, ["keep", "while"], rfl, i1, ?_⟩
    refine ⟨_, rfl, ?_⟩
    have iv1 := iv.u t1
    walk_at "w"
    walk_at "go"
    refine ⟨[.str "take", .str "skip"], .cons (.str _) (.cons (.str _) .nil), by simp, fun p2 H2 s2 t2 i2 => ?_⟩
    refine ⟨_, ["take", "skip"], rfl, i2, ?_⟩
    refine ⟨_, rfl, ?_⟩
    have iv2 := iv1.u t2
    have s12 := s1.trans s2
    walk_at "w"
    walk_at "wds"
    walk_at "n1"
    have q : Q (.bl (decide (0 ≤ n) && decide (n ≤ 9999))) H2 := q H2 s12
    by_cases c1 : 0 ≤ n
    · refine ite_t (decide_eq_true c1) ?_
      walk_at "go"
      rw [decide_eq_true c1, Bool.true_and] at q
      exact q
    · refine ite_f (decide_eq_false c1) ?_
      walk_at "go"
      rw [decide_eq_false c1, Bool.false_and] at q
      exact q
  | group n a =>
    walk_at "wds"
    refine ⟨[.str "keep", .str "while"], .cons (.str _) (.cons (.str _) .nil), by simp, fun p1 H1 s1 t1 i1 => ?_⟩
    refine ⟨_, ["keep", "while"], rfl, i1, ?_⟩
    refine ⟨_, rfl, ?_⟩
    have iv1 := iv.u t1
    walk_at "w"
    walk_at "go"
    refine ⟨[.str "take", .str "skip"], .cons (.str _) (.cons (.str _) .nil), by simp, fun p2 H2 s2 t2 i2 => ?_⟩
    refine ⟨_, ["take", "skip"], rfl, i2, ?_⟩
    refine ⟨_, rfl, ?_⟩
    have iv2 := iv1.u t2
    have s12 := s1.trans s2
    walk_at "w"
    walk_at "wds"
    walk_at "n1"
    have q : Q (.bl (decide (1 ≤ n) && isNum n)) H2 := q H2 s12
    by_cases c1 : 1 ≤ n
    · refine ite_t (decide_eq_true c1) ?_
      walk_at "go"
      rw [decide_eq_true c1, Bool.true_and] at q
      walk_at "n1"
      exact .mk q
    · refine ite_f (decide_eq_false c1) ?_
      walk_at "go"
      rw [decide_eq_false c1, Bool.false_and] at q
      exact q
  | window n a =>
    walk_at "wds"
    refine ⟨[.str "keep", .str "while"], .cons (.str _) (.cons (.str _) .nil), by simp, fun p1 H1 s1 t1 i1 => ?_⟩
    refine ⟨_, ["keep", "while"], rfl, i1, ?_⟩
    refine ⟨_, rfl, ?_⟩
    have iv1 := iv.u t1
    walk_at "w"
    walk_at "go"
    refine ⟨[.str "take", .str "skip"], .cons (.str _) (.cons (.str _) .nil), by simp, fun p2 H2 s2 t2 i2 => ?_⟩
    refine ⟨_, ["take", "skip"], rfl, i2, ?_⟩
    refine ⟨_, rfl, ?_⟩
    have iv2 := iv1.u t2
    have s12 := s1.trans s2
    walk_at "w"
    walk_at "wds"
    walk_at "n1"
    have q : Q (.bl (decide (1 ≤ n) && decide (n ≤ 9))) H2 := q H2 s12
    by_cases c1 : 1 ≤ n
    · refine ite_t (decide_eq_true c1) ?_
      walk_at "go"
      rw [decide_eq_true c1, Bool.true_and] at q
      exact q
    · refine ite_f (decide_eq_false c1) ?_
      walk_at "go"
      rw [decide_eq_false c1, Bool.false_and] at q
      exact q
  | fold w n a =>
    walk_at "wds"
    refine ⟨[.str "keep", .str "while"], .cons (.str _) (.cons (.str _) .nil), by simp, fun p1 H1 s1 t1 i1 => ?_⟩
    refine ⟨_, ["keep", "while"], rfl, i1, ?_⟩
    refine ⟨_, rfl, ?_⟩
    have iv1 := iv.u t1
    walk_at "w"
    walk_at "go"
    refine ⟨[.str "take", .str "skip"], .cons (.str _) (.cons (.str _) .nil), by simp, fun p2 H2 s2 t2 i2 => ?_⟩
    refine ⟨_, ["take", "skip"], rfl, i2, ?_⟩
    refine ⟨_, rfl, ?_⟩
    have iv2 := iv1.u t2
    have s12 := s1.trans s2
    walk_at "w"
    walk_at "wds"
    refine ⟨_, 2, 2, _, iv2, rfl, rfl, rfl, fun u iu => ?_⟩
    obtain rfl := iu.i
    walk_at "go"
    exact .mk (q H2 s12)
  | source k =>
    walk_at "wds"
    refine ⟨[.str "keep", .str "while"], .cons (.str _) (.cons (.str _) .nil), by simp, fun p1 H1 s1 t1 i1 => ?_⟩
    refine ⟨_, ["keep", "while"], rfl, i1, ?_⟩
    refine ⟨_, rfl, ?_⟩
    have iv1 := iv.u t1
    walk_at "w"
    walk_at "go"
    refine ⟨[.str "take", .str "skip"], .cons (.str _) (.cons (.str _) .nil), by simp, fun p2 H2 s2 t2 i2 => ?_⟩
    refine ⟨_, ["take", "skip"], rfl, i2, ?_⟩
    refine ⟨_, rfl, ?_⟩
    have iv2 := iv1.u t2
    have s12 := s1.trans s2
    walk_at "w"
    walk_at "wds"
    exact q H2 s12
  | chain a b =>
    walk_at "wds"
    refine ⟨[.str "keep", .str "while"], .cons (.str _) (.cons (.str _) .nil), by simp, fun p1 H1 s1 t1 i1 => ?_⟩
    refine ⟨_, ["keep", "while"], rfl, i1, ?_⟩
    refine ⟨_, rfl, ?_⟩
    have iv1 := iv.u t1
    walk_at "w"
    walk_at "go"
    refine ⟨[.str "take", .str "skip"], .cons (.str _) (.cons (.str _) .nil), by simp, fun p2 H2 s2 t2 i2 => ?_⟩
    refine ⟨_, ["take", "skip"], rfl, i2, ?_⟩
    refine ⟨_, rfl, ?_⟩
    have iv2 := iv1.u t2
    have s12 := s1.trans s2
    walk_at "w"
    walk_at "wds"
    exact q H2 s12
  | pair a b =>
    walk_at "wds"
    refine ⟨[.str "keep", .str "while"], .cons (.str _) (.cons (.str _) .nil), by simp, fun p1 H1 s1 t1 i1 => ?_⟩
    refine ⟨_, ["keep", "while"], rfl, i1, ?_⟩
    refine ⟨_, rfl, ?_⟩
    have iv1 := iv.u t1
    walk_at "w"
    walk_at "go"
    refine ⟨[.str "take", .str "skip"], .cons (.str _) (.cons (.str _) .nil), by simp, fun p2 H2 s2 t2 i2 => ?_⟩
    refine ⟨_, ["take", "skip"], rfl, i2, ?_⟩
    refine ⟨_, rfl, ?_⟩
    have iv2 := iv1.u t2
    have s12 := s1.trans s2
    walk_at "w"
    walk_at "wds"
    exact q H2 s12
  | merge a b =>
    walk_at "wds"
    refine ⟨[.str "keep", .str "while"], .cons (.str _) (.cons (.str _) .nil), by simp, fun p1 H1 s1 t1 i1 => ?_⟩
    refine ⟨_, ["keep", "while"], rfl, i1, ?_⟩
    refine ⟨_, rfl, ?_⟩
    have iv1 := iv.u t1
    walk_at "w"
    walk_at "go"
    refine ⟨[.str "take", .str "skip"], .cons (.str _) (.cons (.str _) .nil), by simp, fun p2 H2 s2 t2 i2 => ?_⟩
    refine ⟨_, ["take", "skip"], rfl, i2, ?_⟩
    refine ⟨_, rfl, ?_⟩
    have iv2 := iv1.u t2
    have s12 := s1.trans s2
    walk_at "w"
    walk_at "wds"
    exact q H2 s12

def spLooked (K : PySem.W.Frag) : Sp := fun vs H Q _ => ∃ (vw vm : V), vs = [vw, vm] ∧ Hold (∃ (pw : Addr) (ls : List Ln) (ks : List Kd) (many : Int), vw = .ref pw ∧ vm = .int many ∧ Acc K H pw (ls.map Ln.d) ∧ GoodW many ls ks ∧ 1 ≤ ls.length ∧ ls.length ≤ 24 ∧
  ∀ p H', H p = none → Same H H' → Acc K H' p (ks.map Kd.d) → Q (.ref p) H')
theorem num_lens {l : Ln} (h : numOk l = true) : (∀ ds a, l = .map ds a → ds.length ≤ 1000) ∧ ∀ ts a, l = .keep ts a ∨ l = .whil ts a → ts.length ≤ 1000 := by
  refine ⟨fun ds a e => ?_, fun ts a e => ?_⟩
  · subst e
    have h : ((decide (1 ≤ ds.length) && decide (ds.length ≤ 64)) && ds.all deedNum) = true := h
    rw [Bool.and_eq_true, Bool.and_eq_true, decide_eq_true_eq, decide_eq_true_eq] at h
    omega
  · have h : ((decide (1 ≤ ts.length) && decide (ts.length ≤ 64)) && ts.all tstNum) = true := by
      rcases e with rfl | rfl <;> exact h
    rw [Bool.and_eq_true, Bool.and_eq_true, decide_eq_true_eq, decide_eq_true_eq] at h
    omega
theorem ok_looked (T : Tx P K w mg) : FnOk P w K mg base CX0 5 T.looked.f T.looked.fd ["weave", "many"] (spLooked K) := by
  refine T.looked.F.ok sc_looked (fun vs H Q E h => ?_) (fun cdv A outer s H vs Q E hr h => ?_)
  · obtain ⟨a, b, rfl, _⟩ := h
    rfl
  obtain ⟨vw, vm, rfl, h⟩ := h
  obtain ⟨pw, ls, ks, many, rfl, rfl, aw, good, l1, l24, q⟩ := h.out
  refine ⟨_, (pss_cons (ps_if (pt_cmpR op_eq (pe_callB call_lenA (by rfl) T.z_len PySem.boot_len (pa_cons (pv 0) pa_nil)) pe_int (nomark _)) (pss_one ps_never) pss_nil)
      (pss_cons (ps_if (pt_cmpR op_gt (pe_callB call_lenA (by rfl) T.z_len PySem.boot_len (pa_cons (pv 0) pa_nil)) (pe_glob (v := .int 24) (by rfl) T.c_MOST_LINES.g ⟨_, rfl⟩) (nomark _)) (pss_one ps_never) pss_nil)
      (pss_cons (ps_set (i := 2) sc_looked.nd rfl (by first | exact Or.inl rfl | exact Or.inr rfl) (pe_ld pa_nil))
      (pss_cons (ps_set (i := 3) sc_looked.nd rfl (by first | exact Or.inl rfl | exact Or.inr rfl) (pe_ld pa_nil))
      (pss_cons (ps_for PassesOwn.never rfl (pi_enum (by rfl) T.z_enumerate (pa_cons (pv 0) pa_nil)) (pg_tup rfl (pgs_cons (pg_name (i := 4) sc_looked.nd rfl (by first | exact Or.inl rfl | exact Or.inr rfl)) (pgs_cons (pg_name (i := 5) sc_looked.nd rfl (by first | exact Or.inl rfl | exact Or.inr rfl)) pgs_nil))) (pss_cons (ps_if (pt_not (pt_val (pe_call (ok_place_can_be T) (hr.mono (by decide)) (by rfl) T.place_can_be.g T.place_can_be.F.kp T.place_can_be.b .nil pass0 (pa_cons (pv 5) (pa_cons (pv 4) (pa_cons (pv 1) (pa_cons (pv 3) pa_nil))))))) (pss_one ps_never) pss_nil)
      (pss_cons (ps_if (pt_not (pt_val (pe_call (ok_numbers_can_be T) hr (by rfl) T.numbers_can_be.g T.numbers_can_be.F.kp T.numbers_can_be.b .nil pass0 (pa_cons (pv 5) pa_nil)))) (pss_one ps_never) pss_nil)
      (pss_cons (ps_set (i := 6) sc_looked.nd rfl (by first | exact Or.inl rfl | exact Or.inr rfl) (pe_call (ok_kind_of T) (hr.mono (by decide)) (by rfl) T.kind_of.g T.kind_of.F.kp T.kind_of.b .nil pass0 (pa_cons (pv 5) (pa_cons (pe_lc (own := [("a", 7)]) (g := gName 7) (tt := tYes) rfl sc_looked.nd (pi_list (pe_call (ok_named T) (hr.mono (by decide)) (by rfl) T.named.g T.named.F.kp T.named.b .nil pass0 (pa_cons (pv 5) pa_nil))) (blkOk_by (own := [("a", 7)]) (N := ["weave", "many", "kinds", "sources", "at", "line", "kind", "a"]) (sc := defScope s_looked) (by decide +kernel)) (fun _ _ _ _ _ => pg_name (i := 7) sc_looked.nd rfl (Or.inl rfl)) (fun _ _ _ _ _ => pts_nil) (fun _ _ _ _ _ => (pe_ix (show IxR _ (rIxA K) from ix_listA) (pv 2) (pv 7) (fun _ _ => rfl)))) pa_nil))))
      (pss_cons (ps_if (pt_cmpR op_isN (pv 6) pe_non (nomark _)) (pss_one ps_never) pss_nil)
      (pss_cons (ps_if (pt_cmpR op_eq (pe_ix ix_tupD (pv 5) pe_int (fun _ _ => rfl)) pe_str (nomark _)) (pss_one (ps_expr (pe_bm PySem.F.plainAttrs_list PySem.F.slot_list_append PySem.F.type_list_append mt_appA (pv 3) (pa_cons (pe_ix ix_tupD (pv 5) pe_int (fun _ _ => rfl)) pa_nil)))) pss_nil)
      (pss_one (ps_expr (pe_bm PySem.F.plainAttrs_list PySem.F.slot_list_append PySem.F.type_list_append mt_appA (pv 2) (pa_cons (pv 6) pa_nil))))))))))
      (pss_one (ps_ret (pv 2)))))))), ?_⟩
  walk_at "go"
  refine ⟨_, _, rfl, aw, ?_⟩
  rw [List.length_map]
  walk_at "go"
  refine ite_f (decide_eq_false (by intro z; injection z with z; omega)) ?_
  walk_at "go"
  refine ⟨_, _, rfl, aw, ?_⟩
  rw [List.length_map]
  walk_at "go"
  refine ite_f (decide_eq_false (by omega)) ?_
  walk_at "go"
  refine ⟨[], .nil, by simp, fun pk H1 nk s1 t1 ak => ?_⟩
  walk_at "go"
  refine ⟨[], .nil, by simp, fun ps H2 ns s2 t2 as2 => ?_⟩
  obtain ⟨xk, ek⟩ := ak.at
  have nsH : H ps = none := s1.free ns
  have kps : pk ≠ ps := ne_of_none ek ns
  obtain ⟨xw, ew⟩ := aw.at
  have wpk : pw ≠ pk := ne_of_none ew nk
  have wps : pw ≠ ps := ne_of_none ew nsH
  have len := good.len
  have aw2 := (aw.same s1).same s2
  obtain ⟨xs, e2, i2⟩ := id aw2
  have lx := i2.len
  rw [List.length_map] at lx
  walk_at "go"
  refine ⟨pw, xs, rfl, SqL.of e2, for_enum (K := K) (a := pw) (xs := xs) (fun i σ H3 => Hold (∃ (o4 o5 o6 o7 : Option V), σ = [some (.ref pw), some (.int many), some (.ref pk), some (.ref ps), o4, o5, o6, o7] ∧ Same H H3 ∧ TK K H2 H3 ∧
      H3 pw = some (.lst xs) ∧ Acc K H3 pk ((ks.take i).map Kd.d) ∧ Acc K H3 ps ((srcs (ls.take i)).map PyData.int)))
    (.mk ⟨none, none, none, none, rfl, s1.trans s2, TK.refl, e2, ak.same s2, as2⟩) (fun i σ H3 _ h => by obtain ⟨_, _, _, _, _, _, _, e, _⟩ := h.out; exact SqL.of e) ?_ ?_⟩
  · intro i x σ H3 T4 H4 hi h nT s4 eT
    obtain ⟨o4, o5, o6, o7, rfl, s3, t3, ew3, ak3, as3⟩ := h.out
    obtain ⟨d, hd, ix⟩ := i2.get hi
    rw [List.getElem?_map] at hd
    obtain ⟨l, hl, rfl⟩ := Option.map_eq_some_iff.mp hd
    obtain ⟨k, hk, hp, hn, hkl, hdp, hm⟩ := good.at hl
    have hi' := (List.getElem?_eq_some_iff.mp hl).1
    have ix4 := (ix.u t3).u (same_tk s4)
    have ak4 := ak3.same s4
    have as4 := as3.same s4
    refine ⟨T4, _, rfl, SqT.of eT, rfl, ?_⟩
    walk_at "go"
    refine .mk ⟨l, _, many, ps, _, ix4, rfl, rfl, rfl, as4, fun H5 s5 => ?_⟩
    rw [hp]
    walk_at "go"
    refine .mk ⟨l, ix4.u (same_tk s5), (num_lens hn).1, (num_lens hn).2, fun H6 s6 => ?_⟩
    rw [hn]
    have s56 := s5.trans s6
    walk_at "go"
    have ix6 := ix4.u (same_tk s56)
    have ak6 := ak4.same s56
    refine .mk ⟨l, ix6, fun p7 H7 n7 s7 a7 => ?_⟩
    obtain ⟨kn, hkn, hkN⟩ := kindL_some hkl
    obtain ⟨lkn, fkn⟩ := namedK_at hkn
    have pn := place_names hp
    have ak7 := ak6.same s7
    obtain ⟨ys, e7, i7⟩ := a7
    have ei := Ims.of_ints _ i7
    subst ei
    refine ⟨p7, rfl, ⟨_, SqL.of e7⟩, fun D nD => lc_list (K := K) (a := p7) (xs := l.names.map V.int) (fun j H8 => Hold (Same H7 H8 ∧ Acc K H8 D ((kn.take j).map Kd.d)))
        (.mk ⟨same_new nD, acc_nil upd_same⟩) (fun j H8 _ h => SqL.of (h.out.1 _ _ e7)) ?_ ?_⟩
    · intro j y H8 hj h
      obtain ⟨s8, a8⟩ := h.out
      rw [List.getElem?_map] at hj
      obtain ⟨a, ha, rfl⟩ := Option.map_eq_some_iff.mp hj
      obtain ⟨k', hk1, hk2⟩ := fkn j a ha
      obtain ⟨pa, pb⟩ := pn a (List.mem_of_getElem? ha)
      walk_at "go"
      refine ⟨_, _, a, a.toNat, k'.d, rfl, ak7.same s8, rfl, by omega, by rw [List.getElem?_map, hk1]; rfl, fun v iv => ?_⟩
      have l8 : (List.map Kd.d (kn.take j)).length < 1000000 := by
        rw [List.length_map, List.length_take]
        have : l.names.length ≤ 2 := by cases l <;> simp [Ln.names]
        omega
      obtain ⟨acc, ea, hla, b9, t9, a9⟩ := a8.push iv l8
      refine ⟨acc, ea, hla, .mk ⟨same_put s8 nD, ?_⟩⟩
      rw [take_succ hk2, List.map_append]
      exact a9
    · intro H8 h
      obtain ⟨s8, a8⟩ := h.out
      rw [List.length_map, lkn, List.take_length] at a8
      walk_at "go"
      refine .mk ⟨l, D, kn, rfl, (ix6.u (same_tk s7)).u (same_tk s8), a8, lkn.symm, fun k' hk' => ?_, fun ds a k' e1 e2 => ?_, fun u H9 s9 i9 => ?_⟩
      · obtain ⟨j, hj⟩ := List.mem_iff_getElem?.mp hk'
        have hjl := (List.getElem?_eq_some_iff.mp hj).1
        obtain ⟨k2, b1, b2⟩ := fkn j _ (List.getElem?_eq_getElem (by omega))
        rw [hj] at b2
        obtain rfl := Option.some.inj b2
        have hmem := List.mem_of_getElem? b1
        have hmem := List.mem_of_mem_take hmem
        obtain ⟨m, hm1⟩ := List.mem_iff_getElem?.mp hmem
        have hml := (List.getElem?_eq_some_iff.mp hm1).1
        obtain ⟨k3, c1, _, _, _, c5, _⟩ := good.at (List.getElem?_eq_getElem (by omega : m < ls.length))
        rw [hm1] at c1
        cases c1
        omega
      · rw [e2] at hkn
        exact hm ds a k' e1 hkn
      · rw [hkN] at i9
        walk_at "go"
        refine ite_f (decide_eq_false (kdO_ne i9)) ?_
        have s49 : Same H4 H9 := s56.trans (s7.trans (s8.trans s9))
        have s39 : Same H3 H9 := s4.trans s49
        have t39 : TK K H3 H9 := same_tk s39
        have ix9 := ix4.u (same_tk s49)
        have as9 := as4.same s49
        have ak9 := ak4.same s49
        have fin : ∀ H10 o4 o5 o6 o7, But ps H9 H10 → TK K H9 H10 → Acc K H10 pk ((ks.take i).map Kd.d) → Acc K H10 ps ((srcs (ls.take (i + 1))).map PyData.int) →
            ∃ (m : Addr) (y : V) (ds : List PyData) (d : PyData), V.ref pk = .ref m ∧ [u] = [y] ∧ Acc K H10 m ds ∧ Im K H10 y d ∧ ds.length < 1000000 ∧ ∀ H', But m H10 H' → TK K H10 H' → Acc K H' m (ds ++ [d]) →
              Hold (∃ (p4 p5 p6 p7 : Option V), ([some (.ref pw), some (.int many), some (.ref pk), some (.ref ps), o4, o5, o6, o7] : List (Option V)) = [some (.ref pw), some (.int many), some (.ref pk), some (.ref ps), p4, p5, p6, p7] ∧ Same H H' ∧ TK K H2 H' ∧
                H' pw = some (.lst xs) ∧ Acc K H' pk ((ks.take (i + 1)).map Kd.d) ∧ Acc K H' ps ((srcs (ls.take (i + 1))).map PyData.int)) := fun H10 o4 o5 o6 o7 b10 t10 ak10 as10 => by
          refine ⟨pk, u, _, _, rfl, rfl, ak10, i9.u t10, by rw [List.length_map, List.length_take]; omega, fun H11 b11 t11 a11 => .mk ⟨_, _, _, _, rfl, ?_, (t3.trans t39).trans (t10.trans t11), ?_, ?_, as10.but b11 t11 kps.symm⟩⟩
          · intro b z hb
            exact b11 _ _ (ne_of_none hb nk) (b10 _ _ (ne_of_none hb nsH) (s39 _ _ (s3 _ _ hb)))
          · exact b11 _ _ wpk (b10 _ _ wps (s39 _ _ ew3))
          · rw [take_succ hk, List.map_append]
            exact a11
        walk_at "go"
        by_cases hs : ∃ k0, l = .source k0
        · obtain ⟨k0, rfl⟩ := hs
          refine ⟨_, 0, 0, _, ix9, rfl, rfl, rfl, fun v iv => ?_⟩
          obtain rfl := iv.s
          walk_at "go"
          refine ⟨_, 1, 1, _, ix9, rfl, rfl, rfl, fun v iv => ?_⟩
          walk_at "go"
          refine ⟨_, _, _, _, rfl, rfl, as9, iv, ?_, fun H10 b10 t10 a10 => ?_⟩
          · rw [List.length_map]
            have : (srcs (ls.take i)).length ≤ 24 := by
              have h1 := List.length_filterMap_le Ln.src (ls.take i)
              rw [List.length_take] at h1
              show (List.filterMap Ln.src (ls.take i)).length ≤ 24
              omega
            omega
          · have ak10 := ak9.but b10 t10 kps
            walk_at "go"
            refine fin H10 _ _ _ _ b10 t10 ak10 ?_
            rw [take_succ hl, srcs_snoc, List.map_append]
            exact a10
        · have w : ∃ (x : Str) (ds : List PyData), l.d = .tuple (.str x :: ds) ∧ decide (V.str x = V.str "source") = false := by
            cases l with
            | source k => exact absurd ⟨k, rfl⟩ hs
            | _ => exact ⟨_, _, rfl, by decide +kernel⟩
          obtain ⟨x, ds, ed, ex⟩ := w
          have iw := ix9
          rw [ed] at iw
          refine ⟨_, 0, 0, _, iw, rfl, rfl, rfl, fun v iv => ?_⟩
          obtain rfl := iv.s
          refine ⟨rfl, _, rfl, ?_⟩
          refine ite_f ex ?_
          walk_at "go"
          refine fin H9 _ _ _ _ But.refl TK.refl ak9 ?_
          rw [take_succ hl, srcs_snoc]
          have e0 : l.src = none := by
            cases l with
            | source k => exact absurd ⟨k, rfl⟩ hs
            | _ => rfl
          rw [e0, List.append_nil]
          exact as9
  · intro σ H3 h
    obtain ⟨o4, o5, o6, o7, rfl, s3, t3, ew3, ak3, as3⟩ := h.out
    walk_at "go"
    refine q pk H3 nk s3 ?_
    rw [lx, len, List.take_length] at ak3
    exact ak3

def spSrcBase (K : PySem.W.Frag) (X : Cs) : Sp := fun vs H Q _ => ∃ (v v2 : V), vs = [v, v2] ∧ Hold (∃ (x dx : Addr) (n : Int), v = .ref x ∧ v2 = .int n ∧ H x = some (.ins X.s dx []) ∧
  ∀ (sf : Addr) (H' : Hp), H sf = none → sf ≠ x → But x H H' → TK K H H' → H' x = some (.ins X.s dx [("many", .int n), ("left", .ref sf)]) → Acc K H' sf [] → Q .non H')
theorem ok_Sources___init__ (T : Tx P K w mg) : FnOk P w K mg base CX0 1 T.Sources___init__.f T.Sources___init__.fd ["self", "many"] (spSrcBase K T.cs) := by
  refine T.Sources___init__.F.ok sc_Sources___init__ (fun vs H Q E h => ?_) (fun cdv A outer s H vs Q E hr h => ?_)
  · obtain ⟨a, b, rfl, _⟩ := h
    rfl
  obtain ⟨v1, v2, rfl, h⟩ := h
  obtain ⟨x, dx, n, rfl, rfl, ex, q⟩ := h.out
  refine ⟨_, (pss_cons (ps_fld (pv 0) (pv 1) rfl)
      (pss_one (ps_fld (pv 0) (pe_ld pa_nil) rfl))), ?_⟩
  walk_at "go"
  refine ⟨_, _, _, _, rfl, ex, T.k_ListedSources.cl, T.n_ListedSources_many, (by exact (by decide : (0 : Nat) < 1000)), ?_⟩
  refine put (fun H2 b2 e2 => ?_)
  walk_at "go"
  refine ⟨[], .nil, by simp, fun sf H3 n3 s3 t3 a3 => ?_⟩
  have e3 := s3 _ _ e2
  walk_at "go"
  refine ⟨_, _, _, _, rfl, e3, T.k_ListedSources.cl, T.n_ListedSources_left, (by exact (by decide : (1 : Nat) < 1000)), ?_⟩
  refine put (fun H4 b4 e4 => ?_)
  have sfx : sf ≠ x := by
    intro z
    rw [← z, n3] at e2
    cases e2
  have t4 : TK K H3 H4 := b4.tkW e3 rfl
  exact q sf H4 (b2.free sfx n3) sfx ((b2.trans (same_but s3)).trans b4) (((b2.tkW ex rfl).trans t3).trans t4) e4 (a3.but b4 t4 sfx)

theorem ok_ListedSources___init__ (T : Tx P K w mg) : FnOk P w K mg base CX0 3 T.ListedSources___init__.f T.ListedSources___init__.fd ["self", "lists"] (spSrcInit K T.cs) := by
  refine fn_super (pl := _) T.ListedSources___init__.F sc_ListedSources___init__ rfl rfl rfl T.z_super rfl (FnOk.raw ((ok_Sources___init__ T).mono (by decide)) T.Sources___init__.b .nil) (fun vs H Q E h => ?_) (fun _ => rfl) (fun _ => rfl) (fun _ => rfl) (fun _ => rfl) (fun _ => rfl) (fun A outer s H vs Q E hr h => ?_)
  · obtain ⟨a, b, rfl, _⟩ := h
    rfl
  obtain ⟨v1, v2, rfl, h⟩ := h
  obtain ⟨x, dx, pl, al, lists, rfl, rfl, ex, ll, l1, q⟩ := h.out
  have ell : al.length = lists.length := by
    have := ll.2.len
    unfold intsD at this
    rw [List.length_map] at this
    exact this
  refine ⟨x, dx, [], [.ref pl], _, _, rfl, ex, (pa_cons (pe_callB call_len_seq (by rfl) T.z_len PySem.boot_len (pa_cons (pv 1) pa_nil)) pa_nil), (pss_cons (ps_fld (pv 0) (pe_lc (own := [("numbers", 3)]) (g := gName 3) (tt := tYes) rfl sc_ListedSources___init__.nd (pi_list (pv 1)) (blkOk_by (own := [("numbers", 3)]) (N := ["self", "lists", "__class__", "numbers"]) (sc := defScope s_ListedSources___init__) (by decide +kernel)) (fun _ _ _ _ _ => pg_name (i := 3) sc_ListedSources___init__.nd rfl (Or.inl rfl)) (fun _ _ _ _ _ => pts_nil) (fun _ _ _ _ _ => (pe_callTy (show CallR _ _ (rListA K) from call_listA) (by rfl) T.z_list (by decide +kernel) (pa_cons (pv 3) pa_nil)))) rfl)
      (pss_cons (ps_fld (pv 0) (pe_op op_repN (pe_ld (pa_cons pe_int pa_nil)) (pe_callB call_len_seq (by rfl) T.z_len PySem.boot_len (pa_cons (pv 1) pa_nil))) rfl)
      (pss_one (ps_fld (pv 0) (pe_ld pa_nil) rfl)))), ?_⟩
  walk_at "go"
  refine ⟨_, _, rfl, .inl (SqL.of ll.1), ?_⟩
  rw [List.length_map, ell]
  walk_at "go"
  have xpl : pl ≠ x := by
    intro z
    have := ll.1
    rw [z, ex] at this
    cases this
  have xal : x ∉ al := fun z => by
    obtain ⟨_, e⟩ := ll.2.mem z
    rw [ex] at e
    cases e
  refine .mk ⟨x, dx, _, rfl, rfl, ex, fun sf H0 nsf sfx b0 t0 ex0 sf0 => ?_⟩
  have l0 := ll.but b0 t0 xpl xal
  walk_at "go"
  refine ⟨⟨_, SqL.of l0.1⟩, fun sl nsl => ?_⟩
  refine loop_list (K := K) (a := pl) (xs := al.map V.ref) (fun i H1 => Hold (∃ bs, Same H0 H1 ∧ LL K H1 sl bs (intsD (lists.take i)) ∧ (∀ b ∈ sl :: bs, H0 b = none) ∧ (sl :: bs).Nodup))
    (.mk ⟨[], same_new nsl, ⟨upd_same, .nil⟩, fun b hb => by rw [List.mem_singleton.mp hb]; exact nsl, by simp⟩) (fun i H1 _ h => by obtain ⟨_, s, _⟩ := h.out; exact SqL.of (s _ _ l0.1)) ?_ ?_
  · intro i y H1 hi h
    obtain ⟨bs, s1, l1', fr, nd⟩ := h.out
    rw [List.getElem?_map] at hi
    obtain ⟨r, hr, rfl⟩ := Option.map_eq_some_iff.mp hi
    obtain ⟨ds, hds, ar⟩ := (l0.same s1).2.got hr
    unfold intsD at hds
    rw [List.getElem?_map] at hds
    obtain ⟨row, hrow, rfl⟩ := Option.map_eq_some_iff.mp hds
    have hil := (List.getElem?_eq_some_iff.mp hrow).1
    walk_at "go"
    refine ⟨_, _, rfl, ar, fun p2 H2 n2 s2 t2 a2 => ?_⟩
    have l2 := l1'.same s2
    have slp : sl ≠ p2 := ne_of_none l1'.1 n2
    have slb : sl ∉ bs := (List.nodup_cons.mp nd).1
    have pin := l1'.2.fresh n2
    have b3 : But sl H2 (upd H2 sl (.lst (bs.map V.ref ++ [.ref p2]))) := fun b u hb z => by rw [upd_ne hb]; exact z
    refine ⟨_, l2.1, ?_, .mk ⟨bs ++ [p2], same_put (s1.trans s2) nsl, ⟨by rw [upd_same, List.map_append]; rfl, ?_⟩, fun b hb => ?_, ?_⟩⟩
    · rw [List.length_map, l2.2.len]
      unfold intsD
      rw [List.length_map, List.length_take]
      exact small1000 (by omega)
    · rw [take_succ hrow]
      unfold intsD
      rw [List.map_append]
      exact (l2.2.but b3 (b3.tk l2.1) slb).snoc (a2.but b3 (b3.tk l2.1) slp.symm)
    · rw [← List.cons_append] at hb
      rcases List.mem_append.mp hb with hb | hb
      · exact fr b hb
      · rw [List.mem_singleton.mp hb]; exact s1.free n2
    · rw [← List.cons_append, List.nodup_append]
      refine ⟨nd, by simp, fun a ha b hb => ?_⟩
      rw [List.mem_singleton.mp hb]
      intro z
      subst z
      rcases List.mem_cons.mp ha with ha | ha
      · exact slp ha.symm
      · exact pin ha
  intro H1 h
  obtain ⟨bs, s1, l1', fr, nd⟩ := h.out
  rw [List.length_map, ell, List.take_length] at l1'
  have ex1 := s1 _ _ ex0
  walk_at "go"
  refine ⟨_, _, _, _, rfl, ex1, T.k_ListedSources.cl, T.n_ListedSources_lists, (by exact (by decide : (2 : Nat) < 1000)), ?_⟩
  refine put (fun H2 b2 e2 => ?_)
  have xne : ∀ b ∈ sl :: bs, b ≠ x := fun b hb z => by
    have := fr b hb
    rw [z, ex0] at this
    cases this
  have t2 : TK K H1 H2 := b2.tkW ex1 rfl
  have l2 : LL K H2 sl bs (intsD lists) := l1'.but b2 t2 (xne sl List.mem_cons_self) (fun hx => xne x (List.mem_cons_of_mem _ hx) rfl)
  have nxl : x ≠ pl := by
    intro z
    have := l0.1
    rw [← z, ex0] at this
    cases this
  walk_at "go"
  refine ⟨[.int 0], .cons (.int 0) .nil, by simp, fun p3 H3 n3 s3 t3 a3 => ?_⟩
  walk_at "go"
  refine ⟨_, _, rfl, .inl (SqL.of (s3 _ _ (b2 _ _ nxl.symm (s1 _ _ l0.1)))), ?_⟩
  rw [List.length_map, ell]
  refine ⟨p3, lists.length, rfl, rfl, a3, by omega, fun sn H4 n4 s4 t4 a4 => ?_⟩
  have ex4 := s4 _ _ (s3 _ _ e2)
  walk_at "go"
  refine ⟨_, _, _, _, rfl, ex4, T.k_ListedSources.cl, T.n_ListedSources_nexts, (by exact (by decide : (3 : Nat) < 1000)), ?_⟩
  refine put (fun H5 b5 e5 => ?_)
  have t5 : TK K H4 H5 := b5.tkW ex4 rfl
  have l5 := ((l2.same s3).same s4).but b5 t5 (xne sl List.mem_cons_self) (fun hx => xne x (List.mem_cons_of_mem _ hx) rfl)
  have snx : sn ≠ x := by
    intro z
    have := s3 _ _ e2
    rw [← z, n4] at this
    cases this
  have a5 := a4.but b5 t5 snx
  walk_at "go"
  refine ⟨[], .nil, by simp, fun sa H6 n6 s6 t6 a6 => ?_⟩
  have ex6 := s6 _ _ e5
  walk_at "go"
  refine ⟨_, _, _, _, rfl, ex6, T.k_ListedSources.cl, T.n_ListedSources_asks, (by exact (by decide : (4 : Nat) < 1000)), ?_⟩
  refine put (fun H7 b7 e7 => ?_)
  have t7 : TK K H6 H7 := b7.tkW ex6 rfl
  have sax : sa ≠ x := by
    intro z
    rw [← z, n6] at e5
    cases e5
  have l7 := (l5.same s6).but b7 t7 (xne sl List.mem_cons_self) (fun hx => xne x (List.mem_cons_of_mem _ hx) rfl)
  have sn7 := (a5.same s6).but b7 t7 snx
  have sa7 := a6.but b7 t7 sax
  have B02 : But x H0 H2 := (same_but s1).trans b2
  have B04 : But x H0 H4 := B02.trans (same_but (s3.trans s4))
  have B05 : But x H0 H5 := B04.trans b5
  have B07 : But x H0 H7 := (B05.trans (same_but s6)).trans b7
  have t02 : TK K H0 H2 := (same_tk s1).trans t2
  have t05 : TK K H0 H5 := (t02.trans (same_tk (s3.trans s4))).trans t5
  have t07 : TK K H0 H7 := (t05.trans (same_tk s6)).trans t7
  have sf7 := sf0.but B07 t07 sfx
  have fsn : H0 sn = none := B02.free snx (s3.free n4)
  have fsa : H0 sa = none := B05.free sax n6
  obtain ⟨_, esf⟩ := sf0.at
  have n_sf : ∀ b, H0 b = none → b ≠ sf := fun b n z => by
    rw [z, esf] at n
    cases n
  have exb : ∀ b ∈ sl :: bs, ∃ xs, H2 b = some (.lst xs) := fun b hb => by
    rcases List.mem_cons.mp hb with rfl | hb
    · exact ⟨_, l2.1⟩
    · exact l2.2.mem hb
  have n_sn : ∀ b ∈ sl :: bs, b ≠ sn := fun b hb z => by
    obtain ⟨_, e⟩ := exb b hb
    have := s3 _ _ e
    rw [z, n4] at this
    cases this
  have n_sa : ∀ b ∈ sl :: bs, b ≠ sa := fun b hb z => by
    obtain ⟨_, e⟩ := exb b hb
    have := b5 _ _ (xne b hb) (s4 _ _ (s3 _ _ e))
    rw [z, n6] at this
    cases this
  have sn_sa : sn ≠ sa := fun z => by
    obtain ⟨_, e⟩ := a5.at
    rw [z, n6] at e
    cases e
  refine q sl sn sa sf bs H7 (fun b hb => ?_) ?_ (b0.trans B07) e7 l7 sn7 sa7 sf7
  · rcases List.mem_cons.mp hb with rfl | hb
    · exact b0.free (xne _ List.mem_cons_self) (fr _ List.mem_cons_self)
    · rcases List.mem_cons.mp hb with rfl | hb
      · exact b0.free snx fsn
      · rcases List.mem_cons.mp hb with rfl | hb
        · exact b0.free sax fsa
        · rcases List.mem_cons.mp hb with rfl | hb
          · exact nsf
          · exact b0.free (xne _ (List.mem_cons_of_mem _ hb)) (fr b (List.mem_cons_of_mem _ hb))
  · have nd2 := List.nodup_cons.mp nd
    have hm : ∀ z, z ∈ bs → z ∈ sl :: bs := fun z h => List.mem_cons_of_mem _ h
    refine List.nodup_cons.mpr ⟨?_, List.nodup_cons.mpr ⟨?_, List.nodup_cons.mpr ⟨?_, List.nodup_cons.mpr ⟨?_, nd2.2⟩⟩⟩⟩
    · intro h
      rcases List.mem_cons.mp h with h | h
      · exact n_sn sl List.mem_cons_self h
      · rcases List.mem_cons.mp h with h | h
        · exact n_sa sl List.mem_cons_self h
        · rcases List.mem_cons.mp h with h | h
          · exact n_sf sl (fr sl List.mem_cons_self) h
          · exact nd2.1 h
    · intro h
      rcases List.mem_cons.mp h with h | h
      · exact sn_sa h
      · rcases List.mem_cons.mp h with h | h
        · exact n_sf sn fsn h
        · exact n_sn sn (hm _ h) rfl
    · intro h
      rcases List.mem_cons.mp h with h | h
      · exact n_sf sa fsa h
      · exact n_sa sa (hm _ h) rfl
    · intro h
      exact n_sf sf (fr sf (hm _ h)) rfl

def spOutsLk (K : PySem.W.Frag) : Sp := fun vs H Q _ => ∃ (v v2 : V), vs = [v, v2] ∧ Hold (∃ (lw po : Addr) (ds : List PyData) (ns : List Nat), v = .ref lw ∧ v2 = .ref po ∧ Acc K H lw ds ∧ H po = some (.lst (ns.map fun (n : Nat) => V.int (n : Int))) ∧ (∀ (i n : Nat), ns[i]? = some n → n < ds.length) ∧ ds.length ≤ 1000 ∧ Q .non H)
theorem ok_outs_looked (T : Tx P K w mg) : FnOk P w K mg base CX0 1 T.outs_looked.f T.outs_looked.fd ["weave", "outs"] (spOutsLk K) := by
  refine T.outs_looked.F.ok sc_outs_looked (fun vs H Q E h => ?_) (fun cdv A outer s H vs Q E hr h => ?_)
  · obtain ⟨a, b, rfl, _⟩ := h
    rfl
  obtain ⟨v, v2, rfl, h⟩ := h
  obtain ⟨lw, po, ds, ns, rfl, rfl, aw, eo, ok, dl, q⟩ := h.out
  refine ⟨_, (pss_one (ps_for PassesOwn.never rfl (pi_list (pv 1)) (pg_name (i := 2) sc_outs_looked.nd rfl (by first | exact Or.inl rfl | exact Or.inr rfl)) (pss_one (ps_if (pt_not (pt_chain op_le op_lt pe_int (pv 2) (pe_callB call_lenA (by rfl) T.z_len PySem.boot_len (pa_cons (pv 0) pa_nil)))) (pss_one ps_never) pss_nil)))), ?_⟩
  walk_at "go"
  refine ⟨⟨_, SqL.of eo⟩, for_list (K := K) (a := po) (xs := ns.map fun (n : Nat) => V.int (n : Int)) (fun i σ H2 => Hold (∃ (o4 : Option V), σ = [some (.ref lw), some (.ref po), o4] ∧ H2 = H))
    (.mk ⟨none, rfl, rfl⟩) (fun i σ H2 _ h => by obtain ⟨_, _, e⟩ := h.out; rw [e]; exact SqL.of eo) ?_ ?_⟩
  · intro i yv σ H2 hi h
    obtain ⟨o4, rfl, rfl⟩ := h.out
    rw [List.getElem?_map] at hi
    obtain ⟨n, hn, rfl⟩ := Option.map_eq_some_iff.mp hi
    have hlt := ok i n hn
    walk_at "go"
    refine ⟨_, _, rfl, aw, ?_⟩
    walk_at "go"
    refine ite_f (by rw [decide_eq_true (by omega)]; rfl) ?_
    walk_at "go"
    exact .mk ⟨_, rfl, rfl⟩
  intro σ H2 h
  obtain ⟨o4, rfl, rfl⟩ := h.out
  walk_at "go"
  exact q

theorem ok_Place___init__ (T : Tx P K w mg) : FnOk P w K mg base CX0 1 T.Place___init__.f T.Place___init__.fd ["self", "walk"] (spPlaceInit K T.cs) := by
  refine T.Place___init__.F.ok sc_Place___init__ (fun vs H Q E h => ?_) (fun cdv A outer s H vs Q E hr h => ?_)
  · obtain ⟨a, b, rfl, _⟩ := h
    rfl
  obtain ⟨v1, v2, rfl, h⟩ := h
  obtain ⟨x, dx, a, dw, w1, w2, w3, w4, w5, w6, w7, w8, z, rfl, rfl, ex, xa, ea, q⟩ := h.out
  refine ⟨_, (pss_cons (ps_fld (pv 0) (pv 1) rfl)
      (pss_cons (ps_fld (pv 0) pe_int rfl)
      (pss_one (ps_fldaug (pv 1) pe_int in_add)))), ?_⟩
  walk_at "go"
  refine ⟨_, _, _, _, rfl, ex, T.k_Place.cl, T.n_Place_walk, (by exact (by decide : (0 : Nat) < 1000)), ?_⟩
  refine put (fun H1 b1 e1 => ?_)
  walk_at "go"
  refine ⟨_, _, _, _, rfl, e1, T.k_Place.cl, T.n_Place_at, (by exact (by decide : (1 : Nat) < 1000)), ?_⟩
  refine put (fun H2 b2 e2 => ?_)
  have ea2 := b2 _ _ xa.symm (b1 _ _ xa.symm ea)
  walk_at "go"
  walk_at "f"
  walk_at "go"
  refine ⟨_, _, ea2, (by exact (by decide : (9 : Nat) < 1000)), ?_⟩
  refine put (fun H3 b3 e3 => ?_)
  exact q H2 H3 (b1.trans b2) ((b1.tkW ex rfl).trans (b2.tkW e1 rfl)) e2 b3 (b3.tkW ea2 rfl) e3

theorem ok_Walk___init__ (T : Tx P K w mg) : FnOk P w K mg base CX0 1 T.Walk___init__.f T.Walk___init__.fd ["self", "line", "places", "sources"] (spWalkInit K T.cs) := by
  refine T.Walk___init__.F.ok sc_Walk___init__ (fun vs H Q E h => ?_) (fun cdv A outer s H vs Q E hr h => ?_)
  · obtain ⟨a, b, c, d, rfl, _⟩ := h
    rfl
  obtain ⟨v, v1, v2, v3, rfl, h⟩ := h
  obtain ⟨x, dx, rfl, ex, q⟩ := h.out
  refine ⟨_, (pss_cons (ps_fld (pv 0) (pv 1) rfl)
      (pss_cons (ps_fld (pv 0) (pv 2) rfl)
      (pss_cons (ps_fld (pv 0) (pv 3) rfl)
      (pss_cons (ps_fld (pv 0) (pe_ld pa_nil) rfl)
      (pss_cons (ps_fld (pv 0) pe_int rfl)
      (pss_cons (ps_fld (pv 0) pe_bl rfl)
      (pss_cons (ps_fld (pv 0) pe_bl rfl)
      (pss_cons (ps_fld (pv 0) (pe_ld pa_nil) rfl)
      (pss_one (ps_fld (pv 0) (pe_ld (pa_cons pe_non (pa_cons pe_non pa_nil))) rfl)))))))))), ?_⟩
  walk_at "go"
  refine ⟨_, _, _, _, rfl, ex, T.k_Walk.cl, T.n_Walk_line, (by exact (by decide : (0 : Nat) < 1000)), ?_⟩
  refine put (fun H1 b1 e1 => ?_)
  have t1 := b1.tkW (K := K) ex rfl
  walk_at "go"
  refine ⟨_, _, _, _, rfl, e1, T.k_Walk.cl, T.n_Walk_places, (by exact (by decide : (1 : Nat) < 1000)), ?_⟩
  refine put (fun H2 b2 e2 => ?_)
  have t2 := b2.tkW (K := K) e1 rfl
  walk_at "go"
  refine ⟨_, _, _, _, rfl, e2, T.k_Walk.cl, T.n_Walk_sources, (by exact (by decide : (2 : Nat) < 1000)), ?_⟩
  refine put (fun H3 b3 e3 => ?_)
  have t3 := b3.tkW (K := K) e2 rfl
  have B3 := (b1.trans b2).trans b3
  walk_at "go"
  refine ⟨[], .nil, by simp, fun m H4 n4 s4 t4 a4 => ?_⟩
  have e4 := s4 _ _ e3
  have mx : m ≠ x := (ne_of_none e3 n4).symm
  walk_at "go"
  refine ⟨_, _, _, _, rfl, e4, T.k_Walk.cl, T.n_Walk_made, (by exact (by decide : (3 : Nat) < 1000)), ?_⟩
  refine put (fun H5 b5 e5 => ?_)
  have t5 := b5.tkW (K := K) e4 rfl
  have am5 := a4.but b5 t5 mx
  walk_at "go"
  refine ⟨_, _, _, _, rfl, e5, T.k_Walk.cl, T.n_Walk_holders, (by exact (by decide : (4 : Nat) < 1000)), ?_⟩
  refine put (fun H6 b6 e6 => ?_)
  have t6 := b6.tkW (K := K) e5 rfl
  have am6 := am5.but b6 t6 mx
  walk_at "go"
  refine ⟨_, _, _, _, rfl, e6, T.k_Walk.cl, T.n_Walk_over, (by exact (by decide : (5 : Nat) < 1000)), ?_⟩
  refine put (fun H7 b7 e7 => ?_)
  have t7 := b7.tkW (K := K) e6 rfl
  have am7 := am6.but b7 t7 mx
  walk_at "go"
  refine ⟨_, _, _, _, rfl, e7, T.k_Walk.cl, T.n_Walk_loose, (by exact (by decide : (6 : Nat) < 1000)), ?_⟩
  refine put (fun H8 b8 e8 => ?_)
  have t8 := b8.tkW (K := K) e7 rfl
  have am8 := am7.but b8 t8 mx
  walk_at "go"
  refine ⟨[], .nil, by simp, fun st H9 n9 s9 t9 a9 => ?_⟩
  have e9 := s9 _ _ e8
  have stx : st ≠ x := (ne_of_none e8 n9).symm
  have am9 := am8.same s9
  have mst : m ≠ st := by
    obtain ⟨_, e⟩ := am8.at
    exact ne_of_none e n9
  walk_at "go"
  refine ⟨_, _, _, _, rfl, e9, T.k_Walk.cl, T.n_Walk_stretch, (by exact (by decide : (7 : Nat) < 1000)), ?_⟩
  refine put (fun H10 b10 e10 => ?_)
  have t10 := b10.tkW (K := K) e9 rfl
  have am10 := am9.but b10 t10 mx
  have as10 := a9.but b10 t10 stx
  walk_at "go"
  refine ⟨[.none, .none], .cons .non (.cons .non .nil), by simp, fun hd H11 n11 s11 t11 a11 => ?_⟩
  have e11 := s11 _ _ e10
  have hdx : hd ≠ x := (ne_of_none e10 n11).symm
  have mhd : m ≠ hd := by
    obtain ⟨_, e⟩ := am10.at
    exact ne_of_none e n11
  have shd : st ≠ hd := by
    obtain ⟨_, e⟩ := as10.at
    exact ne_of_none e n11
  walk_at "go"
  refine ⟨_, _, _, _, rfl, e11, T.k_Walk.cl, T.n_Walk_held, (by exact (by decide : (8 : Nat) < 1000)), ?_⟩
  refine put (fun H12 b12 e12 => ?_)
  have t12 := b12.tkW (K := K) e11 rfl
  have B8 : But x H H8 := ((((B3.trans (same_but s4)).trans b5).trans b6).trans b7).trans b8
  have B10 : But x H H10 := (B8.trans (same_but s9)).trans b10
  have B12 : But x H H12 := (B10.trans (same_but s11)).trans b12
  refine q m st hd H12 (B3.free mx n4) (B8.free stx n9) (B10.free hdx n11) mst mhd shd B12 ?_ e12 ((am10.same s11).but b12 t12 mx) ((as10.same s11).but b12 t12 stx) (a11.but b12 t12 hdx)
  exact (((((((((((t1.trans t2).trans t3).trans t4).trans t5).trans t6).trans t7).trans t8).trans t9).trans t10).trans t11).trans t12)

theorem ok_walks_of (T : Tx P K w mg) : FnOk P w K mg base CX0 3 T.walks_of.f T.walks_of.fd ["weave", "sources"] (spWalksOf K T.cs) := by
  refine T.walks_of.F.ok sc_walks_of (fun vs H Q E h => ?_) (fun cdv A outer s H vs Q E hr h => ?_)
  · obtain ⟨a, b, rfl, _⟩ := h
    rfl
  obtain ⟨v, v2, rfl, h⟩ := h
  obtain ⟨lw, xs, C, B, y, rfl, rfl, ok, ew, iw, hlv, R, ow, q⟩ := h.out
  have ok1 := ok.ct
  have lx := iw.len
  rw [List.length_map] at lx
  refine ⟨_, (pss_cons (ps_set (i := 2) sc_walks_of.nd rfl (by first | exact Or.inl rfl | exact Or.inr rfl) (pe_lr pa_nil))
      (pss_cons (ps_for PassesOwn.never rfl (pi_list (pv 0)) (pg_name (i := 3) sc_walks_of.nd rfl (by first | exact Or.inl rfl | exact Or.inr rfl)) (pss_cons (ps_setLc (i := 4) (own := [("a", 5)]) (g := gName 5) (tt := tYes) rfl sc_walks_of.nd rfl rfl (sw_true rfl rfl rfl (by decide +kernel)) (pi_list (pe_call (ok_named T) (hr.mono (by decide)) (by rfl) T.named.g T.named.F.kp T.named.b .nil pass0 (pa_cons (pv 3) pa_nil))) (blkOk_by (own := [("a", 5)]) (N := ["weave", "sources", "walks", "line", "places", "a"]) (sc := defScope s_walks_of) (by decide +kernel)) (fun _ _ _ _ _ => pg_name (i := 5) sc_walks_of.nd rfl (Or.inl rfl)) (fun _ _ _ _ _ => pts_nil) (fun _ _ _ _ _ => (pe_make T.Place___init__.mk' (ok_Place___init__ T) hr (by rfl) T.k_Place.g T.Place___init__.b .nil pass0 (pa_cons (pe_ix (show IxR _ (rIxL K) from ix_list) (pv 2) (pv 5) (fun _ _ => rfl)) pa_nil))))
      (pss_one (ps_expr (pe_bm PySem.F.plainAttrs_list PySem.F.slot_list_append PySem.F.type_list_append mt_appR (pv 2) (pa_cons (pe_make T.Walk___init__.mk' (ok_Walk___init__ T) hr (by rfl) T.k_Walk.g T.Walk___init__.b .nil pass0 (pa_cons (pv 3) (pa_cons (pv 4) (pa_cons (pv 1) pa_nil)))) pa_nil))))))
      (pss_one (ps_ret (pv 2))))), ?_⟩
  walk_at "go"
  refine ⟨by simp, fun pw H1 nw s1 t1 e1 => ?_⟩
  walk_at "go"
  refine ⟨⟨_, SqL.of (s1 _ _ ew)⟩, for_list (K := K) (a := lw) (xs := xs) (fun i σ H2 => Hold (∃ (o3 o4 o5 : Option V) (B2 : Bk) (y2 : Dy) (wl : List Addr), σ = [some (.ref lw), some (.ref (B.ad .so)), some (.ref pw), o3, o4, o5] ∧ Rep K T.cs C B2 (HasI C i 0) y2 (stL C i) H2 ∧ Mg K B (HasI C 0 0) y H B2 (HasI C i 0) y2 H2 ∧ B2.lv = B.lv ∧ B2.ad .so = B.ad .so ∧
        H2 pw = some (.lst (wl.map V.ref)) ∧ Out B2 (HasI C i 0) y2 pw ∧ wl.length = i ∧ ∀ j, j < i → wl[j]? = some (B2.ad (.wk j))))
    (.mk ⟨none, none, none, B, y, [], rfl, R.same s1, Mg.same s1, rfl, rfl, e1, fun l hl => R.ne_new hl nw, rfl, fun j hj => absurd hj (by omega)⟩)
    (fun i σ H2 _ h => by obtain ⟨_, _, _, _, _, _, _, _, m2, _⟩ := h.out; exact SqL.of (m2.keep _ _ ew ow).1) ?_ ?_⟩
  · intro i x0 σ H2 hi h
    obtain ⟨o3, o4, o5, B2, y2, wl, rfl, R2, m2, lv2, so2, ew2, oo2, wll, wla⟩ := h.out
    obtain ⟨d, hd, ix⟩ := iw.get hi
    rw [List.getElem?_map] at hd
    obtain ⟨l, hl, rfl⟩ := Option.map_eq_some_iff.mp hd
    have hi' := (List.getElem?_eq_some_iff.mp hl).1
    have ix2 := ix.u m2.tk
    have np := nPl_of hl
    walk_at "go"
    refine .mk ⟨l, ix2, fun p3 H3 n3 s3 a3 => ?_⟩
    obtain ⟨ys, e3, i3⟩ := a3
    have ei := Ims.of_ints _ i3
    subst ei
    have R3 := R2.same s3
    have o3' : Out B2 (HasI C i 0) y2 p3 := R2.nout n3
    have ew3 := s3 _ _ ew2
    refine ⟨p3, rfl, ⟨_, SqL.of e3⟩, fun D nD => ?_⟩
    refine loop_list (K := K) (a := p3) (xs := l.names.map V.int) (fun t H4 => Hold (∃ (B4 : Bk) (y4 : Dy) (dl : List Addr), Rep K T.cs C B4 (HasI C i t) y4 ((List.range t).foldl (fun S s => addP C S (.at i s)) (stL C i)) H4 ∧ Mg K B2 (HasI C i 0) y2 H3 B4 (HasI C i t) y4 H4 ∧ B4.lv = B2.lv ∧ B4.ad .so = B2.ad .so ∧ (∀ j, j < i → B4.ad (.wk j) = B2.ad (.wk j)) ∧
        H4 D = some (.lst (dl.map V.ref)) ∧ Out B4 (HasI C i t) y4 D ∧ dl.length = t ∧ ∀ j, j < t → dl[j]? = some (B4.ad (.pl (.at i j)))))
      (.mk ⟨B2, y2, [], R3.same (same_new nD), Mg.same (same_new nD), rfl, rfl, fun _ _ => rfl, upd_same, R3.nout nD, rfl, fun j hj => absurd hj (by omega)⟩)
      (fun t H4 _ h => by obtain ⟨_, _, _, _, m4, _⟩ := h.out; exact SqL.of (m4.keep _ _ e3 o3').1) ?_ ?_
    · intro t yv H5 ht h
      obtain ⟨B4, y4, dl, R5, m5, lv5, so5, wk5, eD, oD, dll, dla⟩ := h.out
      rw [List.getElem?_map] at ht
      obtain ⟨a, ha, rfl⟩ := Option.map_eq_some_iff.mp ht
      have hta := (List.getElem?_eq_some_iff.mp ha).1
      have tg : C.tgt (.at i t) = a.toNat := by
        show (match C.ls[i]? with | some l => lnN l t | none => 0) = _
        rw [hl]
        show (l.names.getD t 0).toNat = _
        rw [List.getD_eq_getElem?_getD, ha]
        rfl
      have tlt := ok1.tgt hl hta
      obtain ⟨a0, a1⟩ := ok1.nm i l a hl (List.mem_of_getElem? ha)
      have hwl : wl[a.toNat]? = some (B4.ad (.wk a.toNat)) := by
        rw [wk5 _ (by omega)]
        exact wla _ (by omega)
      have ew5 := (m5.keep _ _ ew3 (oo2)).1
      walk_at "go"
      refine ⟨_, _, _, _, rfl, rfl, SqL.of ew5, at_of (j := a.toNat) (by omega) (by rw [List.getElem?_map, hwl]; rfl), ?_⟩
      intro x dx nx ndx nex
      have s56 : Same H5 (upd (upd H5 dx (.own x)) x (.ins T.k_Place.C dx [])) := fun b o e => by
        rw [upd_ne (ne_of_none e nx), upd_ne (ne_of_none e ndx)]
        exact e
      have ox5 : Out B4 (HasI C i t) y4 x := R5.nout nx
      have R6 := R5.same s56
      have hwi : a.toNat < i := by omega
      have hwk := R6.wk (i := a.toNat) hwi
      walk_at "go"
      refine .mk ⟨x, dx, B4.ad (.wk a.toNat), _, _, _, _, _, _, _, _, _, _, rfl, rfl, upd_same, fun z => ox5 (.wk a.toNat) hwi z.symm, hwk, fun H7 H8 b7 t7 e7 b8 t8 e8 => ⟨rfl, ?_⟩⟩
      have R7 := R6.out ox5 b7 t7
      have R8 := R7.setHold (i := a.toNat) hwi b8 e8
      have mg58 : Mg K B4 (HasI C i t) y4 H5 B4 (HasI C i t) y4 H8 := ((Mg.same s56).put nx b7 t7).trans (R7.mvw (K := K) (l := .wk a.toNat) hwi b8).mg
      have e78 : H8 x = some (.ins T.k_Place.C dx (pf (.ref (B4.ad (.wk a.toNat))) (.int 0))) := b8 _ _ (fun z => ox5 (.wk a.toNat) hwi z.symm) e7
      have nh : ¬ HasI C i t (.pl (.at i t)) := fun h => by
        rcases h with ⟨h, _⟩ | ⟨_, h⟩ <;> omega
      have hS : (List.range (t + 1)).foldl (fun S s => addP C S (.at i s)) (stL C i) = ((List.range t).foldl (fun S s => addP C S (.at i s)) (stL C i)).setHold a.toNat (((List.range t).foldl (fun S s => addP C S (.at i s)) (stL C i)).hold a.toNat + 1) := by
        rw [List.range_succ, List.foldl_append]
        show addP C _ (.at i t) = _
        unfold addP
        rw [tg]
      have hps : ∀ p, ((List.range t).foldl (fun S s => addP C S (.at i s)) (stL C i)).pos p = 0 := fun p => by
        rw [(fold_flat C i (List.range t) (stL C i)).2.2.2.2.2.2, (stL_flat C i).2.2.2.2.2.2]; rfl
      have R9 := R8.grow (l := .pl (.at i t)) (p := x) (dx := dx) nh (hasI_uses ok1 hi' (by rw [np]; omega) (.inl rfl)) ox5 (by
        show H8 x = some (.ins T.k_Place.C ((B4.set (.pl (.at i t)) x dx).dx (.pl (.at i t))) (pf (.ref ((B4.set (.pl (.at i t)) x dx).ad (.wk (C.tgt (.at i t))))) (.int ((((List.range t).foldl (fun S s => addP C S (.at i s)) (stL C i)).pos (.at i t) : Nat) : Int))))
        rw [hps, tg, ad_set_ne (by intro z; cases z)]
        rw [show (B4.set (.pl (.at i t)) x dx).dx (.pl (.at i t)) = dx from fset_self]
        exact e78) (fun j z => by cases z)
      obtain ⟨eD8, oD8⟩ := mg58.keep _ _ eD oD
      have Dx : D ≠ x := ne_of_none eD nx
      have mg9 : Mg K B4 (HasI C i t) y4 H5 (B4.set (.pl (.at i t)) x dx) (HasI C i (t + 1)) (y4.set (.pl (.at i t)) x) H8 := (mg58.grow (dx := dx) nx nh).cong hasI_next
      have oD9 : Out (B4.set (.pl (.at i t)) x dx) (HasI C i (t + 1)) (y4.set (.pl (.at i t)) x) D := (mg9.keep _ _ eD oD).2
      have b9 : But D H8 (upd H8 D (.lst (dl.map V.ref ++ [.ref x]))) := fun b u hb z => by rw [upd_ne hb]; exact z
      have t9 : TK K H8 (upd H8 D (.lst (dl.map V.ref ++ [.ref x]))) := b9.tk eD8
      refine ⟨_, eD8, by rw [List.length_map]; exact small1000 (by have : l.names.length ≤ 2 := (by cases l <;> simp [Ln.names]); omega), .mk ⟨_, _, dl ++ [x], (by rw [hS]; exact (R9.cong hasI_next).out oD9 b9 t9), (m5.trans mg9).put nD b9 t9, lv5, ?_, fun j hj => ?_, by rw [upd_same, List.map_append]; rfl, oD9, by rw [List.length_append, dll]; rfl, fun j hj => ?_⟩⟩
      · rw [ad_set_ne (by intro z; cases z)]; exact so5
      · rw [ad_set_ne (by intro z; cases z)]; exact wk5 j hj
      · by_cases e : j = t
        · subst e
          rw [ad_set_self, ← dll, List.getElem?_append_right (Nat.le_refl _), Nat.sub_self]
          rfl
        · rw [ad_set_ne (by intro z; cases z; exact e rfl), List.getElem?_append_left (by omega)]
          exact dla j (by omega)
    · intro H10 h
      obtain ⟨B4, y4, dl, R10, m10, lv4, so4, wk4, eD, oD, dll, dla⟩ := h.out
      rw [List.length_map, ← np] at R10 m10 oD dll dla
      have hSl : (List.range (nPl C i)).foldl (fun S s => addP C S (.at i s)) (stL C i) = stL C (i + 1) := (stL_succ C i).symm
      rw [hSl] at R10
      obtain ⟨ew10, ow10⟩ := m10.keep _ _ ew3 oo2
      walk_at "go"
      intro x dx nx ndx nex
      have s11 : Same H10 (upd (upd H10 dx (.own x)) x (.ins T.k_Walk.C dx [])) := fun b o e => by
        rw [upd_ne (ne_of_none e nx), upd_ne (ne_of_none e ndx)]
        exact e
      walk_at "go"
      refine .mk ⟨x, dx, rfl, upd_same, fun m st hdd H12 nm nst nhd q1 q2 q3 b12 t12 e12 am12 as12 ah12 => ⟨rfl, ?_⟩⟩
      have ox : Out B4 (HasI C i (nPl C i)) y4 x := R10.nout nx
      have R12 := (R10.same s11).out ox b12 t12
      have nm0 := s11.free nm
      have ns0 := s11.free nst
      have nh0 := s11.free nhd
      have mx : m ≠ x := fun z => by rw [z, upd_same] at nm; cases nm
      have sx : st ≠ x := fun z => by rw [z, upd_same] at nst; cases nst
      have hx : hdd ≠ x := fun z => by rw [z, upd_same] at nhd; cases nhd
      have Dx : D ≠ x := ne_of_none eD nx
      have eD12 := b12 _ _ Dx (s11 _ _ eD)
      have ew12 := b12 _ _ (ne_of_none ew10 nx) (s11 _ _ ew10)
      obtain ⟨f1, f2, f3, f4, f5, f6, f7⟩ := stL_flat C (i + 1)
      have dle : dl.map V.ref = (List.range (nPl C i)).map fun s => V.ref (B4.ad (.pl (.at i s))) := by
        apply List.ext_getElem?
        intro j
        rw [List.getElem?_map, List.getElem?_map]
        by_cases hj : j < nPl C i
        · rw [dla j hj, List.getElem?_range hj]; rfl
        · rw [List.getElem?_eq_none (by omega), List.getElem?_eq_none (by rw [List.length_range]; omega)]; rfl
      have hlvi : B4.lv i = x0 := by
        rw [lv4, lv2]
        exact hlv i x0 hi
      obtain ⟨B6, y6, R6, lv6, so6, wk6, wki, mg6⟩ := R12.line ok1 hi' (D := D) (m := m) (st := st) (hd := hdd) (x := x) (dx := dx) oD (R10.nout nm0) (R10.nout ns0) (R10.nout nh0) ox
        (ne_of_none eD nm0) (ne_of_none eD ns0) (ne_of_none eD nh0) Dx q1 q2 mx q3 sx hx (by rw [eD12, dle]) (by rw [f1]; exact am12) (by rw [f4]; exact as12) (by rw [f5, f6]; exact ah12)
        (by rw [e12, hlvi, hold_zero ok1 (i + 1) i (by omega) (by omega), f2, f3, so4, so2]; rfl)
        (fun ln hln => by rw [hl] at hln; cases hln; rw [hlvi]; exact ((((ix2.u (same_tk s3)).u m10.tk).u (same_tk s11)).u t12))
      have mgA : Mg K B2 (HasI C i 0) y2 H2 B6 (HasI C (i + 1) 0) y6 H12 := mg6 (((Mg.same s3).trans m10).trans ((Mg.same s11).put nx b12 t12)) (fun b o e hn => by
        have e3' := s3 _ _ e
        have e10 := (m10.keep _ _ e3' hn).1
        exact ⟨ne_of_none e3' nD, ne_of_none e10 nm0, ne_of_none e10 ns0, ne_of_none e10 nh0, ne_of_none e10 nx⟩)
      obtain ⟨ew6, ow6⟩ := mgA.keep _ _ ew2 oo2
      refine ⟨pw, _, _, rfl, rfl, ew6, by rw [List.length_map, wll]; have := ok1.l24; omega, fun H13 b13 t13 e13 => ?_⟩
      refine .mk ⟨_, _, _, B6, y6, wl ++ [x], rfl, R6.out ow6 b13 t13, (m2.trans mgA).put nw b13 t13, by rw [lv6, lv4, lv2], by rw [so6, so4, so2], by rw [e13, List.map_append]; rfl, ow6, by rw [List.length_append, wll]; rfl, fun j hj => ?_⟩
      by_cases e : j = i
      · subst e
        rw [wki, ← wll, List.getElem?_append_right (Nat.le_refl _), Nat.sub_self]
        rfl
      · rw [List.getElem?_append_left (by omega), wk6 j (by omega), wk4 j (by omega)]
        exact wla j (by omega)
  · intro σ H2 h
    obtain ⟨o3, o4, o5, B2, y2, wl, rfl, R2, m2, lv2, so2, ew2, oo2, wll, wla⟩ := h.out
    rw [lx] at R2 m2 oo2 wll wla
    walk_at "go"
    refine q pw B2 y2 H2 nw oo2 ?_ so2 lv2 m2 R2
    rw [ew2]
    congr 2
    apply List.ext_getElem?
    intro j
    rw [List.getElem?_map, List.getElem?_map]
    by_cases hj : j < C.ls.length
    · rw [wla j hj, List.getElem?_range hj]; rfl
    · rw [List.getElem?_eq_none (by omega), List.getElem?_eq_none (by rw [List.length_range]; omega)]; rfl

theorem ok_Sources_leave_unnamed (T : Tx P K w mg) : FnOk P w K mg base CX0 1 T.Sources_leave_unnamed.f T.Sources_leave_unnamed.fd ["self", "by_lines"] (spLeaveUn K T.cs) := by
  refine T.Sources_leave_unnamed.F.ok sc_Sources_leave_unnamed (fun vs H Q E h => ?_) (fun cdv A outer s H vs Q E hr h => ?_)
  · obtain ⟨a, b, rfl, _⟩ := h
    rfl
  obtain ⟨v1, v2, rfl, h⟩ := h
  obtain ⟨C, B, has, y, S, pb, rfl, rfl, cr, R, ab, l1, hll, q⟩ := h.out
  have hso := R.so cr.so
  have hsl := R.sl cr.sl
  refine ⟨_, (pss_cons (ps_setLc (i := 2) (own := [("k", 3)]) (g := gName 3) rfl sc_Sources_leave_unnamed.nd rfl rfl (sw_true rfl rfl rfl (by decide +kernel)) (pi_range1 (by rfl) T.z_range (pa_cons (pe_fld (pv 0) rfl) pa_nil)) (blkOk_by (own := [("k", 3)]) (N := ["self", "by_lines", "unnamed", "k"]) (sc := defScope s_Sources_leave_unnamed) (by decide +kernel)) (fun _ _ _ _ _ => pg_name (i := 3) sc_Sources_leave_unnamed.nd rfl (Or.inl rfl)) (fun _ _ _ _ _ => pts_one (pt_cmpR (show OpR _ _ (rNotInI K) from op_notInI) (pv 3) (pv 1) (by rfl))) (fun _ _ _ _ _ => (pv 3)))
      (pss_one (ps_fld (pv 0) (pe_callB cr_sortedN (by rfl) T.z_sorted (by decide +kernel) (pa_cons (pe_op op_catL (pe_fld (pv 0) rfl) (pv 2)) pa_nil)) rfl))), ?_⟩
  walk_at "go"
  walk_at "f"
  walk_at "go"
  intro L nL
  refine loop_rng (lo := 0) (n := C.lists.length) (fun j H2 => Hold (Same H H2 ∧ Acc K H2 L ((((List.range j).map fun (k : Nat) => (k : Int)).filter fun k => !decide (k ∈ srcs C.ls)).map PyData.int)))
    (.mk ⟨same_new nL, acc_nil upd_same⟩) ?_ ?_
  · intro j H2 hj h
    obtain ⟨s2, a2⟩ := h.out
    walk_at "go"
    refine ⟨_, _, srcs C.ls, rfl, rfl, ab.same s2, ?_⟩
    walk_at "go"
    rw [Int.zero_add]
    have e : ((List.range (j + 1)).map fun (k : Nat) => (k : Int)).filter (fun k => !decide (k ∈ srcs C.ls)) = ((List.range j).map fun (k : Nat) => (k : Int)).filter (fun k => !decide (k ∈ srcs C.ls)) ++ (if (!decide ((j : Int) ∈ srcs C.ls)) = true then [(j : Int)] else []) := by
      rw [List.range_succ, List.map_append, List.filter_append]
      congr 1
      rw [List.map_cons, List.map_nil, List.filter_cons, List.filter_nil]
    by_cases c : (!decide ((j : Int) ∈ srcs C.ls)) = true
    · refine ite_t c ?_
      walk_at "go"
      have hl := List.length_filter_le (fun k => !decide (k ∈ srcs C.ls)) ((List.range j).map fun (k : Nat) => (k : Int))
      rw [List.length_map, List.length_range] at hl
      obtain ⟨acc, ea, hla, b4, t4, a4⟩ := a2.push (.int (j : Int)) (by rw [List.length_map]; omega)
      refine ⟨acc, ea, hla, .mk ⟨same_put s2 nL, ?_⟩⟩
      rw [e, if_pos c, List.map_append]
      exact a4
    · refine ite_f (Bool.eq_false_iff.mpr c) ?_
      refine .mk ⟨s2, ?_⟩
      rw [e, if_neg c, List.append_nil]
      exact a2
  · intro H2 h
    obtain ⟨s2, a2⟩ := h.out
    have R2 := R.same s2
    have hso2 := R2.so cr.so
    have hsf2 := R2.sf cr.sf
    have hl := List.length_filter_le (fun k => !decide (k ∈ srcs C.ls)) ((List.range C.lists.length).map fun (k : Nat) => (k : Int))
    rw [List.length_map, List.length_range] at hl
    walk_at "go"
    walk_at "f"
    walk_at "go"
    refine ⟨_, _, _, _, rfl, rfl, hsf2, a2, by rw [List.length_map, List.length_map]; omega, fun p3 H3 n3 s3 t3 a3 => ?_⟩
    rw [← List.map_append] at a3
    refine ⟨p3, _, rfl, a3, fun p4 H4 n4 s4 t4 a4 => ?_⟩
    have s24 := s3.trans s4
    have hso4 := (R2.same s24).so cr.so
    walk_at "go"
    walk_at "fs"
    refine put (fun H5 b5 e5 => ?_)
    obtain ⟨R5, m5⟩ := R2.newLeft cr.so cr.sf (s3.free n4) s24 a4 b5 e5
    exact q p4 H5 ((Mg.same s2).trans m5) R5

theorem ok_Place_leave (T : Tx P K w mg) {C : Ct} {lg : Nat → Ms → Option Ms} {k : Nat} (hg : FnOk P w K mg base CX0 k T.Walk_let_go.f T.Walk_let_go.fd ["self"] (spMake K T.cs C lg)) : FnOk P w K mg base CX0 (k + 1) T.Place_leave.f T.Place_leave.fd ["self"] (spLeave K T.cs C (leaveW C lg)) := by
  refine T.Place_leave.F.ok sc_Place_leave (fun vs H Q E h => ?_) (fun cdv A outer s H vs Q E hr h => ?_)
  · obtain ⟨a, rfl, _⟩ := h
    rfl
  obtain ⟨v, rfl, h⟩ := h
  obtain ⟨B, has, y, S, p, S', rfl, cr, hh, ht, R, hm, q⟩ := h.out
  have hpl := R.pl hh
  have hw := R.wk (cr.w _ ht).1
  refine ⟨_, (pss_cons (ps_set (i := 1) sc_Place_leave.nd rfl (by first | exact Or.inl rfl | exact Or.inr rfl) (pe_fld (pv 0) rfl))
      (pss_cons (ps_fldaug (pv 1) pe_int in_sub)
      (pss_one (ps_if (pt_cmpR op_eq (pe_fld (pv 1) rfl) pe_int (nomark _)) (pss_one (ps_expr (pe_meth0 (pv 1) T.k_Walk.cl T.Walk_let_go.h hg (hr.mono (by omega)) T.Walk_let_go.b .nil pass0))) pss_nil)))), ?_⟩
  walk_at "go"
  walk_at "f"
  walk_at "go"
  walk_at "f"
  walk_at "go"
  refine ⟨_, _, hw, (by exact (by decide : (9 : Nat) < 1000)), ?_⟩
  refine put (fun H1 b1 e1 => ?_)
  have R1 := R.setHold (z := S.hold (C.tgt p) - 1) (cr.w _ ht).1 b1 e1
  have m1 := R.mvw (K := K) (cr.w _ ht).1 b1
  have hw1 := R1.wk (cr.w _ ht).1
  have hz : (S.setHold (C.tgt p) (S.hold (C.tgt p) - 1)).hold (C.tgt p) = S.hold (C.tgt p) - 1 := fset_self
  unfold leaveW at hm
  dsimp only at hm
  rw [hz] at hm
  rw [hz] at hw1
  walk_at "go"
  walk_at "f"
  walk_at "go"
  by_cases c : S.hold (C.tgt p) - 1 = 0
  · rw [if_pos c] at hm
    refine ite_t (dv_t c) ?_
    walk_at "go"
    refine ⟨_, _, _, rfl, hw1, rfl, ?_⟩
    walk_at "go"
    exact .mk ⟨B, has, y, _, _, S', rfl, cr, ht, R1, hm, fun y2 H2 m2 R2 => q y2 H2 (m1.trans m2) R2⟩
  · rw [if_neg c] at hm
    cases hm
    refine ite_f (dv_f c) ?_
    walk_at "go"
    exact q _ _ m1 R1

theorem ok_Sources_leave (T : Tx P K w mg) (C : Ct) : FnOk P w K mg base CX0 1 T.Sources_leave.f T.Sources_leave.fd ["self", "k"] (spLeaveS K T.cs C) := by
  refine T.Sources_leave.F.ok sc_Sources_leave (fun vs H Q E h => ?_) (fun cdv A outer s H vs Q E hr h => ?_)
  · obtain ⟨a, b, rfl, _⟩ := h
    rfl
  obtain ⟨v1, v2, rfl, h⟩ := h
  obtain ⟨B, has, y, S, k, rfl, rfl, cr, R, hl, q⟩ := h.out
  have hso := R.so cr.so
  have asf := R.sf cr.sf
  refine ⟨_, (pss_one (ps_expr (pe_bm PySem.F.plainAttrs_list PySem.F.slot_list_append PySem.F.type_list_append mt_appA (pe_fld (pv 0) rfl) (pa_cons (pv 1) pa_nil)))), ?_⟩
  walk_at "go"
  walk_at "f"
  walk_at "go"
  refine ⟨_, _, _, _, rfl, rfl, asf, .int k, by rw [List.length_map]; omega, fun H1 b1 t1 a1 => ?_⟩
  exact q _ _ (R.mvw (K := K) cr.sf b1) (R.leaveS (k := k) cr.sf b1 a1)

theorem let_go_of (T : Tx P K w mg) {C : Ct} {lv : Pl → Ms → Option Ms} {k : Nat} (ok : CtOk C) (hk : 5 ≤ k) (hl : FnOk P w K mg base CX0 k T.Place_leave.f T.Place_leave.fd ["self"] (spLeave K T.cs C lv)) : FnOk P w K mg base CX0 (k + 1) T.Walk_let_go.f T.Walk_let_go.fd ["self"] (spMake K T.cs C (letGoW C lv)) := by
  refine T.Walk_let_go.F.ok sc_Walk_let_go (fun vs H Q E h => ?_) (fun cdv A outer s H vs Q E hr h => ?_)
  · obtain ⟨a, rfl, _⟩ := h
    rfl
  obtain ⟨v, rfl, h⟩ := h
  obtain ⟨B, has, y, S, i, S', rfl, cr, hi, R, hm, q⟩ := h.out
  have hw := R.wk (cr.w i hi).1
  refine ⟨_, (pss_cons (ps_if (pt_val (pe_fld (pv 0) rfl)) (pss_one ps_retN) pss_nil)
      (pss_cons (ps_fld (pv 0) pe_bl rfl)
      (pss_cons (ps_for PassesOwn.never rfl (pi_list (pe_fld (pv 0) rfl)) (pg_name (i := 1) sc_Walk_let_go.nd rfl (by first | exact Or.inl rfl | exact Or.inr rfl)) (pss_one (ps_expr (pe_meth0 (pv 1) T.k_Place.cl T.Place_leave.h hl (hr.mono (by omega)) T.Place_leave.b .nil pass0))))
      (pss_one (ps_if (pt_cmpR op_eq (pe_ix ix_tupD (pe_fld (pv 0) rfl) pe_int (fun _ _ => rfl)) pe_str (nomark _)) (pss_one (ps_expr (pe_meth (pe_fld (pv 0) rfl) T.k_ListedSources.cl T.Sources_leave.h (ok_Sources_leave T C) (hr.mono (by omega)) T.Sources_leave.b .nil pass0 (pa_cons (pe_ix ix_tupD (pe_fld (pv 0) rfl) pe_int (fun _ _ => rfl)) pa_nil)))) pss_nil))))), ?_⟩
  unfold letGoW at hm
  walk_at "go"
  walk_at "f"
  walk_at "go"
  cases c : S.loose i with
  | true =>
    rw [c, if_pos rfl] at hm
    cases hm
    refine ite_t rfl ?_
    walk_at "go"
    exact q _ _ Mv.refl R
  | false =>
    rw [c, if_neg (by decide)] at hm
    have hls : C.ls[i]? = some C.ls[i] := List.getElem?_eq_getElem hi
    generalize C.ls[i] = l at hls
    rw [hls] at hm
    dsimp only at hm
    cases e : foldP (fun s => lv (.at i s)) (List.range l.names.length) (S.setLoose i) with
    | none => rw [e] at hm; cases hm
    | some S9 =>
      rw [e] at hm
      dsimp only at hm
      refine ite_f rfl ?_
      walk_at "go"
      walk_at "fs"
      refine put (fun H1 b1 e1 => ?_)
      have R1 := R.setLoose (cr.w i hi).1 b1 e1
      have m1 := R.mvw (K := K) (cr.w i hi).1 b1
      have hw1 := R1.wk (cr.w i hi).1
      have np := nPl_of hls
      have hwp1 := R1.wp (cr.w i hi).2.1
      rw [np] at hwp1
      walk_at "go"
      walk_at "f"
      walk_at "go"
      refine ⟨⟨_, SqL.of hwp1⟩, for_list (K := K) (a := B.ad (.wp i)) (xs := (List.range l.names.length).map fun s => .ref (B.ad (.pl (.at i s)))) (fun j σ H2 => Hold (∃ (o : Option V) (S2 : Ms) (y2 : Dy), σ = [some (.ref (B.ad (.wk i))), o] ∧ Mv K B has y H y2 H2 ∧ Rep K T.cs C B has y2 S2 H2 ∧ foldP (fun s => lv (.at i s)) ((List.range l.names.length).drop j) S2 = some S9))
        (.mk ⟨none, _, y, rfl, m1, R1, e⟩) (fun j σ H2 _ h => by obtain ⟨_, _, _, _, _, R2, _⟩ := h.out; have := R2.wp (cr.w i hi).2.1; rw [np] at this; exact SqL.of this) ?_ ?_⟩
      · intro j x σ H2 hj h
        obtain ⟨o, S2, y2, rfl, m2, R2, e2⟩ := h.out
        rw [List.getElem?_map] at hj
        obtain ⟨s1, hs1, rfl⟩ := Option.map_eq_some_iff.mp hj
        have hjl := (List.getElem?_eq_some_iff.mp hs1).1
        rw [List.length_range] at hjl
        rw [List.getElem?_range hjl] at hs1
        obtain rfl := Option.some.inj hs1
        have hd : (List.range l.names.length).drop j = j :: (List.range l.names.length).drop (j + 1) := drop_at (List.getElem?_range hjl)
        rw [hd] at e2
        unfold foldP at e2
        cases e3 : lv (.at i j) S2 with
        | none => rw [e3] at e2; cases e2
        | some S3 =>
          rw [e3] at e2
          dsimp only at e2
          have hjp : j < nPl C i := by rw [np]; exact hjl
          have hpl2 := R2.pl (cr.p i j hi hjp)
          have ht := ok.tgt hls hjl
          walk_at "go"
          refine ⟨_, _, _, rfl, hpl2, rfl, ?_⟩
          walk_at "go"
          exact .mk ⟨B, has, y2, S2, .at i j, S3, rfl, cr, cr.p i j hi hjp, by omega, R2, e3, fun y4 H4 m4 R4 => .mk ⟨_, S3, y4, rfl, m2.trans m4, R4, e2⟩⟩
      · intro σ H2 h
        obtain ⟨o, S2, y2, rfl, m2, R2, e2⟩ := h.out
        rw [List.length_map, List.drop_length] at e2
        cases e2
        have hw2 := R2.wk (cr.w i hi).1
        have hso2 := R2.so cr.so
        have iv2 := R2.ln i _ hls (cr.w i hi).1
        walk_at "go"
        walk_at "f"
        walk_at "go"
        by_cases hs : ∃ k0, l = .source k0
        · obtain ⟨k0, rfl⟩ := hs
          refine ⟨_, 0, 0, _, iv2, rfl, rfl, rfl, fun v iv => ?_⟩
          obtain rfl := iv.s
          obtain ⟨hlen, hm⟩ := gd_some (show gd (S9.left.length < 900000) (some (S9.leaveS k0)) = some S' from hm)
          cases hm
          walk_at "go"
          walk_at "f"
          walk_at "go"
          refine ⟨_, _, _, rfl, hso2, rfl, ?_⟩
          walk_at "go"
          walk_at "f"
          walk_at "go"
          refine ⟨_, 1, 1, _, iv2, rfl, rfl, rfl, fun v iv => ?_⟩
          obtain rfl := iv.i
          walk_at "go"
          exact .mk ⟨B, has, y2, S9, k0, rfl, rfl, cr, R2, hlen, fun y4 H4 m4 R4 => q _ _ (m2.trans m4) R4⟩
        · have w : ∃ (x : Str) (ds : List PyData), l.d = .tuple (.str x :: ds) ∧ decide (V.str x = V.str "source") = false ∧ l.src = none := by
            cases l with
            | source k => exact absurd ⟨k, rfl⟩ hs
            | _ => exact ⟨_, _, rfl, by decide +kernel, rfl⟩
          obtain ⟨x, ds, ed, ex, es⟩ := w
          rw [es] at hm
          cases hm
          have iw := iv2
          rw [ed] at iw
          refine ⟨_, 0, 0, _, iw, rfl, rfl, rfl, fun v iv => ?_⟩
          obtain rfl := iv.s
          refine ⟨rfl, _, rfl, ?_⟩
          refine ite_f ex ?_
          walk_at "go"
          exact q _ _ m2 R2
theorem ok_let_go (T : Tx P K w mg) {C : Ct} (ok : CtOk C) : ∀ f : Nat, FnOk P w K mg base CX0 (2 * f + 5) T.Walk_let_go.f T.Walk_let_go.fd ["self"] (spMake K T.cs C (letGo C f))
  | 0 => ⟨fun vs H Q E h => by obtain ⟨v, rfl, _⟩ := h; rfl, fun A outer s H args us vs Q E _ _ _ _ h => by
      obtain ⟨v, rfl, h⟩ := h
      obtain ⟨B, has, y, S, i, S', _, _, _, _, hm, _⟩ := h.out
      cases hm⟩
  | f + 1 => (let_go_of T ok (by omega) (ok_Place_leave T (ok_let_go T ok f))).mono (by omega)
theorem ok_leave (T : Tx P K w mg) {C : Ct} (ok : CtOk C) (f : Nat) : FnOk P w K mg base CX0 (2 * f + 6) T.Place_leave.f T.Place_leave.fd ["self"] (spLeave K T.cs C (leaveM C f)) := ok_Place_leave T (ok_let_go T ok f)

theorem hasO_next {C : Ct} {s : Nat} : ∀ m, HasO C (s + 1) m → HasO C s m ∨ m = .pl (.out s) := by
  intro m hm
  cases m with
  | pl q =>
    cases q with
    | out j =>
      have hm : j < s + 1 := hm
      by_cases e : j = s
      · subst e; exact .inr rfl
      · exact .inl (show j < s by omega)
    | «at» j t => exact .inl hm
  | _ => exact .inl hm
theorem hasO_zero {C : Ct} : ∀ m, HasO C 0 m → HasI C C.ls.length 0 m := by
  intro m hm
  cases m with
  | pl q =>
    cases q with
    | out j => exact absurd hm (Nat.not_lt_zero j)
    | «at» j t => exact hm
  | _ => exact hm
theorem hasR_of {C : Ct} : ∀ m, HasR C m → (HasO C C.outs.length m ∨ m = .ol) ∨ m = .oo := by
  intro m hm
  cases m with
  | pl q =>
    cases q with
    | out j => exact .inl (.inl hm)
    | «at» j t => exact .inl (.inl (.inl hm))
  | oo => exact .inr rfl
  | ol => exact .inl (.inr rfl)
  | ru => exact hm.elim
  | _ => exact .inl (.inl hm)
theorem core_R (C : Ct) : Core C (HasR C) := ⟨fun i h => ⟨h, h, h, h, h⟩, fun i s h1 h2 => ⟨h1, h2⟩, trivial, trivial, fun k h => h, trivial, trivial, trivial⟩
theorem stO_flat (C : Ct) (j : Nat) : (stO C j).made = (S0 C).made ∧ (stO C j).pos = (S0 C).pos ∧ (stO C j).gone = (S0 C).gone := by
  have hg : ∀ i, (stL C i).gone = (S0 C).gone := fun i => by
    have al : ∀ (j : Nat) (xs : List Nat) (S : Ms), (xs.foldl (fun S s => addP C S (.at j s)) S).gone = S.gone := by
      intro j xs
      induction xs with
      | nil => intro S; rfl
      | cons x xs ih => intro S; exact ih _
    induction i with
    | zero => rfl
    | succ i ih => rw [stL_succ]; exact (al i _ _).trans ih
  induction j with
  | zero => exact ⟨(stL_flat C _).1, (stL_flat C _).2.2.2.2.2.2, hg _⟩
  | succ j ih => rw [stO_succ]; exact ih
theorem ok_Outlets___init__ (T : Tx P K w mg) : FnOk P w K mg base CX0 100 T.Outlets___init__.f T.Outlets___init__.fd ["self", "weave", "outs", "sources"] (spOutInit K T.cs) := by
  refine T.Outlets___init__.F.ok sc_Outlets___init__ (fun vs H Q E h => ?_) (fun cdv A outer s H vs Q E hr h => ?_)
  · obtain ⟨a, b, c, d, rfl, _⟩ := h
    rfl
  obtain ⟨v, v2, v3, v4, rfl, h⟩ := h
  obtain ⟨x, dx, lw, po, xs, C, B, y, S9, rfl, rfl, rfl, rfl, ok, ex, ew, iw, hlv, R, ow, ox, eo, oo, hst, q⟩ := h.out
  have ok1 := ok.ct
  have lx := iw.len
  rw [List.length_map] at lx
  have aw : Acc K H lw (C.ls.map Ln.d) := ⟨xs, ew, iw⟩
  refine ⟨_, (pss_cons (ps_expr (pe_call (ok_outs_looked T) (hr.mono (by decide)) (by rfl) T.outs_looked.g T.outs_looked.F.kp T.outs_looked.b .nil pass0 (pa_cons (pv 1) (pa_cons (pv 2) pa_nil))))
      (pss_cons (ps_set (i := 4) sc_Outlets___init__.nd rfl (by first | exact Or.inl rfl | exact Or.inr rfl) (pe_call (ok_walks_of T) (hr.mono (by decide)) (by rfl) T.walks_of.g T.walks_of.F.kp T.walks_of.b .nil pass0 (pa_cons (pv 1) (pa_cons (pv 3) pa_nil))))
      (pss_cons (ps_fld (pv 0) (pe_lc (own := [("out", 6)]) (g := gName 6) (tt := tYes) rfl sc_Outlets___init__.nd (pi_list (pv 2)) (blkOk_by (own := [("out", 6)]) (N := ["self", "weave", "outs", "sources", "walks", "walk", "out", "line"]) (sc := defScope s_Outlets___init__) (by decide +kernel)) (fun _ _ _ _ _ => pg_name (i := 6) sc_Outlets___init__.nd rfl (Or.inl rfl)) (fun _ _ _ _ _ => pts_nil) (fun _ _ _ _ _ => (pe_make T.Place___init__.mk' (ok_Place___init__ T) (hr.mono (by decide)) (by rfl) T.k_Place.g T.Place___init__.b .nil pass0 (pa_cons (pe_ix (show IxR _ (rIxL K) from ix_list) (pv 4) (pv 6) (fun _ _ => rfl)) pa_nil)))) rfl)
      (pss_cons (ps_for PassesOwn.never rfl (pi_list (pv 4)) (pg_name (i := 5) sc_Outlets___init__.nd rfl (by first | exact Or.inl rfl | exact Or.inr rfl)) (pss_one (ps_if (pt_cmpR op_eq (pe_fld (pv 5) rfl) pe_int (nomark _)) (pss_one (ps_expr (pe_meth0 (pv 5) T.k_Walk.cl T.Walk_let_go.h (ok_let_go T ok1 25) (hr.mono (by decide)) T.Walk_let_go.b .nil pass0))) pss_nil)))
      (pss_one (ps_expr (pe_meth (pv 3) T.k_ListedSources.cl T.Sources_leave_unnamed.h (ok_Sources_leave_unnamed T) (hr.mono (by decide)) T.Sources_leave_unnamed.b .nil pass0 (pa_cons (pe_lc (own := [("line", 7)]) (g := gName 7) rfl sc_Outlets___init__.nd (pi_list (pv 1)) (blkOk_by (own := [("line", 7)]) (N := ["self", "weave", "outs", "sources", "walks", "walk", "out", "line"]) (sc := defScope s_Outlets___init__) (by decide +kernel)) (fun _ _ _ _ _ => pg_name (i := 7) sc_Outlets___init__.nd rfl (Or.inl rfl)) (fun _ _ _ _ _ => pts_one (pt_cmpR op_eq (pe_ix (show IxR _ (rIxD K) from ix_tupD) (pv 7) pe_int (fun _ _ => rfl)) pe_str (nomark _))) (fun _ _ _ _ _ => (pe_ix (show IxR _ (rIxD K) from ix_tupD) (pv 7) pe_int (fun _ _ => rfl)))) pa_nil)))))))), ?_⟩
  walk_at "go"
  refine .mk ⟨lw, po, C.ls.map Ln.d, C.outs, rfl, rfl, aw, eo, fun i n hn => ?_, by rw [List.length_map]; exact ok1.l24, ?_⟩
  · have hlt := ok.out i (List.getElem?_eq_some_iff.mp hn).1
    rw [List.getD_eq_getElem?_getD, hn] at hlt
    rw [List.length_map]
    exact hlt
  walk_at "go"
  refine .mk ⟨lw, xs, C, B, y, rfl, rfl, ok, ew, iw, hlv, R, ow, fun pw B1 y1 H1 nw opw epw so1 lv1 mg1 R1 => ?_⟩
  obtain ⟨ex1, ox1⟩ := mg1.keep _ _ ex ox
  obtain ⟨eo1, oo1⟩ := mg1.keep _ _ eo oo
  obtain ⟨ew1, ow1⟩ := mg1.keep _ _ ew ow
  have pwx : pw ≠ x := (ne_of_none ex nw).symm
  walk_at "go"
  refine ⟨⟨_, SqL.of eo1⟩, fun D nD => ?_⟩
  refine loop_list (K := K) (a := po) (xs := C.outs.map fun (n : Nat) => V.int (n : Int)) (fun t H4 => Hold (∃ (B4 : Bk) (y4 : Dy) (dl : List Addr), Rep K T.cs C B4 (HasO C t) y4 (stO C t) H4 ∧ Mg K B1 (HasI C C.ls.length 0) y1 H1 B4 (HasO C t) y4 H4 ∧ B4.lv = B1.lv ∧ B4.ad .so = B1.ad .so ∧ (∀ j, j < C.ls.length → B4.ad (.wk j) = B1.ad (.wk j)) ∧
        H4 D = some (.lst (dl.map V.ref)) ∧ Out B4 (HasO C t) y4 D ∧ dl.length = t ∧ ∀ j, j < t → dl[j]? = some (B4.ad (.pl (.out j)))))
      (.mk ⟨B1, y1, [], ((R1.same (same_new nD)).cong hasO_zero), (Mg.same (same_new nD)).cong hasO_zero, rfl, rfl, fun _ _ => rfl, upd_same, fun l hl => R1.nout nD l (hasO_zero l hl), rfl, fun j hj => absurd hj (by omega)⟩)
      (fun t H4 _ h => by obtain ⟨_, _, _, _, m4, _⟩ := h.out; exact SqL.of (m4.keep _ _ eo1 oo1).1) ?_ ?_
  · intro t yv H5 ht h
    obtain ⟨B4, y4, dl, R5, m5, lv5, so5, wk5, eD, oD, dll, dla⟩ := h.out
    rw [List.getElem?_map] at ht
    obtain ⟨n, hn, rfl⟩ := Option.map_eq_some_iff.mp ht
    have ht' := (List.getElem?_eq_some_iff.mp hn).1
    have tg : C.tgt (.out t) = n := by
      show C.outs.getD t 0 = n
      rw [List.getD_eq_getElem?_getD, hn]; rfl
    have hlt := ok.out t ht'
    rw [List.getD_eq_getElem?_getD, hn] at hlt
    have hlt : n < C.ls.length := hlt
    have ew5 := (m5.keep _ _ epw opw).1
    walk_at "go"
    refine ⟨_, _, _, .ref (B4.ad (.wk n)), rfl, rfl, SqL.of ew5, atI_nat (j := n) (by rw [List.getElem?_map, List.getElem?_range hlt, wk5 n hlt]; rfl), ?_⟩
    intro x2 dx2 nx ndx nex
    have s56 : Same H5 (upd (upd H5 dx2 (.own x2)) x2 (.ins T.k_Place.C dx2 [])) := fun b o e => by
      rw [upd_ne (ne_of_none e nx), upd_ne (ne_of_none e ndx)]
      exact e
    have ox5 : Out B4 (HasO C t) y4 x2 := R5.nout nx
    have R6 := R5.same s56
    have hwi : HasO C t (.wk n) := hlt
    have hwk := R6.wk (i := n) hwi
    walk_at "go"
    refine .mk ⟨x2, dx2, B4.ad (.wk n), _, _, _, _, _, _, _, _, _, _, rfl, rfl, upd_same, fun z => ox5 (.wk n) hwi z.symm, hwk, fun H7 H8 b7 t7 e7 b8 t8 e8 => ⟨rfl, ?_⟩⟩
    have R7 := R6.out ox5 b7 t7
    have R8 := R7.setHold (i := n) hwi b8 e8
    have mg58 : Mg K B4 (HasO C t) y4 H5 B4 (HasO C t) y4 H8 := ((Mg.same s56).put nx b7 t7).trans (R7.mvw (K := K) (l := .wk n) hwi b8).mg
    have e78 : H8 x2 = some (.ins T.k_Place.C dx2 (pf (.ref (B4.ad (.wk n))) (.int 0))) := b8 _ _ (fun z => ox5 (.wk n) hwi z.symm) e7
    have nh : ¬ HasO C t (.pl (.out t)) := fun h => Nat.lt_irrefl t h
    have hS : stO C (t + 1) = (stO C t).setHold n ((stO C t).hold n + 1) := by
      rw [stO_succ]
      unfold addP
      rw [tg]
    have R9 := R8.grow (l := .pl (.out t)) (p := x2) (dx := dx2) nh (hasO_uses (.inl rfl)) ox5 (by
      show H8 x2 = some (.ins T.k_Place.C ((B4.set (.pl (.out t)) x2 dx2).dx (.pl (.out t))) (pf (.ref ((B4.set (.pl (.out t)) x2 dx2).ad (.wk (C.tgt (.out t))))) (.int (((stO C t).pos (.out t) : Nat) : Int))))
      rw [(stO_flat C t).2.1, tg, ad_set_ne (by intro z; cases z)]
      rw [show (B4.set (.pl (.out t)) x2 dx2).dx (.pl (.out t)) = dx2 from fset_self]
      exact e78) (fun j z => by cases z)
    obtain ⟨eD8, oD8⟩ := mg58.keep _ _ eD oD
    have mg9 : Mg K B4 (HasO C t) y4 H5 (B4.set (.pl (.out t)) x2 dx2) (HasO C (t + 1)) (y4.set (.pl (.out t)) x2) H8 := (mg58.grow (dx := dx2) nx nh).cong hasO_next
    have oD9 : Out (B4.set (.pl (.out t)) x2 dx2) (HasO C (t + 1)) (y4.set (.pl (.out t)) x2) D := (mg9.keep _ _ eD oD).2
    have b9 : But D H8 (upd H8 D (.lst (dl.map V.ref ++ [.ref x2]))) := fun b u hb z => by rw [upd_ne hb]; exact z
    have t9 : TK K H8 (upd H8 D (.lst (dl.map V.ref ++ [.ref x2]))) := b9.tk eD8
    have o5 := ok.o5
    refine ⟨_, eD8, by rw [List.length_map]; exact small1000 (by omega), .mk ⟨_, _, dl ++ [x2], (by rw [hS]; exact (R9.cong hasO_next).out oD9 b9 t9), (m5.trans mg9).put nD b9 t9, lv5, ?_, fun j hj => ?_, by rw [upd_same, List.map_append]; rfl, oD9, by rw [List.length_append, dll]; rfl, fun j hj => ?_⟩⟩
    · rw [ad_set_ne (by intro z; cases z)]; exact so5
    · rw [ad_set_ne (by intro z; cases z)]; exact wk5 j hj
    · by_cases e : j = t
      · subst e
        rw [ad_set_self, ← dll, List.getElem?_append_right (Nat.le_refl _), Nat.sub_self]
        rfl
      · rw [ad_set_ne (by intro z; cases z; exact e rfl), List.getElem?_append_left (by omega)]
        exact dla j (by omega)
  intro H10 h
  obtain ⟨B4, y4, dl, R10, m10, lv4, so4, wk4, eD, oD, dll, dla⟩ := h.out
  rw [List.length_map] at R10 m10 oD dll dla
  obtain ⟨ex10, ox10⟩ := m10.keep _ _ ex1 ox1
  obtain ⟨epw10, opw10⟩ := m10.keep _ _ epw opw
  walk_at "go"
  refine ⟨_, _, _, _, rfl, ex10, T.k_Outlets.cl, T.n_Outlets_outs, (by exact (by decide : (0 : Nat) < 1000)), ?_⟩
  refine put (fun H11 b11 e11 => ?_)
  have t11 : TK K H10 H11 := b11.tkW ex10 rfl
  have R11 := R10.out ox10 b11 t11
  have Dx : D ≠ x := fun z => by
    rw [z] at nD
    rw [ex1] at nD
    cases nD
  have eD11 := b11 _ _ Dx eD
  have dle : dl.map V.ref = (List.range C.outs.length).map fun j => if (stO C C.outs.length).gone j = true then V.non else V.ref (B4.ad (.pl (.out j))) := by
    apply List.ext_getElem?
    intro j
    rw [List.getElem?_map, List.getElem?_map]
    by_cases hj : j < C.outs.length
    · rw [dla j hj, List.getElem?_range hj, Option.map_some, Option.map_some, (stO_flat C _).2.2]; rfl
    · rw [List.getElem?_eq_none (by omega), List.getElem?_eq_none (by rw [List.length_range]; omega)]; rfl
  have nol : ¬ HasO C C.outs.length .ol := fun h => h
  have R12 := R11.grow (l := .ol) (p := D) (dx := 0) nol (hasO_uses (.inr (.inr rfl))) oD (by
    show H11 D = some (.lst ((List.range C.outs.length).map fun j => if (stO C C.outs.length).gone j = true then V.non else .ref ((B4.set .ol D 0).ad (.pl (.out j)))))
    rw [eD11, dle]
    rfl) (fun j z => by cases z)
  have noo : ¬ (HasO C C.outs.length .oo ∨ Lab.oo = .ol) := fun h => by rcases h with h | h; exact h; cases h
  have R13 := R12.grow (l := .oo) (p := x) (dx := dx) noo (fun m hm => by
    rcases hm with hm | rfl
    · exact hasO_uses (.inr (.inl rfl)) m hm
    · rintro ⟨_, z⟩; cases z) (fun m hm => by
    rcases hm with hm | rfl
    · rw [adr_set_ne fun (z : m = .ol) => nol (z ▸ hm)]; exact ox10 m hm
    · rw [adr_set_self]; exact Dx) (by
    show H11 x = some (.ins T.k_Outlets.C (((B4.set .ol D 0).set .oo x dx).dx .oo) (of (.ref (((B4.set .ol D 0).set .oo x dx).ad .ol))))
    rw [ad_set_ne (by intro z; cases z), ad_set_self]
    rw [show ((B4.set .ol D 0).set .oo x dx).dx .oo = dx from rfl]
    exact e11) (fun j z => by cases z)
  have R14 := R13.cong hasR_of
  have mgX : ∀ b o, H b = some o → b ≠ x → Out B (HasI C 0 0) y b → H11 b = some o ∧ Out ((B4.set .ol D 0).set .oo x dx) (HasR C) ((y4.set .ol D).set .oo x) b := fun b o e bx hn => by
    obtain ⟨e1, n1⟩ := mg1.keep b o e hn
    obtain ⟨e10, n10⟩ := m10.keep b o e1 n1
    refine ⟨b11 b o bx e10, fun m hm => ?_⟩
    rcases hasR_of m hm with (hm | rfl) | rfl
    · rw [adr_set_ne fun (z : m = .oo) => by subst z; exact hm, adr_set_ne fun (z : m = .ol) => nol (z ▸ hm)]
      exact n10 m hm
    · rw [adr_set_ne (by intro z; cases z), adr_set_self]
      exact (ne_of_none e1 nD).symm
    · rw [adr_set_self]
      exact bx.symm
  have tkX : TK K H H11 := (mg1.tk.trans m10.tk).trans t11
  generalize hB : ((B4.set .ol D 0).set .oo x dx) = B5 at R14 mgX
  generalize hy : ((y4.set .ol D).set .oo x) = y5 at R14 mgX
  have so5 : B5.ad .so = B.ad .so := by
    rw [← hB, ad_set_ne (by intro z; cases z), ad_set_ne (by intro z; cases z), so4, so1]
  have oo5 : B5.ad .oo = x := by rw [← hB, ad_set_self]
  have wk5 : ∀ j, j < C.ls.length → B5.ad (.wk j) = B1.ad (.wk j) := fun j hj => by
    rw [← hB, ad_set_ne (by intro z; cases z), ad_set_ne (by intro z; cases z), wk4 j hj]
  have lv5 : B5.lv = B.lv := by
    rw [← hB]
    exact lv4.trans lv1
  have opw11 : Out B5 (HasR C) y5 pw := fun m hm => by
    rw [← hB, ← hy]
    rcases hasR_of m hm with (hm | rfl) | rfl
    · rw [adr_set_ne fun (z : m = .oo) => by subst z; exact hm, adr_set_ne fun (z : m = .ol) => nol (z ▸ hm)]
      exact opw10 m hm
    · rw [adr_set_ne (by intro z; cases z), adr_set_self]
      exact (ne_of_none epw nD).symm
    · rw [adr_set_self]
      exact pwx.symm
  have epw11 : H11 pw = some (.lst ((List.range C.ls.length).map fun i => V.ref (B5.ad (.wk i)))) := by
    rw [b11 _ _ pwx epw10]
    congr 2
    apply List.map_congr_left
    intro i hi
    rw [wk5 i (List.mem_range.mp hi)]
  unfold startM at hst
  cases hlo : looseL C (List.range C.ls.length) (stO C C.outs.length) with
  | none => rw [hlo] at hst; cases hst
  | some S8 =>
    rw [hlo] at hst
    obtain ⟨hll, hst⟩ := gd_some (show gd (S8.left.length < 900000) (some { S8 with left := sortI (S8.left ++ unnamed C) }) = some S9 from hst)
    cases hst
    walk_at "go"
    refine ⟨⟨_, SqL.of epw11⟩, for_list (K := K) (a := pw) (xs := (List.range C.ls.length).map fun i => .ref (B5.ad (.wk i))) (fun i σ H3 => Hold (∃ (o6 : Option V) (y6 : Dy) (S6 : Ms), σ = [some (.ref x), some (.ref lw), some (.ref po), some (.ref (B.ad .so)), some (.ref pw), o6, none, none] ∧ Rep K T.cs C B5 (HasR C) y6 S6 H3 ∧ Mv K B5 (HasR C) y5 H11 y6 H3 ∧ looseL C ((List.range C.ls.length).drop i) S6 = some S8))
      (.mk ⟨none, y5, _, rfl, R14, Mv.refl, hlo⟩) (fun i σ H3 _ h => by obtain ⟨_, _, _, _, _, m3, _⟩ := h.out; exact SqL.of (m3.keep _ _ epw11 opw11).1) ?_ ?_⟩
    · intro i yv σ H3 hi h
      obtain ⟨o6, y6, S6, rfl, R3, m3, e3⟩ := h.out
      rw [List.getElem?_map] at hi
      obtain ⟨n, hn, rfl⟩ := Option.map_eq_some_iff.mp hi
      have hil := (List.getElem?_eq_some_iff.mp hn).1
      rw [List.length_range] at hil
      rw [List.getElem?_range hil] at hn
      obtain rfl := Option.some.inj hn
      have hd : (List.range C.ls.length).drop i = i :: (List.range C.ls.length).drop (i + 1) := drop_at (List.getElem?_range hil)
      rw [hd] at e3
      unfold looseL foldP at e3
      have hw3 := R3.wk (i := i) hil
      walk_at "go"
      walk_at "f"
      walk_at "go"
      by_cases c : S6.hold i = 0
      · rw [if_pos c] at e3
        cases e4 : letGo C 25 i S6 with
        | none => rw [e4] at e3; cases e3
        | some S7 =>
          rw [e4] at e3
          refine ite_t (dv_t c) ?_
          walk_at "go"
          refine ⟨_, _, _, rfl, hw3, rfl, ?_⟩
          walk_at "go"
          exact .mk ⟨B5, HasR C, y6, S6, i, S7, rfl, core_R C, hil, R3, e4, fun y7 H7 m7 R7 => .mk ⟨_, y7, S7, rfl, R7, m3.trans m7, e3⟩⟩
      · rw [if_neg c] at e3
        refine ite_f (dv_f c) ?_
        walk_at "go"
        exact .mk ⟨_, y6, S6, rfl, R3, m3, e3⟩
    · intro σ H3 h
      obtain ⟨o6, y6, S6, rfl, R3, m3, e3⟩ := h.out
      rw [List.length_map, List.drop_length] at e3
      cases e3
      have ew11 := mgX lw _ ew (fun z => by rw [z, ex] at ew; cases ew) ow
      obtain ⟨ew3, ow3⟩ := m3.keep _ _ ew11.1 ew11.2
      have iw3 := (iw.u tkX).u m3.tk
      have hso3 := R3.so (has := HasR C) trivial
      rw [so5] at hso3
      walk_at "go"
      refine ⟨_, _, _, rfl, hso3, rfl, ?_⟩
      walk_at "go"
      refine ⟨⟨_, SqL.of ew3⟩, fun L nL => ?_⟩
      refine loop_list (K := K) (a := lw) (xs := xs) (fun j H4 => Hold (Same H3 H4 ∧ Acc K H4 L ((srcs (C.ls.take j)).map PyData.int)))
        (.mk ⟨same_new nL, acc_nil upd_same⟩) (fun j H4 _ h => SqL.of (h.out.1 _ _ ew3)) ?_ ?_
      · intro j yv H4 hj h
        obtain ⟨s4, a4⟩ := h.out
        obtain ⟨d, hd, ix⟩ := iw3.get hj
        rw [List.getElem?_map] at hd
        obtain ⟨l, hl, rfl⟩ := Option.map_eq_some_iff.mp hd
        have hjl := (List.getElem?_eq_some_iff.mp hl).1
        have ix4 := ix.u (same_tk s4)
        have l24 := ok1.l24
        have hsl : (srcs (C.ls.take j)).length ≤ 1000 := by
          have h1 := List.length_filterMap_le Ln.src (C.ls.take j)
          rw [List.length_take] at h1
          show (List.filterMap Ln.src (C.ls.take j)).length ≤ 1000
          omega
        walk_at "go"
        by_cases hs : ∃ k0, l = .source k0
        · obtain ⟨k0, rfl⟩ := hs
          refine ⟨_, 0, 0, _, ix4, rfl, rfl, rfl, fun v iv => ?_⟩
          obtain rfl := iv.s
          walk_at "go"
          refine ⟨_, 1, 1, _, ix4, rfl, rfl, rfl, fun v iv => ?_⟩
          obtain ⟨acc, ea, hla, b5, t5, a5⟩ := a4.push iv (by rw [List.length_map]; omega)
          refine ⟨acc, ea, hla, .mk ⟨same_put s4 nL, ?_⟩⟩
          rw [take_succ hl, srcs_snoc, List.map_append]
          exact a5
        · have w : ∃ (x : Str) (ds : List PyData), l.d = .tuple (.str x :: ds) ∧ decide (V.str x = V.str "source") = false ∧ l.src = none := by
            cases l with
            | source k => exact absurd ⟨k, rfl⟩ hs
            | _ => exact ⟨_, _, rfl, by decide +kernel, rfl⟩
          obtain ⟨x0, ds, ed, ex0, es⟩ := w
          have iw4 := ix4
          rw [ed] at iw4
          refine ⟨_, 0, 0, _, iw4, rfl, rfl, rfl, fun v iv => ?_⟩
          obtain rfl := iv.s
          refine ⟨rfl, _, rfl, ?_⟩
          refine ite_f ex0 ?_
          refine .mk ⟨s4, ?_⟩
          rw [take_succ hl, srcs_snoc, es, List.append_nil]
          exact a4
      · intro H4 h
        obtain ⟨s4, a4⟩ := h.out
        rw [lx, List.take_length] at a4
        walk_at "go"
        refine .mk ⟨C, B5, HasR C, y6, S8, L, by rw [so5], rfl, core_R C, R3.same s4, a4, ok.n1, hll, fun q9 H9 m9 R9 => ?_⟩
        refine q (B5.set .sf q9 0) y6 H9 ?_ ?_ lv5 (fun b o e bx hn => ?_) ((tkX.trans m3.tk).trans ((same_tk s4).trans m9.tk)) R9
        · rw [ad_set_ne (by intro z; cases z)]; exact so5
        · rw [ad_set_ne (by intro z; cases z)]; exact oo5
        · obtain ⟨e1, n1⟩ := mgX b o e bx hn
          obtain ⟨e2, n2⟩ := m3.keep b o e1 n1
          exact m9.keep b o (s4 _ _ e2) n2

def spRunInit (K : PySem.W.Frag) (X : Cs) : Sp := fun vs H Q _ => ∃ (v v2 v3 v4 : V), vs = [v, v2, v3, v4] ∧ Hold (∃ (x dx lw po pl : Addr) (al : List Addr) (xs : List V) (C : Ct) (ks : List Kd) (S9 : Ms), v = .ref x ∧ v2 = .ref lw ∧ v3 = .ref po ∧ v4 = .ref pl ∧ RunOk C ∧ H x = some (.ins X.r dx []) ∧ H lw = some (.lst xs) ∧ Ims K H xs (C.ls.map Ln.d) ∧
  H po = some (.lst (C.outs.map fun (n : Nat) => V.int (n : Int))) ∧ LL K H pl al (intsD C.lists) ∧ GoodW C.lists.length C.ls ks ∧ 1 ≤ C.ls.length ∧ C.ls.length ≤ 24 ∧ startM C = some S9 ∧
  ∀ B y H', B.ad .ru = x → (∀ b o, H b = some o → b ≠ x → H' b = some o ∧ Out B (Full C) y b) → TK K H H' → Rep K X C B (Full C) y S9 H' → Q .non H')
theorem rep_start {K : PySem.W.Frag} {X : Cs} {C : Ct} {H : Hp} {lv : Nat → V} {x dx sl sn sa sf : Addr} {bs : List Addr} (nd : (x :: sl :: sn :: sa :: sf :: bs).Nodup) (e : H x = some (.ins X.s dx (sff C.lists.length (.ref sl) (.ref sn) (.ref sa) (.ref sf)))) (l : LL K H sl bs (intsD C.lists))
    (a1 : Acc K H sn ((List.replicate C.lists.length (0 : Int)).map PyData.int)) (a2 : Acc K H sa []) (a3 : Acc K H sf []) :
    ∃ B : Bk, B.lv = lv ∧ B.ad .so = x ∧ (∀ (y : Dy) l, HasI C 0 0 l → adr B y l ∈ x :: sl :: sn :: sa :: sf :: bs) ∧ ∀ y, Rep K X C B (HasI C 0 0) y (S0 C) H := by
  have bl : bs.length = C.lists.length := by
    have := l.2.len
    unfold intsD at this
    rw [List.length_map] at this
    exact this
  let f : Lab → Addr := fun l => match l with
    | .so => x
    | .sl => sl
    | .sn => sn
    | .sa => sa
    | .sf => sf
    | .sr k => bs.getD k 0
    | _ => 0
  have hg : ∀ k, k < C.lists.length → bs[k]? = some (bs.getD k 0) := fun k hk => by
    rw [List.getD_eq_getElem?_getD, List.getElem?_eq_getElem (by omega)]; rfl
  have cs : ∀ l, HasI C 0 0 l → l = .so ∨ l = .sl ∨ l = .sn ∨ l = .sa ∨ l = .sf ∨ ∃ k, k < C.lists.length ∧ l = .sr k := fun l h => by
    cases l with
    | wk j => exact absurd h (Nat.not_lt_zero j)
    | wp j => exact absurd h (Nat.not_lt_zero j)
    | wm j => exact absurd h (Nat.not_lt_zero j)
    | ws j => exact absurd h (Nat.not_lt_zero j)
    | wh j => exact absurd h (Nat.not_lt_zero j)
    | pl q =>
      cases q with
      | out j => exact h.elim
      | «at» j t => rcases h with ⟨h, _⟩ | ⟨_, h⟩ <;> exact absurd h (Nat.not_lt_zero _)
    | so => exact .inl rfl
    | sl => exact .inr (.inl rfl)
    | sn => exact .inr (.inr (.inl rfl))
    | sa => exact .inr (.inr (.inr (.inl rfl)))
    | sf => exact .inr (.inr (.inr (.inr (.inl rfl))))
    | sr k => exact .inr (.inr (.inr (.inr (.inr ⟨k, h, rfl⟩))))
    | oo => exact h.elim
    | ol => exact h.elim
    | ru => exact h.elim
  have m5 : ∀ {b : Addr}, b ∈ bs → b ∈ sf :: bs := fun h => List.mem_cons_of_mem _ h
  obtain ⟨d1, nd⟩ := List.nodup_cons.mp nd
  obtain ⟨d2, nd⟩ := List.nodup_cons.mp nd
  obtain ⟨d3, nd⟩ := List.nodup_cons.mp nd
  obtain ⟨d4, nd⟩ := List.nodup_cons.mp nd
  obtain ⟨d5, nd⟩ := List.nodup_cons.mp nd
  have hb : ∀ k, k < C.lists.length → bs.getD k 0 ∈ bs := fun k hk => List.mem_of_getElem? (hg k hk)
  have nx : ∀ b, b ∈ x :: sl :: sn :: sa :: sf :: bs → True := fun _ _ => trivial
  refine ⟨⟨f, fun l => match l with | .so => dx | _ => 0, lv⟩, rfl, rfl, fun y l h => ?_, fun y => ⟨fun l m hl hm z => ?_, fun l h => ?_, fun i ln h1 h2 => absurd h2 (Nat.not_lt_zero i)⟩⟩
  · rcases cs l h with rfl | rfl | rfl | rfl | rfl | ⟨k, hk, rfl⟩
    · exact List.mem_cons_self
    · exact List.mem_cons_of_mem _ List.mem_cons_self
    · exact List.mem_cons_of_mem _ (List.mem_cons_of_mem _ List.mem_cons_self)
    · exact List.mem_cons_of_mem _ (List.mem_cons_of_mem _ (List.mem_cons_of_mem _ List.mem_cons_self))
    · exact List.mem_cons_of_mem _ (List.mem_cons_of_mem _ (List.mem_cons_of_mem _ (List.mem_cons_of_mem _ List.mem_cons_self)))
    · exact List.mem_cons_of_mem _ (List.mem_cons_of_mem _ (List.mem_cons_of_mem _ (List.mem_cons_of_mem _ (List.mem_cons_of_mem _ (hb k hk)))))
  · have A1 : x ≠ sl := fun z => d1 (by rw [z]; simp)
    have A2 : x ≠ sn := fun z => d1 (by rw [z]; simp)
    have A3 : x ≠ sa := fun z => d1 (by rw [z]; simp)
    have A4 : x ≠ sf := fun z => d1 (by rw [z]; simp)
    have A5 : ∀ k, k < C.lists.length → x ≠ bs.getD k 0 := fun k hk z => d1 (by rw [z]; simp only [List.mem_cons]; exact .inr (.inr (.inr (.inr (hb k hk)))))
    have B1 : sl ≠ sn := fun z => d2 (by rw [z]; simp)
    have B2 : sl ≠ sa := fun z => d2 (by rw [z]; simp)
    have B3 : sl ≠ sf := fun z => d2 (by rw [z]; simp)
    have B4 : ∀ k, k < C.lists.length → sl ≠ bs.getD k 0 := fun k hk z => d2 (by rw [z]; simp only [List.mem_cons]; exact .inr (.inr (.inr (hb k hk))))
    have C1 : sn ≠ sa := fun z => d3 (by rw [z]; simp)
    have C2 : sn ≠ sf := fun z => d3 (by rw [z]; simp)
    have C3 : ∀ k, k < C.lists.length → sn ≠ bs.getD k 0 := fun k hk z => d3 (by rw [z]; simp only [List.mem_cons]; exact .inr (.inr (hb k hk)))
    have D1 : sa ≠ sf := fun z => d4 (by rw [z]; simp)
    have D2 : ∀ k, k < C.lists.length → sa ≠ bs.getD k 0 := fun k hk z => d4 (by rw [z]; simp only [List.mem_cons]; exact .inr (hb k hk))
    have E1 : ∀ k, k < C.lists.length → sf ≠ bs.getD k 0 := fun k hk z => d5 (by rw [z]; exact hb k hk)
    rcases cs l hl with rfl | rfl | rfl | rfl | rfl | ⟨k, hk, rfl⟩ <;> rcases cs m hm with rfl | rfl | rfl | rfl | rfl | ⟨k', hk', rfl⟩ <;>
      first
      | rfl
      | exact absurd z A1
      | exact absurd z A2
      | exact absurd z A3
      | exact absurd z A4
      | exact absurd z (A5 _ (by assumption))
      | exact absurd z A1.symm
      | exact absurd z A2.symm
      | exact absurd z A3.symm
      | exact absurd z A4.symm
      | exact absurd z (A5 _ (by assumption)).symm
      | exact absurd z B1
      | exact absurd z B2
      | exact absurd z B3
      | exact absurd z (B4 _ (by assumption))
      | exact absurd z B1.symm
      | exact absurd z B2.symm
      | exact absurd z B3.symm
      | exact absurd z (B4 _ (by assumption)).symm
      | exact absurd z C1
      | exact absurd z C2
      | exact absurd z (C3 _ (by assumption))
      | exact absurd z C1.symm
      | exact absurd z C2.symm
      | exact absurd z (C3 _ (by assumption)).symm
      | exact absurd z D1
      | exact absurd z (D2 _ (by assumption))
      | exact absurd z D1.symm
      | exact absurd z (D2 _ (by assumption)).symm
      | exact absurd z (E1 _ (by assumption))
      | exact absurd z (E1 _ (by assumption)).symm
      | skip
    have z : bs.getD k 0 = bs.getD k' 0 := z
    have g1 := hg k hk
    have g2 := hg k' hk'
    rw [z, ← g2] at g1
    have := (List.getElem?_inj (by omega) nd).mp g1
    rw [this]
  · rcases cs l h with rfl | rfl | rfl | rfl | rfl | ⟨k, hk, rfl⟩
    · exact e
    · show H sl = some (.lst ((List.range C.lists.length).map fun k => .ref (bs.getD k 0)))
      rw [l.1]
      congr 2
      apply List.ext_getElem?
      intro j
      rw [List.getElem?_map, List.getElem?_map]
      by_cases hj : j < C.lists.length
      · rw [hg j hj, List.getElem?_range hj]; rfl
      · rw [List.getElem?_eq_none (by omega), List.getElem?_eq_none (by rw [List.length_range]; omega)]; rfl
    · exact a1
    · exact a2
    · exact a3
    · show Acc K H (bs.getD k 0) ((C.lists.getD k []).map PyData.int)
      obtain ⟨ds, h1, h2⟩ := l.2.got (hg k hk)
      unfold intsD at h1
      rw [List.getElem?_map] at h1
      obtain ⟨row, hrow, rfl⟩ := Option.map_eq_some_iff.mp h1
      rw [show C.lists.getD k [] = row by rw [List.getD_eq_getElem?_getD, hrow]; rfl]
      exact h2
theorem full_of {C : Ct} : ∀ m, Full C m → HasR C m ∨ m = .ru := by
  intro m hm
  cases m with
  | ru => exact .inr rfl
  | _ => exact .inl hm
theorem ok_Run___init__ (T : Tx P K w mg) : FnOk P w K mg base CX0 110 T.Run___init__.f T.Run___init__.fd ["self", "weave", "outs", "lists"] (spRunInit K T.cs) := by
  refine T.Run___init__.F.ok sc_Run___init__ (fun vs H Q E h => ?_) (fun cdv A outer s H vs Q E hr h => ?_)
  · obtain ⟨a, b, c, d, rfl, _⟩ := h
    rfl
  obtain ⟨v, v2, v3, v4, rfl, h⟩ := h
  obtain ⟨x, dx, lw, po, pl, al, xs, C, ks, S9, rfl, rfl, rfl, rfl, ok, ex, ew, iw, eo, ll, gw, l1, l24, hst, q⟩ := h.out
  have ell : al.length = C.lists.length := by
    have := ll.2.len
    unfold intsD at this
    rw [List.length_map] at this
    exact this
  have aw : Acc K H lw (C.ls.map Ln.d) := ⟨xs, ew, iw⟩
  refine ⟨_, (pss_cons (ps_expr (pe_call (ok_looked T) (hr.mono (by decide)) (by rfl) T.looked.g T.looked.F.kp T.looked.b .nil pass0 (pa_cons (pv 1) (pa_cons (pe_callB call_len_seq (by rfl) T.z_len PySem.boot_len (pa_cons (pv 3) pa_nil)) pa_nil))))
      (pss_cons (ps_fld (pv 0) (pe_make T.ListedSources___init__.mk' (ok_ListedSources___init__ T) (hr.mono (by decide)) (by rfl) T.k_ListedSources.g T.ListedSources___init__.b .nil pass0 (pa_cons (pv 3) pa_nil)) rfl)
      (pss_one (ps_fld (pv 0) (pe_make T.Outlets___init__.mk' (ok_Outlets___init__ T) (hr.mono (by decide)) (by rfl) T.k_Outlets.g T.Outlets___init__.b .nil pass0 (pa_cons (pv 1) (pa_cons (pv 2) (pa_cons (pe_fld (pv 0) rfl) pa_nil)))) rfl)))), ?_⟩
  walk_at "go"
  refine ⟨_, _, rfl, .inl (SqL.of ll.1), ?_⟩
  rw [List.length_map, ell]
  walk_at "go"
  refine .mk ⟨lw, C.ls, ks, _, rfl, rfl, aw, gw, l1, l24, fun p0 H0 n0 s0 a0 => ?_⟩
  walk_at "go"
  intro x1 dx1 nx ndx nex
  have s1 : Same H0 (upd (upd H0 dx1 (.own x1)) x1 (.ins T.k_ListedSources.C dx1 [])) := fun b o e => by
    rw [upd_ne (ne_of_none e nx), upd_ne (ne_of_none e ndx)]
    exact e
  have S1 := s0.trans s1
  have nxH : H x1 = none := s0.free nx
  walk_at "go"
  refine .mk ⟨x1, dx1, pl, al, C.lists, rfl, rfl, upd_same, ll.same S1, ok.n1, fun sl sn sa sf bs H2 fr nd b2 e2 l2 a2 a3 a4 => ⟨rfl, ?_⟩⟩
  have t2 : TK K (upd (upd H0 dx1 (.own x1)) x1 (.ins T.k_ListedSources.C dx1 [])) H2 := b2.tkW upd_same rfl
  have keep : ∀ b o, H b = some o → H2 b = some o := fun b o e => b2 b o (ne_of_none e nxH) (S1 b o e)
  have ex2 := keep _ _ ex
  have xx1 : x ≠ x1 := ne_of_none ex nxH
  obtain ⟨B, hlv, hso, had, hR⟩ := rep_start (K := K) (X := T.cs) (C := C) (H := H2) (lv := fun i => xs.getD i .non) (dx := dx1) (List.nodup_cons.mpr ⟨(fun hm => by
    have := fr x1 hm
    rw [upd_same] at this
    cases this), nd⟩) e2 l2 a2 a3 a4
  let y : Dy := ⟨fun _ => 0, fun _ => 0⟩
  have out2 : ∀ b o, H b = some o → Out B (HasI C 0 0) y b := fun b o e l hl z => by
    have hm := had y l hl
    rw [z] at hm
    rcases List.mem_cons.mp hm with hm | hm
    · exact ne_of_none e nxH hm
    · have := S1.free (fr b hm)
      rw [e] at this
      cases this
  have R2 := hR y
  walk_at "go"
  refine ⟨_, _, _, _, rfl, ex2, T.k_Run.cl, T.n_Run_sources, (by exact (by decide : (0 : Nat) < 1000)), ?_⟩
  refine put (fun H3 b3 e3 => ?_)
  have t3 : TK K H2 H3 := b3.tkW ex2 rfl
  have R3 := R2.out (out2 _ _ ex) b3 t3
  walk_at "go"
  walk_at "f"
  walk_at "go"
  intro x4 dx4 nx4 ndx4 nex4
  have s4 : Same H3 (upd (upd H3 dx4 (.own x4)) x4 (.ins T.k_Outlets.C dx4 [])) := fun b o e => by
    rw [upd_ne (ne_of_none e nx4), upd_ne (ne_of_none e ndx4)]
    exact e
  have tk4 : TK K H (upd (upd H3 dx4 (.own x4)) x4 (.ins T.k_Outlets.C dx4 [])) := ((same_tk S1).trans t2).trans (t3.trans (same_tk s4))
  have lwx : lw ≠ x := fun z => by rw [z, ex] at ew; cases ew
  have pox : po ≠ x := fun z => by rw [z, ex] at eo; cases eo
  walk_at "go"
  refine .mk ⟨x4, dx4, lw, po, xs, C, B, y, S9, rfl, rfl, rfl, by rw [hso], ok, upd_same, s4 _ _ (b3 _ _ lwx (keep _ _ ew)), iw.u tk4, fun i x h => by rw [hlv]; show xs.getD i .non = x; rw [List.getD_eq_getElem?_getD, h]; rfl, R3.same s4, out2 _ _ ew, R3.nout nx4, s4 _ _ (b3 _ _ pox (keep _ _ eo)), out2 _ _ eo, hst, fun B5 y5 H5 so5 oo5 lv5 k5 t5 R5 => ⟨rfl, ?_⟩⟩
  obtain ⟨ex5, ox5⟩ := k5 x _ (s4 _ _ e3) (ne_of_none e3 nx4) (out2 _ _ ex)
  walk_at "go"
  refine ⟨_, _, _, _, rfl, ex5, T.k_Run.cl, T.n_Run_outlets, (by exact (by decide : (1 : Nat) < 1000)), ?_⟩
  refine put (fun H6 b6 e6 => ?_)
  have t6 : TK K H5 H6 := b6.tkW ex5 rfl
  have R6 := R5.out ox5 b6 t6
  have R7 := R6.grow (l := .ru) (p := x) (dx := dx) (fun h => h) (fun m hm hu => by
    cases m with
    | wk j => rcases hu with u | u | u | u | u <;> cases u
    | wp j => obtain ⟨_, u⟩ := hu; cases u
    | pl p => have u : Lab.ru = .wk (C.tgt p) := hu; cases u
    | so => rcases hu with u | u | u | u <;> cases u
    | sl => obtain ⟨_, u⟩ := hu; cases u
    | oo => have u : Lab.ru = .ol := hu; cases u
    | ol => obtain ⟨_, u⟩ := hu; cases u
    | ru => exact hm
    | _ => exact hu) ox5 (by
    show H6 x = some (.ins T.k_Run.C ((B5.set .ru x dx).dx .ru) (rf (.ref ((B5.set .ru x dx).ad .so)) (.ref ((B5.set .ru x dx).ad .oo))))
    rw [ad_set_ne (by intro z; cases z), ad_set_ne (by intro z; cases z), so5, oo5, hso]
    rw [show (B5.set .ru x dx).dx .ru = dx from rfl]
    exact e6) (fun j z => by cases z)
  refine q (B5.set .ru x dx) (y5.set .ru x) H6 ad_set_self (fun b o e bx => ?_) (tk4.trans (t5.trans t6)) (R7.cong full_of)
  have e3' := b3 _ _ bx (keep _ _ e)
  obtain ⟨g1, g2⟩ := k5 b o (s4 _ _ e3') (ne_of_none e3' nx4) (out2 _ _ e)
  refine ⟨b6 _ _ bx g1, fun m hm => ?_⟩
  rcases full_of m hm with hm | rfl
  · rw [adr_set_ne fun (z : m = .ru) => by subst z; exact hm]
    exact g2 m hm
  · rw [adr_set_self]
    exact bx.symm

def spMerged (K : PySem.W.Frag) : Sp := fun vs H Q _ => ∃ (v1 v2 : V), vs = [v1, v2] ∧ Hold (∃ (p1 p2 : Addr) (as bs : List Int), v1 = .ref p1 ∧ v2 = .ref p2 ∧ Acc K H p1 (as.map PyData.int) ∧ Acc K H p2 (bs.map PyData.int) ∧ as.length + bs.length ≤ 50000 ∧
  ∀ p H', H p = none → Same H H' → Acc K H' p ((mergeI as bs).map PyData.int) → Q (.ref p) H')
theorem ok__law_merged (T : Tx P K w mg) : FnOk P w K mg base CX0 1 T._law_merged.f T._law_merged.fd ["_law_ones", "_law_others"] (spMerged K) := by
  refine T._law_merged.F.ok sc__law_merged (fun vs H Q E h => ?_) (fun cdv A outer s H vs Q E hr h => ?_)
  · obtain ⟨a, b, rfl, _⟩ := h
    rfl
  obtain ⟨v1, v2, rfl, h⟩ := h
  obtain ⟨p1, p2, as, bs, rfl, rfl, a1, a2, hl, q⟩ := h.out
  refine ⟨_, (pss_cons (ps_set (i := 2) sc__law_merged.nd rfl (by first | exact Or.inl rfl | exact Or.inr rfl) (pe_ld pa_nil))
      (pss_cons (ps_set (i := 0) sc__law_merged.nd rfl (by first | exact Or.inl rfl | exact Or.inr rfl) (pe_callTy call_listA (by rfl) T.z_list (by decide +kernel) (pa_cons (pv 0) pa_nil)))
      (pss_cons (ps_set (i := 1) sc__law_merged.nd rfl (by first | exact Or.inl rfl | exact Or.inr rfl) (pe_callTy call_listA (by rfl) T.z_list (by decide +kernel) (pa_cons (pv 1) pa_nil)))
      (pss_cons (ps_while PassesOwn.never (PW.pt (pw_or (pt_cmpR (op_neNil hr.units) (pv 0) (pe_ld pa_nil) (nomark _)) (pw_or1 (pt_cmpR (op_neNil hr.units) (pv 1) (pe_ld pa_nil) (nomark _))))) (pss_one (ps_if (PW.pt (pw_or (pt_cmpR (op_eqNil hr.units) (pv 1) (pe_ld pa_nil) (nomark _)) (pw_or1 (PW.pt (pw_and (pt_cmpR (op_neNil hr.units) (pv 0) (pe_ld pa_nil) (nomark _)) (pw_and1 (pt_cmpR op_le (pe_ix ix_listA (pv 0) pe_int (fun _ _ => rfl)) (pe_ix ix_listA (pv 1) pe_int (fun _ _ => rfl)) (nomark _)))))))) (pss_one (ps_expr (pe_bm PySem.F.plainAttrs_list PySem.F.slot_list_append PySem.F.type_list_append mt_appA (pv 2) (pa_cons (pe_bm PySem.F.plainAttrs_list PySem.F.slot_list_pop PySem.F.type_list_pop mt_pop0 (pv 0) (pa_cons pe_int pa_nil)) pa_nil)))) (pss_one (ps_expr (pe_bm PySem.F.plainAttrs_list PySem.F.slot_list_append PySem.F.type_list_append mt_appA (pv 2) (pa_cons (pe_bm PySem.F.plainAttrs_list PySem.F.slot_list_pop PySem.F.type_list_pop mt_pop0 (pv 1) (pa_cons pe_int pa_nil)) pa_nil)))))))
      (pss_one (ps_ret (pv 2))))))), ?_⟩
  walk_at "go"
  refine ⟨[], .nil, by simp, fun pf H1 nf s1 t1 af => ?_⟩
  walk_at "go"
  refine ⟨_, _, rfl, a1.same s1, fun po H2 no s2 t2 ao => ?_⟩
  walk_at "go"
  refine ⟨_, _, rfl, (a2.same s1).same s2, fun pt H3 nt s3 t3 at3 => ?_⟩
  obtain ⟨_, ef⟩ := af.at
  obtain ⟨_, eo⟩ := ao.at
  have fo : pf ≠ po := ne_of_none ef no
  have ft : pf ≠ pt := ne_of_none (s2 _ _ ef) nt
  have ot : po ≠ pt := ne_of_none eo nt
  have noH : H po = none := s1.free no
  have ntH : H pt = none := s1.free (s2.free nt)
  refine ⟨fun m σ H4 => Hold (∃ as' bs' fs : List Int, σ = [some (.ref po), some (.ref pt), some (.ref pf)] ∧ m = as'.length + bs'.length ∧ Acc K H4 po (as'.map PyData.int) ∧ Acc K H4 pt (bs'.map PyData.int) ∧ Acc K H4 pf (fs.map PyData.int) ∧
      mergeI as bs = fs ++ mergeI as' bs' ∧ Same H H4), ⟨_, .mk ⟨as, bs, [], rfl, rfl, ao.same s3, at3, (af.same s2).same s3, rfl, s1.trans (s2.trans s3)⟩⟩, ?_⟩
  intro m σ H4 h
  obtain ⟨as', bs', fs, rfl, rfl, ao4, at4, af4, em, s4⟩ := h.out
  have hlen : fs.length + (as'.length + bs'.length) = as.length + bs.length := by
    have := congrArg List.length em
    rw [List.length_append, merge_len, merge_len] at this
    omega
  have S4 : Same H4 H4 := Same.refl H4
  have l1000 : fs.length < 100000 := by omega
  cases as' with
  | nil =>
    cases bs' with
    | nil =>
      walk_at "go"
      refine ⟨[], .nil, by simp, fun p5 H5 n5 s5 t5 a5 => ?_⟩
      have ao5 := ao4.same s5
      have at5 := at4.same s5
      have af5 := af4.same s5
      have S5 := S4.trans s5
      refine ⟨_, _, _, rfl, rfl, ao5, a5, ints_shaped _, ?_⟩
      walk_at "go"
      refine ⟨[], .nil, by simp, fun p6 H6 n6 s6 t6 a6 => ?_⟩
      have ao6 := ao5.same s6
      have at6 := at5.same s6
      have af6 := af5.same s6
      have S6 := S5.trans s6
      refine ⟨_, _, _, rfl, rfl, at6, a6, ints_shaped _, ?_⟩
      walk_at "go"
      refine q pf H6 nf (s4.trans S6) ?_
      rw [em, nil_merge, List.append_nil]
      exact af6
    | cons b bs' =>
      walk_at "go"
      refine ⟨[], .nil, by simp, fun p5 H5 n5 s5 t5 a5 => ?_⟩
      have ao5 := ao4.same s5
      have at5 := at4.same s5
      have af5 := af4.same s5
      have S5 := S4.trans s5
      refine ⟨_, _, _, rfl, rfl, ao5, a5, ints_shaped _, ?_⟩
      walk_at "go"
      refine ⟨[], .nil, by simp, fun p6 H6 n6 s6 t6 a6 => ?_⟩
      have ao6 := ao5.same s6
      have at6 := at5.same s6
      have af6 := af5.same s6
      have S6 := S5.trans s6
      refine ⟨_, _, _, rfl, rfl, at6, a6, ints_shaped _, ?_⟩
      walk_at "go"
      refine ⟨fun σ H' => Hold (∃ as'' bs'' fs' : List Int, σ = [some (.ref po), some (.ref pt), some (.ref pf)] ∧ as''.length + bs''.length = bs'.length ∧ Acc K H' po (as''.map PyData.int) ∧ Acc K H' pt (bs''.map PyData.int) ∧ Acc K H' pf (fs'.map PyData.int) ∧
        mergeI as bs = fs' ++ mergeI as'' bs'' ∧ Same H H'), fun σ' H' h => ?_, ?_⟩
      · obtain ⟨x, y, z, r1, r2, r3⟩ := h.out
        exact ⟨_, by simp; omega, .mk ⟨x, y, z, r1, rfl, r3⟩⟩
      walk_at "go"
      refine ⟨[], .nil, by simp, fun p7 H7 n7 s7 t7 a7 => ?_⟩
      have ao7 := ao6.same s7
      have at7 := at6.same s7
      have af7 := af6.same s7
      have S7 := S6.trans s7
      refine ⟨_, _, _, rfl, rfl, at7, a7, ints_shaped _, ?_⟩
      walk_at "go"
      refine ⟨[], .nil, by simp, fun p8 H8 n8 s8 t8 a8 => ?_⟩
      have ao8 := ao7.same s8
      have at8 := at7.same s8
      have af8 := af7.same s8
      have S8 := S7.trans s8
      refine ⟨_, _, _, rfl, rfl, ao8, a8, ints_shaped _, ?_⟩
      walk_at "go"
      refine ⟨_, _, _, rfl, rfl, at8, fun v H9 b9 t9 iv al9 => ?_⟩
      have ax9 := ao8.but b9 t9 ot
      have af9 := af8.but b9 t9 ft
      refine ⟨_, _, _, _, rfl, rfl, af9, iv, by rw [List.length_map]; omega, fun H10 b10 t10 af10 => ?_⟩
      refine .mk ⟨[], bs', fs ++ [b], rfl, by simp, ax9.but b10 t10 fo.symm, al9.but b10 t10 ft.symm, by rw [List.map_append]; exact af10, ?_, fun b u e => ?_⟩
      · rw [em, List.append_assoc]
        rw [nil_merge, nil_merge]; rfl
      · exact b10 _ _ (ne_of_none e nf) (b9 _ _ (ne_of_none e ntH) (S8 _ _ (s4 _ _ e)))
  | cons a as' =>
    cases bs' with
    | nil =>
      walk_at "go"
      refine ⟨[], .nil, by simp, fun p5 H5 n5 s5 t5 a5 => ?_⟩
      have ao5 := ao4.same s5
      have at5 := at4.same s5
      have af5 := af4.same s5
      have S5 := S4.trans s5
      refine ⟨_, _, _, rfl, rfl, ao5, a5, ints_shaped _, ?_⟩
      walk_at "go"
      refine ⟨fun σ H' => Hold (∃ as'' bs'' fs' : List Int, σ = [some (.ref po), some (.ref pt), some (.ref pf)] ∧ as''.length + bs''.length = as'.length ∧ Acc K H' po (as''.map PyData.int) ∧ Acc K H' pt (bs''.map PyData.int) ∧ Acc K H' pf (fs'.map PyData.int) ∧
        mergeI as bs = fs' ++ mergeI as'' bs'' ∧ Same H H'), fun σ' H' h => ?_, ?_⟩
      · obtain ⟨x, y, z, r1, r2, r3⟩ := h.out
        exact ⟨_, by simp; omega, .mk ⟨x, y, z, r1, rfl, r3⟩⟩
      walk_at "go"
      refine ⟨[], .nil, by simp, fun p6 H6 n6 s6 t6 a6 => ?_⟩
      have ao6 := ao5.same s6
      have at6 := at5.same s6
      have af6 := af5.same s6
      have S6 := S5.trans s6
      refine ⟨_, _, _, rfl, rfl, at6, a6, ints_shaped _, ?_⟩
      walk_at "go"
      refine ⟨_, _, _, rfl, rfl, ao6, fun v H7 b7 t7 iv al7 => ?_⟩
      have ax7 := at6.but b7 t7 ot.symm
      have af7 := af6.but b7 t7 fo
      refine ⟨_, _, _, _, rfl, rfl, af7, iv, by rw [List.length_map]; omega, fun H8 b8 t8 af8 => ?_⟩
      refine .mk ⟨as', [], fs ++ [a], rfl, by simp, al7.but b8 t8 fo.symm, ax7.but b8 t8 ft.symm, by rw [List.map_append]; exact af8, ?_, fun b u e => ?_⟩
      · rw [em, List.append_assoc]
        rw [merge_nil, merge_nil]; rfl
      · exact b8 _ _ (ne_of_none e nf) (b7 _ _ (ne_of_none e noH) (S6 _ _ (s4 _ _ e)))
    | cons b bs' =>
      walk_at "go"
      refine ⟨[], .nil, by simp, fun p5 H5 n5 s5 t5 a5 => ?_⟩
      have ao5 := ao4.same s5
      have at5 := at4.same s5
      have af5 := af4.same s5
      have S5 := S4.trans s5
      refine ⟨_, _, _, rfl, rfl, ao5, a5, ints_shaped _, ?_⟩
      walk_at "go"
      refine ⟨fun σ H' => Hold (∃ as'' bs'' fs' : List Int, σ = [some (.ref po), some (.ref pt), some (.ref pf)] ∧ as''.length + bs''.length = as'.length + bs'.length + 1 ∧ Acc K H' po (as''.map PyData.int) ∧ Acc K H' pt (bs''.map PyData.int) ∧ Acc K H' pf (fs'.map PyData.int) ∧
        mergeI as bs = fs' ++ mergeI as'' bs'' ∧ Same H H'), fun σ' H' h => ?_, ?_⟩
      · obtain ⟨x, y, z, r1, r2, r3⟩ := h.out
        exact ⟨_, by simp; omega, .mk ⟨x, y, z, r1, rfl, r3⟩⟩
      walk_at "go"
      refine ⟨[], .nil, by simp, fun p6 H6 n6 s6 t6 a6 => ?_⟩
      have ao6 := ao5.same s6
      have at6 := at5.same s6
      have af6 := af5.same s6
      have S6 := S5.trans s6
      refine ⟨_, _, _, rfl, rfl, at6, a6, ints_shaped _, ?_⟩
      walk_at "go"
      refine ⟨[], .nil, by simp, fun p7 H7 n7 s7 t7 a7 => ?_⟩
      have ao7 := ao6.same s7
      have at7 := at6.same s7
      have af7 := af6.same s7
      have S7 := S6.trans s7
      refine ⟨_, _, _, rfl, rfl, ao7, a7, ints_shaped _, ?_⟩
      walk_at "go"
      refine ⟨_, _, 0, 0, _, rfl, ao7, rfl, rfl, rfl, fun x ix => ?_⟩
      obtain rfl := ix.i
      walk_at "go"
      refine ⟨_, _, 0, 0, _, rfl, at7, rfl, rfl, rfl, fun y iy => ?_⟩
      obtain rfl := iy.i
      walk_at "go"
      refine ite_d (fun c => ?_) (fun c => ?_)
      · walk_at "go"
        refine ⟨_, _, _, rfl, rfl, ao7, fun v H8 b8 t8 iv al8 => ?_⟩
        have ax8 := at7.but b8 t8 ot.symm
        have af8 := af7.but b8 t8 fo
        refine ⟨_, _, _, _, rfl, rfl, af8, iv, by rw [List.length_map]; omega, fun H9 b9 t9 af9 => ?_⟩
        refine .mk ⟨as', (b :: bs'), fs ++ [a], rfl, by simp; omega, al8.but b9 t9 fo.symm, ax8.but b9 t9 ft.symm, by rw [List.map_append]; exact af9, ?_, fun b u e => ?_⟩
        · rw [em, List.append_assoc]
          rw [merge_le c]; rfl
        · exact b9 _ _ (ne_of_none e nf) (b8 _ _ (ne_of_none e noH) (S7 _ _ (s4 _ _ e)))
      · walk_at "go"
        refine ⟨_, _, _, rfl, rfl, at7, fun v H8 b8 t8 iv al8 => ?_⟩
        have ax8 := ao7.but b8 t8 ot
        have af8 := af7.but b8 t8 ft
        refine ⟨_, _, _, _, rfl, rfl, af8, iv, by rw [List.length_map]; omega, fun H9 b9 t9 af9 => ?_⟩
        refine .mk ⟨(a :: as'), bs', fs ++ [b], rfl, by simp; omega, ax8.but b9 t9 fo.symm, al8.but b9 t9 ft.symm, by rw [List.map_append]; exact af9, ?_, fun b u e => ?_⟩
        · rw [em, List.append_assoc]
          rw [merge_gt c]; rfl
        · exact b9 _ _ (ne_of_none e nf) (b8 _ _ (ne_of_none e ntH) (S7 _ _ (s4 _ _ e)))

def spGrouped (K : PySem.W.Frag) : Sp := fun vs H Q _ => ∃ (v1 v2 : V), vs = [v1, v2] ∧ Hold (∃ (m : Int) (p : Addr) (ns : List Int), v1 = .int m ∧ v2 = .ref p ∧ 0 < m ∧ Acc K H p (ns.map PyData.int) ∧ ns.length ≤ 50000 ∧
  ∀ p H', H p = none → Same H H' → Acc K H' p ((groupI m ns).map grD) → Q (.ref p) H')
theorem ok__law_grouped (T : Tx P K w mg) : FnOk P w K mg base CX0 1 T._law_grouped.f T._law_grouped.fd ["_law_by", "_law_items"] (spGrouped K) := by
  refine T._law_grouped.F.ok sc__law_grouped (fun vs H Q E h => ?_) (fun cdv A outer s H vs Q E hr h => ?_)
  · obtain ⟨a, b, rfl, _⟩ := h
    rfl
  obtain ⟨v1, v2, rfl, h⟩ := h
  obtain ⟨m, p, ns, rfl, rfl, m0, a0, hl, q⟩ := h.out
  refine ⟨_, (pss_cons (ps_set (i := 2) sc__law_grouped.nd rfl (by first | exact Or.inl rfl | exact Or.inr rfl) (pe_ld pa_nil))
      (pss_cons (ps_for PassesOwn.never rfl (pi_list (pv 1)) (pg_name (i := 3) sc__law_grouped.nd rfl (by first | exact Or.inl rfl | exact Or.inr rfl)) (pss_cons (ps_cut (ps_if (PW.pt (pw_or (pt_cmpR (op_eqNil hr.units) (pv 2) (pe_ld pa_nil) (nomark _)) (pw_or1 (pt_cmpR op_ne (pe_ix ix_tupD (pe_ix ix_listA (pv 2) (pe_op op_sub (pe_callB call_lenA (by rfl) T.z_len PySem.boot_len (pa_cons (pv 2) pa_nil)) pe_int) (fun _ _ => rfl)) pe_int (fun _ _ => rfl)) (pe_op op_mod (pv 3) (pv 0)) (nomark _))))) (pss_one (ps_expr (pe_bm PySem.F.plainAttrs_list PySem.F.slot_list_append PySem.F.type_list_append mt_appA (pv 2) (pa_cons (pe_td (pa_cons (pe_op op_mod (pv 3) (pv 0)) (pa_cons (pe_td pa_nil) pa_nil))) pa_nil)))) pss_nil))
      (pss_cons (ps_set (i := 4) sc__law_grouped.nd rfl (by first | exact Or.inl rfl | exact Or.inr rfl) (pe_bm0 PySem.F.plainAttrs_list PySem.F.slot_list_pop PySem.F.type_list_pop mt_popA (pv 2)))
      (pss_one (ps_expr (pe_bm PySem.F.plainAttrs_list PySem.F.slot_list_append PySem.F.type_list_append mt_appA (pv 2) (pa_cons (pe_td (pa_cons (pe_ix ix_tupD (pv 4) pe_int (fun _ _ => rfl)) (pa_cons (pe_op op_catTD (pe_ix ix_tupD (pv 4) pe_int (fun _ _ => rfl)) (pe_td (pa_cons (pv 3) pa_nil))) pa_nil))) pa_nil)))))))
      (pss_one (ps_ret (pv 2))))), ?_⟩
  walk_at "go"
  refine ⟨[], .nil, by simp, fun pf H1 nf s1 t1 af => ?_⟩
  obtain ⟨xs, e1, i1⟩ := a0.same s1
  have ex := Ims.of_ints _ i1
  subst ex
  obtain ⟨_, ef⟩ := af.at
  have pne : p ≠ pf := by
    obtain ⟨_, e0⟩ := a0.at
    exact ne_of_none e0 nf
  walk_at "go"
  refine ⟨⟨_, SqL.of e1⟩, for_list (K := K) (a := p) (xs := ns.map V.int) (fun i σ H2 => Hold (∃ (o3 o4 : Option V), σ = [some (.int m), some (.ref p), some (.ref pf), o3, o4] ∧ Same H H2 ∧ H2 p = some (.lst (ns.map V.int)) ∧ Acc K H2 pf ((groupI m (ns.take i)).map grD)))
    (.mk ⟨none, none, rfl, s1, e1, af⟩) (fun i σ H2 _ h => by obtain ⟨_, _, _, _, e, _⟩ := h.out; exact SqL.of e) ?_ ?_⟩
  · intro i y σ H2 hi h
    obtain ⟨o3, o4, rfl, s2, e2, a2⟩ := h.out
    rw [List.getElem?_map] at hi
    obtain ⟨x, hx, rfl⟩ := Option.map_eq_some_iff.mp hi
    have hi' := (List.getElem?_eq_some_iff.mp hx).1
    have gl := group_len m (ns.take i)
    rw [List.length_take] at gl
    rw [group_take hx]
    generalize groupI m (ns.take i) = acc at a2 gl
    have S : ∀ o4, ([some (V.int m), some (.ref p), some (.ref pf), some (.int x), o4] : L2.St) = [some (V.int m), some (.ref p), some (.ref pf), some (.int x), o4] := fun _ => rfl
    walk_at "go"
    refine ⟨fun σ H3 => Hold (∃ (gs : List (Int × List Int)) (xs : List Int), σ = [some (.int m), some (.ref p), some (.ref pf), some (.int x), o4] ∧ Same H H3 ∧ H3 p = some (.lst (ns.map V.int)) ∧ Acc K H3 pf ((gs ++ [(x % m, xs)]).map grD) ∧
        groupS m acc x = gs ++ [(x % m, xs ++ [x])] ∧ gs.length ≤ 50000 ∧ xs.length ≤ 50000), ?_, ?_⟩
    · have push : ∀ H5 (v : V), Same H2 H5 → Im K H5 v (grD (x % m, [])) → (∀ gs r xs, acc = gs ++ [(r, xs)] → r ≠ x % m) → ∀ σ' , σ' = [some (.int m), some (.ref p), some (.ref pf), some (.int x), o4] →
          ∃ (l : Addr) (y : V) (ds : List PyData) (d : PyData), V.ref pf = .ref l ∧ [v] = [y] ∧ Acc K H5 l ds ∧ Im K H5 y d ∧ ds.length < 1000000 ∧ ∀ H', But l H5 H' → TK K H5 H' → Acc K H' l (ds ++ [d]) →
            Hold (∃ (gs : List (Int × List Int)) (xs : List Int), σ' = [some (.int m), some (.ref p), some (.ref pf), some (.int x), o4] ∧ Same H H' ∧ H' p = some (.lst (ns.map V.int)) ∧ Acc K H' pf ((gs ++ [(x % m, xs)]).map grD) ∧
              groupS m acc x = gs ++ [(x % m, xs ++ [x])] ∧ gs.length ≤ 50000 ∧ xs.length ≤ 50000) := fun H5 v s5 iv no σ' eσ => by
        refine ⟨pf, v, _, _, rfl, rfl, a2.same s5, iv, by rw [List.length_map]; omega, fun H6 b6 t6 a6 => .mk ⟨acc, [], eσ, ?_, b6 _ _ pne (s5 _ _ e2), by rw [List.map_append]; exact a6, ?_, by omega, by simp⟩⟩
        · intro b u e
          exact b6 _ _ (ne_of_none e nf) (s5 _ _ (s2 _ _ e))
        · rcases List.eq_nil_or_concat acc with e | ⟨gs, ⟨r, xs⟩, e⟩
          · subst e; rfl
          · rw [List.concat_eq_append] at e
            subst e
            rw [groupS_snoc, if_neg (no _ _ _ rfl)]
            rfl
      walk_at "go"
      refine ⟨[], .nil, by simp, fun p3 H3 n3 s3 t3 a3 => ?_⟩
      have af3 := a2.same s3
      refine ⟨_, _, _, rfl, rfl, af3, a3, grs_shaped acc, ?_⟩
      refine ⟨_, rfl, ?_⟩
      rcases List.eq_nil_or_concat acc with e | ⟨gs, ⟨r, xs⟩, e⟩
      · refine ite_t (by rw [e]; decide) ?_
        walk_at "go"
        refine ⟨[], .nil, by simp, fun p4 H4 s4 t4 i4 => ?_⟩
        walk_at "go"
        have af4 := af3.same s4
        refine ⟨[.int (x % m), .tuple []], .cons (.int _) (.cons i4 .nil), by simp, fun p5 H5 s5 t5 i5 => ?_⟩
        exact push H5 _ (s3.trans (s4.trans s5)) i5 (fun gs r xs z => by rw [e] at z; simp at z) _ rfl
      · rw [List.concat_eq_append] at e
        refine ite_f (by rw [e]; simp) ?_
        walk_at "go"
        refine ⟨_, _, rfl, af3, ?_⟩
        rw [List.length_map]
        walk_at "go"
        refine ⟨_, _, _, gs.length, grD (r, xs), rfl, af3, rfl, by rw [e, List.length_append]; simp, by rw [e, List.getElem?_map, List.getElem?_append_right (Nat.le_refl _), Nat.sub_self]; rfl, fun v iv => ?_⟩
        walk_at "go"
        refine ⟨_, 0, 0, _, iv, rfl, rfl, rfl, fun u iu => ?_⟩
        obtain rfl := iu.i
        walk_at "go"
        by_cases c : r = x % m
        · refine ite_f (by rw [dec_vint, decide_eq_true c]; rfl) ?_
          walk_at "go"
          subst c
          have gl1 := gl.1
          have gl2 := gl.2 (x % m, xs) (by rw [e]; exact List.mem_append.mpr (.inr (List.mem_singleton.mpr rfl)))
          have gl2 : xs.length ≤ min i ns.length := gl2
          rw [e, List.length_append] at gl1
          refine .mk ⟨gs, xs, rfl, s2.trans s3, s3 _ _ e2, by rw [← e]; exact af3, by rw [e, groupS_snoc, if_pos rfl], by omega, by omega⟩
        · refine ite_t (by rw [dec_vint, decide_eq_false c]; rfl) ?_
          walk_at "go"
          refine ⟨[], .nil, by simp, fun p4 H4 s4 t4 i4 => ?_⟩
          walk_at "go"
          have af4 := af3.same s4
          refine ⟨[.int (x % m), .tuple []], .cons (.int _) (.cons i4 .nil), by simp, fun p5 H5 s5 t5 i5 => ?_⟩
          refine push H5 _ (s3.trans (s4.trans s5)) i5 (fun gs' r' xs' z => ?_) _ rfl
          rw [e] at z
          have := List.append_inj_right' z rfl
          cases this
          exact c
    intro σ' H3 h
    obtain ⟨gs, xs, rfl, s3, e3, a3, eg, l1, l2⟩ := h.out
    walk_at "go"
    rw [List.map_append] at a3
    refine ⟨_, _, _, rfl, rfl, a3, fun v H4 b4 t4 iv a4 => ?_⟩
    walk_at "go"
    refine ⟨_, 0, 0, _, iv, rfl, rfl, rfl, fun u iu => ?_⟩
    obtain rfl := iu.i
    walk_at "go"
    refine ⟨_, 1, 1, _, iv, rfl, rfl, rfl, fun u iu => ?_⟩
    walk_at "go"
    refine ⟨[.int x], .cons (.int _) .nil, by simp, fun p5 H5 s5 t5 i5 => ?_⟩
    refine ⟨_, _, iu.u t5, i5, by rw [List.length_map]; simp; omega, fun w H6 s6 t6 i6 => ?_⟩
    have a6 := (a4.same s5).same s6
    refine ⟨[.int (x % m), .tuple (xs.map PyData.int ++ [.int x])], .cons (.int _) (.cons i6 .nil), by simp, fun p7 H7 s7 t7 i7 => ?_⟩
    refine ⟨_, _, _, _, rfl, rfl, a6.same s7, i7, by rw [List.length_map]; omega, fun H8 b8 t8 a8 => ?_⟩
    refine .mk ⟨_, _, rfl, fun b u e => ?_, ?_, ?_⟩
    · exact b8 _ _ (ne_of_none e nf) (s7 _ _ (s6 _ _ (s5 _ _ (b4 _ _ (ne_of_none e nf) (s3 _ _ e)))))
    · exact b8 _ _ pne (s7 _ _ (s6 _ _ (s5 _ _ (b4 _ _ pne e3))))
    · rw [eg, List.map_append]
      have ee : [(x % m, xs ++ [x])].map grD = [.tuple [.int (x % m), .tuple (xs.map PyData.int ++ [.int x])]] := by
        show [grD _] = _
        unfold grD
        rw [List.map_append]
        rfl
      rw [ee]
      exact a8
  · intro σ H2 h
    obtain ⟨o3, o4, rfl, s2, e2, a2⟩ := h.out
    walk_at "go"
    rw [List.length_map, List.take_length] at a2
    exact q pf H2 nf s2 a2

theorem ok__law_all_done (T : Tx P K w mg) : FnOk P w K mg base CX0 1 T._law_all_done.f T._law_all_done.fd ["_law_deeds", "_law_item"]
    (fun vs H Q _ => ∃ (vd vi : V), vs = [vd, vi] ∧ Hold (∃ (ds : List Deed) (x : PyData) (k k' : Kd), Im K H vd (.tuple (ds.map Deed.d)) ∧ (∀ d ∈ ds, d.Ok) ∧ Im K H vi x ∧ Has k x ∧ kindAll ds k = some k' ∧
  ∀ v H', Same H H' → Im K H' v (doneAll ds x) → Q v H')) := by
  refine T._law_all_done.F.ok sc__law_all_done (fun vs H Q E h => ?_) (fun cdv A outer s H vs Q E hr h => ?_)
  · obtain ⟨a, vk, rfl, _⟩ := h
    rfl
  obtain ⟨vd, vi, rfl, h⟩ := h
  obtain ⟨ds, x, k, k', id, ok, ix, hx, hk, q⟩ := h.out
  obtain ⟨a, xs, rfl, ht, hs⟩ := id.t
  have len := hs.len
  rw [List.length_map] at len
  refine ⟨_, (pss_cons (ps_for PassesOwn.never rfl (pi_tup (pv 0)) (pg_name (i := 2) sc__law_all_done.nd rfl (by first | exact Or.inl rfl | exact Or.inr rfl)) (pss_one (ps_if (pt_cmpR op_eq (pe_ix ix_tupD (pv 2) pe_int (fun _ _ => rfl)) pe_str (nomark _)) (pss_one (ps_set (i := 1) sc__law_all_done.nd rfl (by first | exact Or.inl rfl | exact Or.inr rfl) (pe_op op_mod (pe_op op_add (pv 1) (pe_ix ix_tupD (pv 2) pe_int (fun _ _ => rfl))) pe_int))) (pss_one (ps_if (pt_cmpR op_eq (pe_ix ix_tupD (pv 2) pe_int (fun _ _ => rfl)) pe_str (nomark _)) (pss_one (ps_set (i := 1) sc__law_all_done.nd rfl (by first | exact Or.inl rfl | exact Or.inr rfl) (pe_op op_mod (pe_op op_mul (pv 1) (pe_ix ix_tupD (pv 2) pe_int (fun _ _ => rfl))) pe_int))) (pss_one (ps_if (pt_cmpR op_eq (pe_ix ix_tupD (pv 2) pe_int (fun _ _ => rfl)) pe_str (nomark _)) (pss_one (ps_set (i := 1) sc__law_all_done.nd rfl (by first | exact Or.inl rfl | exact Or.inr rfl) (pe_op op_mod (pe_op op_sub pe_int (pv 1)) pe_int))) (pss_one (ps_if (PW.pt (pw_or (pt_cmpR op_eq (pe_ix ix_tupD (pv 2) pe_int (fun _ _ => rfl)) pe_str (nomark _)) (pw_or1 (pt_cmpR op_eq (pe_ix ix_tupD (pv 2) pe_int (fun _ _ => rfl)) pe_str (nomark _))))) (pss_one (ps_set (i := 1) sc__law_all_done.nd rfl (by first | exact Or.inl rfl | exact Or.inr rfl) (pe_ix ix_tupD (pv 1) (pe_callTy call_int1 (by rfl) T.z_int (by decide +kernel) (pa_cons (pe_cmpR op_eq (pe_ix ix_tupD (pv 2) pe_int (fun _ _ => rfl)) pe_str (nomark _)) pa_nil)) (fun _ _ => rfl)))) (pss_one (ps_if (pt_cmpR op_eq (pe_ix ix_tupD (pv 2) pe_int (fun _ _ => rfl)) pe_str (nomark _)) (pss_one (ps_set (i := 1) sc__law_all_done.nd rfl (by first | exact Or.inl rfl | exact Or.inr rfl) (pe_td (pa_cons (pv 1) (pa_cons (pv 1) pa_nil))))) (pss_one (ps_if (pt_cmpR op_eq (pe_ix ix_tupD (pv 2) pe_int (fun _ _ => rfl)) pe_str (nomark _)) (pss_one (ps_set (i := 1) sc__law_all_done.nd rfl (by first | exact Or.inl rfl | exact Or.inr rfl) (pe_callB call_lenT (by rfl) T.z_len PySem.boot_len (pa_cons (pv 1) pa_nil)))) (pss_one (ps_set (i := 1) sc__law_all_done.nd rfl (by first | exact Or.inl rfl | exact Or.inr rfl) (pe_op op_mod (pe_callB (cr_sumT rfl) (by rfl) T.z_sum (by decide +kernel) (pa_cons (pv 1) pa_nil)) pe_int))))))))))))))))
      (pss_one (ps_ret (pv 1)))), ?_⟩
  refine ⟨_, rfl, a, rfl, ⟨_, ht⟩, for_tup (K := K) (a := a) (xs := xs) (fun i σ H2 => Hold (∃ (v : V) (o : Option V), σ = [some (.ref a), some v, o] ∧ Same H H2 ∧ Im K H2 v (doneAll (ds.take i) x)))
    (.mk ⟨vi, none, rfl, Same.refl H, ix⟩) (fun i σ H2 _ h => by obtain ⟨_, _, _, s2, _⟩ := h.out; exact (same_tk s2).t _ _ ht) ?_ ?_⟩
  · intro i y σ H2 hi h
    obtain ⟨v, o, rfl, s2, iv⟩ := h.out
    obtain ⟨d, hd, iy⟩ := hs.get hi
    rw [List.getElem?_map] at hd
    obtain ⟨d, hd', rfl⟩ := Option.map_eq_some_iff.mp hd
    obtain ⟨⟨k1, k2, h1, h2⟩, e⟩ := done_turn hx hk hd' ok
    have okd := ok _ (List.mem_of_getElem? hd')
    have iz := iy.u (same_tk s2)
    rw [e]
    generalize doneAll (ds.take i) x = x1 at iv h1
    cases d with
    | both =>
      walk_at "wds"
      refine ⟨[x1, x1], .cons iv (.cons iv .nil), by simp, fun p H3 s3 t3 i3 => ?_⟩
      exact .mk ⟨_, _, rfl, s2.trans s3, i3⟩
    | add n =>
      cases k1 with
      | num =>
        obtain ⟨i, rfl, i0, i1⟩ := h1.int
        obtain rfl := iv.i
        obtain ⟨n0, n1⟩ := okd
        walk_at "wds"
        walk_at "n1"
        exact .mk ⟨_, _, rfl, s2, .int _⟩
      | _ => cases h2
    | times n =>
      cases k1 with
      | num =>
        obtain ⟨i, rfl, i0, i1⟩ := h1.int
        obtain rfl := iv.i
        obtain ⟨n0, n1⟩ := okd
        walk_at "wds"
        walk_at "n1"
        exact .mk ⟨_, _, rfl, s2, .int _⟩
      | _ => cases h2
    | minus =>
      cases k1 with
      | num =>
        obtain ⟨i, rfl, i0, i1⟩ := h1.int
        obtain rfl := iv.i
        walk_at "wds"
        refine .mk ⟨_, _, rfl, s2, ?_⟩
        have e : (1000003 - i) % 1000003 = -i % 1000003 := by omega
        show Im K H2 (V.int ((1000003 - i) % 1000003)) (.int (-i % 1000003))
        rw [e]
        exact .int _
      | _ => cases h2
    | first =>
      cases k1 with
      | pair a b =>
        obtain ⟨y, z, rfl, _⟩ := h1.two
        walk_at "wds"
        refine ⟨_, _, 0, y, iv, rfl, rfl, rfl, fun u iu => ?_⟩
        exact .mk ⟨_, _, rfl, s2, iu⟩
      | _ => cases h2
    | second =>
      cases k1 with
      | pair a b =>
        obtain ⟨y, z, rfl, _⟩ := h1.two
        walk_at "wds"
        refine ⟨_, _, 1, z, iv, rfl, rfl, rfl, fun u iu => ?_⟩
        exact .mk ⟨_, _, rfl, s2, iu⟩
      | _ => cases h2
    | sum =>
      cases k1 with
      | row a =>
        cases a with
        | num =>
          cases h1 with
          | row h hl =>
            rename_i xs
            have e := Has.ints h
            obtain ⟨b, ys, rfl, ht, hs⟩ := iv.t
            rw [e] at hs
            rw [Ims.of_ints _ hs] at ht
            walk_at "wds"
            refine ⟨_, _, rfl, ht, ?_⟩
            walk_at "go"
            exact .mk ⟨_, _, rfl, s2, .int _⟩
        | _ => cases h2
      | _ => cases h2
    | many =>
      cases k1 with
      | row a =>
        cases h1 with
        | row h hl =>
          walk_at "wds"
          refine ⟨_, _, rfl, iv, ?_⟩
          exact .mk ⟨_, _, rfl, s2, .int _⟩
      | _ => cases h2
  · intro σ H2 h
    obtain ⟨v, o, rfl, s2, iv⟩ := h.out
    walk_at "go"
    rw [len, List.take_length] at iv
    exact q v H2 s2 iv

theorem ok__law_folded (T : Tx P K w mg) : FnOk P w K mg base CX0 1 T._law_folded.f T._law_folded.fd ["_law_word", "_law_one", "_law_other"]
    (fun vs H Q _ => ∃ (vw v1 v2 : V), vs = [vw, v1, v2] ∧ Hold (∃ (f : Fw) (a b : Int), vw = .str f.s ∧ v1 = .int a ∧ v2 = .int b ∧ Num a ∧ Num b ∧ ∀ H', Same H H' → Q (.int (foldF f a b)) H')) := by
  refine T._law_folded.F.ok sc__law_folded (fun vs H Q E h => ?_) (fun cdv A outer s H vs Q E hr h => ?_)
  · obtain ⟨a, vk, vj, rfl, _⟩ := h
    rfl
  obtain ⟨vw, v1, v2, rfl, h⟩ := h
  obtain ⟨f, a, b, rfl, rfl, rfl, ⟨ha1, ha2⟩, ⟨hb1, hb2⟩, q⟩ := h.out
  refine ⟨_, (pss_cons (ps_if (pt_cmpR op_eq (pv 0) pe_str (nomark _)) (pss_one (ps_ret (pe_op op_mod (pe_op op_add (pv 1) (pv 2)) pe_int))) pss_nil)
      (pss_cons (ps_if (pt_cmpR op_eq (pv 0) pe_str (nomark _)) (pss_one (ps_ret (pe_op op_mod (pe_op op_mul (pv 1) (pv 2)) pe_int))) pss_nil)
      (pss_one (ps_ret (pe_ix ix_selA (pe_ld (pa_cons (pe_callB (call_min2N rfl) (by rfl) T.z_min (by decide +kernel) (pa_cons (pv 1) (pa_cons (pv 2) pa_nil))) (pa_cons (pe_callB (call_max2N rfl) (by rfl) T.z_max (by decide +kernel) (pa_cons (pv 1) (pa_cons (pv 2) pa_nil))) pa_nil))) (pe_callTy call_int1 (by rfl) T.z_int (by decide +kernel) (pa_cons (pe_cmpR op_eq (pv 0) pe_str (nomark _)) pa_nil)) (fun _ _ => rfl)))))), ?_⟩
  cases f with
  | add => walk_at "go"; exact q H (Same.refl H)
  | times => walk_at "go"; exact q H (Same.refl H)
  | least =>
    walk_at "go"
    refine ⟨[.int (min a b), .int (max a b)], .cons (.int _) (.cons (.int _) .nil), by simp, fun p H1 n1 s1 t1 a1 => ?_⟩
    walk_at "go"
    refine ⟨_, _, _, false, rfl, a1, rfl, fun v iv => ?_⟩
    have iv : Im K H1 v (.int (min a b)) := iv
    obtain rfl := iv.i
    exact q H1 s1
  | most =>
    walk_at "go"
    refine ⟨[.int (min a b), .int (max a b)], .cons (.int _) (.cons (.int _) .nil), by simp, fun p H1 n1 s1 t1 a1 => ?_⟩
    walk_at "go"
    refine ⟨_, _, _, true, rfl, a1, rfl, fun v iv => ?_⟩
    have iv : Im K H1 v (.int (max a b)) := iv
    obtain rfl := iv.i
    exact q H1 s1

theorem ok__law_met (T : Tx P K w mg) : FnOk P w K mg base CX0 1 T._law_met.f T._law_met.fd ["_law_tests", "_law_number_here"]
    (fun vs H Q _ => ∃ (vt vn : V), vs = [vt, vn] ∧ Hold (∃ (ts : List Tst) (n : Int), Im K H vt (.tuple (ts.map Tst.d)) ∧ vn = .int n ∧ (∀ t ∈ ts, t.Ok) ∧ Q (.bl (ts.all fun t => holdsT t n)) H)) := by
  refine T._law_met.F.ok sc__law_met (fun vs H Q E h => ?_) (fun cdv A outer s H vs Q E hr h => ?_)
  · obtain ⟨a, vk, rfl, _⟩ := h
    rfl
  obtain ⟨vt, vn, rfl, h⟩ := h
  obtain ⟨ts, n, it, rfl, ok, q⟩ := h.out
  obtain ⟨a, xs, rfl, ht, hx⟩ := it.t
  have bad : ∀ {i : Nat} {t : Tst}, ts[i]? = some t → holdsT t n = false → (ts.all fun t => holdsT t n) = false := fun {i t} e h => by
    rw [List.all_eq_false]
    exact ⟨t, List.mem_of_getElem? e, by rw [h]; simp⟩
  refine ⟨_, (pss_cons (ps_for PassesOwn.never rfl (pi_tup (pv 0)) (pg_name (i := 2) sc__law_met.nd rfl (by first | exact Or.inl rfl | exact Or.inr rfl)) (pss_cons (ps_if (PW.pt (pw_or (PW.pt (pw_and (pt_cmpR op_eq (pe_ix ix_tupD (pv 2) pe_int (fun _ _ => rfl)) pe_str (nomark _)) (pw_and1 (pt_cmpR op_ge (pv 1) (pe_ix ix_tupD (pv 2) pe_int (fun _ _ => rfl)) (nomark _))))) (pw_or1 (PW.pt (pw_and (pt_cmpR op_eq (pe_ix ix_tupD (pv 2) pe_int (fun _ _ => rfl)) pe_str (nomark _)) (pw_and1 (pt_cmpR op_le (pv 1) (pe_ix ix_tupD (pv 2) pe_int (fun _ _ => rfl)) (nomark _)))))))) (pss_one (ps_ret pe_bl)) pss_nil)
      (pss_one (ps_if (PW.pt (pw_and (pt_cmpR op_eq (pe_ix ix_tupD (pv 2) pe_int (fun _ _ => rfl)) pe_str (nomark _)) (pw_and1 (pt_cmpR op_ne (pe_op op_mod (pv 1) (pe_ix ix_tupD (pv 2) pe_int (fun _ _ => rfl))) (pe_ix ix_tupD (pv 2) pe_int (fun _ _ => rfl)) (nomark _))))) (pss_one (ps_ret pe_bl)) pss_nil))))
      (pss_one (ps_ret pe_bl))), ?_⟩
  refine ⟨_, rfl, a, rfl, ⟨_, ht⟩, for_tup (K := K) (a := a) (xs := xs) (fun i σ H2 => Hold (∃ o, σ = [some (.ref a), some (.int n), o] ∧ H2 = H ∧ (ts.take i).all (fun t => holdsT t n) = true))
    (.mk ⟨none, rfl, rfl, rfl⟩) (fun i σ H2 _ h => by obtain ⟨_, _, e, _⟩ := h.out; rw [e]; exact ht) ?_ ?_⟩
  · intro i x σ H2 hi h
    obtain ⟨o, rfl, rfl, hall⟩ := h.out
    obtain ⟨d, hd, ix⟩ := hx.get hi
    rw [List.getElem?_map] at hd
    obtain ⟨t, ht', rfl⟩ := Option.map_eq_some_iff.mp hd
    have okt := ok t (List.mem_of_getElem? ht')
    have good : holdsT t n = true → (ts.take (i + 1)).all (fun t => holdsT t n) = true := fun h => by
      rw [take_succ ht', List.all_append, hall, Bool.true_and, List.all_cons, h]
      rfl
    walk_at "go"
    cases t with
    | below m =>
      refine ⟨_, 0, 0, _, ix, rfl, rfl, rfl, fun v iv => ?_⟩
      obtain rfl := iv.s
      walk_at "go"
      refine ⟨_, 1, 1, _, ix, rfl, rfl, rfl, fun v iv => ?_⟩
      obtain rfl := iv.i
      walk_at "go"
      refine ite_d (fun c => ?_) (fun c => ?_)
      · walk_at "go"
        rw [bad ht' (decide_eq_false (by omega))] at q
        exact q
      · walk_at "go"
        refine ⟨_, 0, 0, _, ix, rfl, rfl, rfl, fun v iv => ?_⟩
        obtain rfl := iv.s
        walk_at "go"
        refine ⟨_, 0, 0, _, ix, rfl, rfl, rfl, fun v iv => ?_⟩
        obtain rfl := iv.s
        walk_at "go"
        exact .mk ⟨_, rfl, rfl, good (decide_eq_true (by omega))⟩
    | over m =>
      refine ⟨_, 0, 0, _, ix, rfl, rfl, rfl, fun v iv => ?_⟩
      obtain rfl := iv.s
      walk_at "go"
      refine ⟨_, 0, 0, _, ix, rfl, rfl, rfl, fun v iv => ?_⟩
      obtain rfl := iv.s
      walk_at "go"
      refine ⟨_, 1, 1, _, ix, rfl, rfl, rfl, fun v iv => ?_⟩
      obtain rfl := iv.i
      walk_at "go"
      refine ite_d (fun c => ?_) (fun c => ?_)
      · walk_at "go"
        rw [bad ht' (decide_eq_false (by omega))] at q
        exact q
      · walk_at "go"
        refine ⟨_, 0, 0, _, ix, rfl, rfl, rfl, fun v iv => ?_⟩
        obtain rfl := iv.s
        walk_at "go"
        exact .mk ⟨_, rfl, rfl, good (decide_eq_true (by omega))⟩
    | rest m r =>
      obtain ⟨_, h0, h1⟩ := okt
      refine ⟨_, 0, 0, _, ix, rfl, rfl, rfl, fun v iv => ?_⟩
      obtain rfl := iv.s
      walk_at "go"
      refine ⟨_, 0, 0, _, ix, rfl, rfl, rfl, fun v iv => ?_⟩
      obtain rfl := iv.s
      walk_at "go"
      refine ⟨_, 0, 0, _, ix, rfl, rfl, rfl, fun v iv => ?_⟩
      obtain rfl := iv.s
      walk_at "go"
      refine ⟨_, 1, 1, _, ix, rfl, rfl, rfl, fun v iv => ?_⟩
      obtain rfl := iv.i
      walk_at "go"
      refine ⟨_, 2, 2, _, ix, rfl, rfl, rfl, fun v iv => ?_⟩
      obtain rfl := iv.i
      walk_at "go"
      rw [dec_vint]
      refine ite_nd (fun c => ?_) (fun c => ?_)
      · walk_at "go"
        rw [bad ht' (decide_eq_false c)] at q
        exact q
      · walk_at "go"
        exact .mk ⟨_, rfl, rfl, good (decide_eq_true c)⟩
  · intro σ H2 h
    obtain ⟨o, rfl, rfl, hall⟩ := h.out
    have e : ts.take xs.length = ts := by
      have := hx.len
      rw [List.length_map] at this
      rw [this, List.take_length]
    rw [e] at hall
    rw [hall] at q
    exact q

def spList (K : PySem.W.Frag) : Sp := fun vs H Q _ => ∃ (v1 v2 v3 : V), vs = [v1, v2, v3] ∧ Hold (∃ (l : Ln) (pm pl : Addr) (am al : List Addr) (made : List (List PyData)) (lists : List (List Int)) (ks : List Kd) (k : Kd) (sr : List Int),
  v2 = .ref pm ∧ v3 = .ref pl ∧ Im K H v1 l.d ∧ LL K H pm am made ∧ LL K H pl al (intsD lists) ∧ AllHas ks made ∧ placeOk l made.length lists.length sr = true ∧ numOk l = true ∧ kindL l ks = some k ∧
  (∀ row ∈ made, row.length ≤ 50000) ∧ (two l = true → ∀ row ∈ made, row.length ≤ 25000) ∧ OkLists lists ∧
  ∀ p H', H p = none → Same H H' → Acc K H' p (listD l made lists) → Q (.ref p) H')
/-- the places, among the first i, of the items that don't do -/
def badI (p : PyData → Bool) (row : List PyData) (i : Nat) : List Int := ((List.range i).filter fun j => !p (row.getD j .none)).map Int.ofNat
theorem badI_succ {p : PyData → Bool} {row : List PyData} {i : Nat} {x : PyData} (h : row[i]? = some x) : badI p row (i + 1) = badI p row i ++ if p x = true then [] else [(i : Int)] := by
  unfold badI
  have e : row.getD i .none = x := by rw [List.getD_eq_getElem?_getD, h]; rfl
  rw [List.range_succ, List.filter_append, List.map_append]
  cases c : p x
  · rw [List.filter_cons_of_pos (by rw [e, c]; rfl)]; rfl
  · rw [List.filter_cons_of_neg (by rw [e, c]; decide)]; rfl
theorem badI_len {p : PyData → Bool} {row : List PyData} {i : Nat} : (badI p row i).length ≤ i := by
  unfold badI
  rw [List.length_map]
  have := List.length_filter_le (fun j => !p (row.getD j .none)) (List.range i)
  rw [List.length_range] at this
  exact this
theorem tw_at (p : PyData → Bool) : ∀ (row : List PyData), (∀ j < (row.takeWhile p).length, p (row.getD j .none) = true) ∧ ((row.takeWhile p).length < row.length → p (row.getD (row.takeWhile p).length .none) = false) ∧
    row.take (row.takeWhile p).length = row.takeWhile p ∧ (row.takeWhile p).length ≤ row.length
  | [] => ⟨fun j h => by simp at h, fun h => by simp at h, rfl, Nat.le_refl _⟩
  | x :: xs => by
    obtain ⟨h1, h2, h3, h4⟩ := tw_at p xs
    cases c : p x
    · rw [List.takeWhile_cons_of_neg (by rw [c]; decide)]
      exact ⟨fun j h => by simp at h, fun _ => c, rfl, Nat.zero_le _⟩
    · rw [List.takeWhile_cons_of_pos c]
      refine ⟨fun j hj => ?_, fun h => h2 (Nat.lt_of_succ_lt_succ h), congrArg (x :: ·) h3, Nat.succ_le_succ h4⟩
      cases j with
      | zero => exact c
      | succ j => exact h1 j (Nat.lt_of_succ_lt_succ hj)
theorem bad_min (p : PyData → Bool) (row : List PyData) : (((row.takeWhile p).length : Nat) : Int) ∈ badI p row row.length ++ [(row.length : Int)] ∧ ∀ y ∈ badI p row row.length ++ [(row.length : Int)], (((row.takeWhile p).length : Nat) : Int) ≤ y := by
  obtain ⟨h1, h2, h3, h4⟩ := tw_at p row
  constructor
  · by_cases c : (row.takeWhile p).length < row.length
    · refine List.mem_append.mpr (.inl (List.mem_map.mpr ⟨_, List.mem_filter.mpr ⟨List.mem_range.mpr c, by rw [h2 c]; rfl⟩, rfl⟩))
    · refine List.mem_append.mpr (.inr (List.mem_singleton.mpr ?_))
      omega
  · intro y hy
    rcases List.mem_append.mp hy with hy | hy
    · obtain ⟨j, hj, rfl⟩ := List.mem_map.mp hy
      obtain ⟨_, g2⟩ := List.mem_filter.mp hj
      show _ ≤ ((j : Nat) : Int)
      by_cases c : j < (row.takeWhile p).length
      · rw [h1 j c] at g2; cases g2
      · omega
    · rw [List.mem_singleton.mp hy]
      omega
theorem ok__law_list (T : Tx P K w mg) : FnOk P w K mg base CX0 2 T._law_list.f T._law_list.fd ["_law_line", "_law_made", "_law_lists"] (spList K) := by
  refine T._law_list.F.ok sc__law_list (fun vs H Q E h => ?_) (fun cdv A outer s H vs Q E hr h => ?_)
  · obtain ⟨a, b, c, rfl, _⟩ := h
    rfl
  obtain ⟨v1, v2, v3, rfl, h⟩ := h
  obtain ⟨l, pm, pl, am, al, made, lists, ks, k, sr, rfl, rfl, iv, lm, ll, ah, hp, hn, hk, r5, r2, okl, q⟩ := h.out
  have got : ∀ {a : Int} {ka : Kd}, ks[a.toNat]? = some ka → ∃ b, am[a.toNat]? = some b ∧ Acc K H b (made.getD a.toNat []) ∧ ∀ x ∈ made.getD a.toNat [], Has ka x := fun h => by
    obtain ⟨e, f⟩ := ah.row h
    obtain ⟨b, h1, h2⟩ := lm.2.get e
    exact ⟨b, h1, h2, f⟩
  have nn : ∀ a ∈ l.names, 0 ≤ a := by
    cases l with
    | source k => intro a ha; cases ha
    | _ => 
      intro a ha
      have hp := List.all_eq_true.mp hp a ha
      rw [Bool.and_eq_true, decide_eq_true_eq] at hp
      exact hp.1
  have len : ∀ a : Int, (made.getD a.toNat []).length ≤ 50000 := fun a => getD_len r5 _
  refine ⟨_, (pss_cons (ps_set (i := 3) sc__law_list.nd rfl (by first | exact Or.inl rfl | exact Or.inr rfl) (pe_ix ix_tupD (pv 0) pe_int (fun _ _ => rfl)))
      (pss_cons (ps_if (pt_cmpR op_eq (pv 3) pe_str (nomark _)) (pss_one (ps_ret (pe_callTy call_listA (by rfl) T.z_list (by decide +kernel) (pa_cons (pe_ix ix_LL (pv 2) (pe_ix ix_tupD (pv 0) pe_int (fun _ _ => rfl)) (fun _ _ => rfl)) pa_nil)))) pss_nil)
      (pss_cons (ps_if (pt_cmpR op_eq (pv 3) pe_str (nomark _)) (pss_one (ps_ret (pe_op op_catL (pe_ix ix_LL (pv 1) (pe_ix ix_tupD (pv 0) pe_int (fun _ _ => rfl)) (fun _ _ => rfl)) (pe_ix ix_LL (pv 1) (pe_ix ix_tupD (pv 0) pe_int (fun _ _ => rfl)) (fun _ _ => rfl))))) pss_nil)
      (pss_cons (ps_if (pt_cmpR op_eq (pv 3) pe_str (nomark _)) (pss_one (ps_ret (pe_call (ok__law_merged T) hr (by rfl) T._law_merged.g T._law_merged.F.kp T._law_merged.b .nil pass0 (pa_cons (pe_ix ix_LL (pv 1) (pe_ix ix_tupD (pv 0) pe_int (fun _ _ => rfl)) (fun _ _ => rfl)) (pa_cons (pe_ix ix_LL (pv 1) (pe_ix ix_tupD (pv 0) pe_int (fun _ _ => rfl)) (fun _ _ => rfl)) pa_nil))))) pss_nil)
      (pss_cons (ps_if (pt_cmpR op_eq (pv 3) pe_str (nomark _)) (pss_cons (ps_set (i := 5) sc__law_list.nd rfl (by first | exact Or.inl rfl | exact Or.inr rfl) (pe_callB (call_min2N rfl) (by rfl) T.z_min (by decide +kernel) (pa_cons (pe_callB call_lenA (by rfl) T.z_len PySem.boot_len (pa_cons (pe_ix ix_LL (pv 1) (pe_ix ix_tupD (pv 0) pe_int (fun _ _ => rfl)) (fun _ _ => rfl)) pa_nil)) (pa_cons (pe_callB call_lenA (by rfl) T.z_len PySem.boot_len (pa_cons (pe_ix ix_LL (pv 1) (pe_ix ix_tupD (pv 0) pe_int (fun _ _ => rfl)) (fun _ _ => rfl)) pa_nil)) pa_nil))))
      (pss_one (ps_ret (pe_lc (own := [("_law_k", 9)]) (g := gName 9) (tt := tYes) rfl sc__law_list.nd (pi_range1 (by rfl) T.z_range (pa_cons (pv 5) pa_nil)) (blkOk_by (own := [("_law_k", 9)]) (N := ["_law_line", "_law_made", "_law_lists", "_law_word", "_law_items", "_law_many", "_law_found", "_law_item", "_law_bad", "_law_k"]) (sc := defScope s__law_list) (by decide +kernel)) (fun _ _ _ _ _ => pg_name (i := 9) sc__law_list.nd rfl (Or.inl rfl)) (fun _ _ _ _ _ => pts_nil) (fun _ _ _ _ _ => (pe_tdK (K := K) rfl (pa_cons (pe_ix (show IxR _ (rIxA K) from ix_listA) (pe_ix (show IxR _ (rIxLL K) from ix_LL) (pv 1) (pe_ix (show IxR _ (rIxD K) from ix_tupD) (pv 0) pe_int (fun _ _ => rfl)) (fun _ _ => rfl)) (pv 9) (fun _ _ => rfl)) (pa_cons (pe_ix (show IxR _ (rIxA K) from ix_listA) (pe_ix (show IxR _ (rIxLL K) from ix_LL) (pv 1) (pe_ix (show IxR _ (rIxD K) from ix_tupD) (pv 0) pe_int (fun _ _ => rfl)) (fun _ _ => rfl)) (pv 9) (fun _ _ => rfl)) pa_nil)))))))) pss_nil)
      (pss_cons (ps_if (pt_cmpR op_eq (pv 3) pe_str (nomark _)) (pss_cons (ps_set (i := 6) sc__law_list.nd rfl (by first | exact Or.inl rfl | exact Or.inr rfl) (pe_ld (pa_cons (pe_ix ix_tupD (pv 0) pe_int (fun _ _ => rfl)) pa_nil)))
      (pss_cons (ps_for PassesOwn.never rfl (pi_list (pe_ix ix_LL (pv 1) (pe_ix ix_tupD (pv 0) pe_int (fun _ _ => rfl)) (fun _ _ => rfl))) (pg_name (i := 7) sc__law_list.nd rfl (by first | exact Or.inl rfl | exact Or.inr rfl)) (pss_one (ps_expr (pe_bm PySem.F.plainAttrs_list PySem.F.slot_list_append PySem.F.type_list_append mt_appA (pv 6) (pa_cons (pe_call (ok__law_folded T) hr (by rfl) T._law_folded.g T._law_folded.F.kp T._law_folded.b .nil pass0 (pa_cons (pe_ix ix_tupD (pv 0) pe_int (fun _ _ => rfl)) (pa_cons (pe_ix ix_listA (pv 6) (pe_op op_sub (pe_callB call_lenA (by rfl) T.z_len PySem.boot_len (pa_cons (pv 6) pa_nil)) pe_int) (fun _ _ => rfl)) (pa_cons (pv 7) pa_nil)))) pa_nil)))))
      (pss_one (ps_ret (pe_slice sl_listD (pv 6) (po_some pe_int) po_none))))) pss_nil)
      (pss_cons (ps_set (i := 4) sc__law_list.nd rfl (by first | exact Or.inl rfl | exact Or.inr rfl) (pe_ix ix_LL (pv 1) (pe_ix ix_tupD (pv 0) pe_int (fun _ _ => rfl)) (fun _ _ => rfl)))
      (pss_cons (ps_if (pt_cmpR op_eq (pv 3) pe_str (nomark _)) (pss_one (ps_ret (pe_lc (own := [("_law_item", 7)]) (g := gName 7) (tt := tYes) rfl sc__law_list.nd (pi_list (pv 4)) (blkOk_by (own := [("_law_item", 7)]) (N := ["_law_line", "_law_made", "_law_lists", "_law_word", "_law_items", "_law_many", "_law_found", "_law_item", "_law_bad", "_law_k"]) (sc := defScope s__law_list) (by decide +kernel)) (fun _ _ _ _ _ => pg_name (i := 7) sc__law_list.nd rfl (Or.inl rfl)) (fun _ _ _ _ _ => pts_nil) (fun _ _ _ _ _ => (pe_call (ok__law_all_done T) hr (by rfl) T._law_all_done.g T._law_all_done.F.kp T._law_all_done.b .nil pass0 (pa_cons (pe_ix (show IxR _ (rIxD K) from ix_tupD) (pv 0) pe_int (fun _ _ => rfl)) (pa_cons (pv 7) pa_nil))))))) pss_nil)
      (pss_cons (ps_if (pt_cmpR op_eq (pv 3) pe_str (nomark _)) (pss_one (ps_ret (pe_lc (own := [("_law_item", 7)]) (g := gName 7) rfl sc__law_list.nd (pi_list (pv 4)) (blkOk_by (own := [("_law_item", 7)]) (N := ["_law_line", "_law_made", "_law_lists", "_law_word", "_law_items", "_law_many", "_law_found", "_law_item", "_law_bad", "_law_k"]) (sc := defScope s__law_list) (by decide +kernel)) (fun _ _ _ _ _ => pg_name (i := 7) sc__law_list.nd rfl (Or.inl rfl)) (fun _ _ _ _ _ => pts_one (pt_val (pe_call (ok__law_met T) hr (by rfl) T._law_met.g T._law_met.F.kp T._law_met.b .nil pass0 (pa_cons (pe_ix (show IxR _ (rIxD K) from ix_tupD) (pv 0) pe_int (fun _ _ => rfl)) (pa_cons (pv 7) pa_nil))))) (fun _ _ _ _ _ => (pv 7))))) pss_nil)
      (pss_cons (ps_if (pt_cmpR op_eq (pv 3) pe_str (nomark _)) (pss_cons (ps_setLc (i := 8) (own := [("_law_k", 9)]) (g := gName 9) rfl sc__law_list.nd rfl rfl (sw_true rfl rfl rfl (by decide +kernel)) (pi_range1 (by rfl) T.z_range (pa_cons (pe_callB call_lenA (by rfl) T.z_len PySem.boot_len (pa_cons (pv 4) pa_nil)) pa_nil)) (blkOk_by (own := [("_law_k", 9)]) (N := ["_law_line", "_law_made", "_law_lists", "_law_word", "_law_items", "_law_many", "_law_found", "_law_item", "_law_bad", "_law_k"]) (sc := defScope s__law_list) (by decide +kernel)) (fun _ _ _ _ _ => pg_name (i := 9) sc__law_list.nd rfl (Or.inl rfl)) (fun _ _ _ _ _ => pts_one (pt_not (pt_val (pe_call (ok__law_met T) hr (by rfl) T._law_met.g T._law_met.F.kp T._law_met.b .nil pass0 (pa_cons (pe_ix (show IxR _ (rIxD K) from ix_tupD) (pv 0) pe_int (fun _ _ => rfl)) (pa_cons (pe_ix (show IxR _ (rIxA K) from ix_listA) (pv 4) (pv 9) (fun _ _ => rfl)) pa_nil)))))) (fun _ _ _ _ _ => (pv 9)))
      (pss_one (ps_ret (pe_slice sl_listD (pv 4) po_none (po_some (pe_callB (cr_minL rfl) (by rfl) T.z_min (by decide +kernel) (pa_cons (pe_op op_catL (pv 8) (pe_ld (pa_cons (pe_callB call_lenA (by rfl) T.z_len PySem.boot_len (pa_cons (pv 4) pa_nil)) pa_nil))) pa_nil))))))) pss_nil)
      (pss_cons (ps_if (pt_cmpR op_eq (pv 3) pe_str (nomark _)) (pss_one (ps_ret (pe_slice sl_listD (pv 4) po_none (po_some (pe_ix ix_tupD (pv 0) pe_int (fun _ _ => rfl)))))) pss_nil)
      (pss_cons (ps_if (pt_cmpR op_eq (pv 3) pe_str (nomark _)) (pss_one (ps_ret (pe_slice sl_listD (pv 4) (po_some (pe_ix ix_tupD (pv 0) pe_int (fun _ _ => rfl))) po_none))) pss_nil)
      (pss_cons (ps_if (pt_cmpR op_eq (pv 3) pe_str (nomark _)) (pss_one (ps_ret (pe_call (ok__law_grouped T) hr (by rfl) T._law_grouped.g T._law_grouped.F.kp T._law_grouped.b .nil pass0 (pa_cons (pe_ix ix_tupD (pv 0) pe_int (fun _ _ => rfl)) (pa_cons (pv 4) pa_nil))))) pss_nil)
      (pss_one (ps_ret (pe_lc (own := [("_law_k", 9)]) (g := gName 9) (tt := tYes) rfl sc__law_list.nd (pi_range1 (by rfl) T.z_range (pa_cons (pe_callB (call_max2N rfl) (by rfl) T.z_max (by decide +kernel) (pa_cons pe_int (pa_cons (pe_op op_add (pe_op op_sub (pe_callB call_lenA (by rfl) T.z_len PySem.boot_len (pa_cons (pv 4) pa_nil)) (pe_ix ix_tupD (pv 0) pe_int (fun _ _ => rfl))) pe_int) pa_nil))) pa_nil)) (blkOk_by (own := [("_law_k", 9)]) (N := ["_law_line", "_law_made", "_law_lists", "_law_word", "_law_items", "_law_many", "_law_found", "_law_item", "_law_bad", "_law_k"]) (sc := defScope s__law_list) (by decide +kernel)) (fun _ _ _ _ _ => pg_name (i := 9) sc__law_list.nd rfl (Or.inl rfl)) (fun _ _ _ _ _ => pts_nil) (fun _ _ _ _ _ => (pe_callTy (show CallR _ _ (rTupleA K) from call_tupleA) (by rfl) T.z_tuple (by decide +kernel) (pa_cons (pe_slice (show SlR _ (rSlLD K) from sl_listD) (pv 4) (po_some (pv 9)) (po_some (pe_op op_add (pv 9) (pe_ix (show IxR _ (rIxD K) from ix_tupD) (pv 0) pe_int (fun _ _ => rfl))))) pa_nil))))))))))))))))))), ?_⟩
  cases l with
  | source s =>
    walk_at "wds"
    walk_at "n1"
    have hp : ((decide (0 ≤ s) && decide (s < lists.length)) && !decide (s ∈ sr)) = true := hp
    rw [Bool.and_eq_true, Bool.and_eq_true, decide_eq_true_eq, decide_eq_true_eq] at hp
    obtain ⟨⟨s0, s1⟩, _⟩ := hp
    have e : (intsD lists)[s.toNat]? = some ((lists.getD s.toNat []).map PyData.int) := by
      unfold intsD
      rw [List.getElem?_map, List.getD_eq_getElem?_getD, List.getElem?_eq_getElem (by omega)]
      rfl
    obtain ⟨b, h1, h2⟩ := ll.2.get e
    refine ⟨_, _, _, s.toNat, b, rfl, ll.1, rfl, by omega, h1, ?_⟩
    exact ⟨_, _, rfl, h2, fun p H2 n2 s2 t2 a2 => q p H2 n2 s2 a2⟩
  | chain a b =>
    obtain ⟨ka, kb, h1, h2, _⟩ := two_named rfl hk
    obtain ⟨x, x1, x2, _⟩ := got h1
    obtain ⟨y, y1, y2, _⟩ := got h2
    have a0 := nn a (by simp [Ln.names])
    have b0 := nn b (by simp [Ln.names])
    walk_at "wds"
    walk_at "n1"
    refine ⟨_, _, _, a.toNat, x, rfl, lm.1, rfl, by omega, x1, ?_⟩
    walk_at "go"
    walk_at "n2"
    refine ⟨_, _, _, b.toNat, y, rfl, lm.1, rfl, by omega, y1, ?_⟩
    have := len a
    have := len b
    exact ⟨_, _, _, _, rfl, rfl, x2, y2, by omega, fun p H2 n2 s2 t2 a2 => q p H2 n2 s2 a2⟩
  | merge a b =>
    obtain ⟨ka, kb, h1, h2, h3⟩ := two_named rfl hk
    have h3 : (if ka = .num ∧ kb = .num then some Kd.num else none) = some k := h3
    have c : ka = .num ∧ kb = .num := by
      by_cases c : ka = .num ∧ kb = .num
      · exact c
      · rw [if_neg c] at h3; cases h3
    obtain ⟨rfl, rfl⟩ := c
    obtain ⟨x, x1, x2, x3⟩ := got h1
    obtain ⟨y, y1, y2, y3⟩ := got h2
    rw [(ints_of x3).1] at x2
    rw [(ints_of y3).1] at y2
    have a0 := nn a (by simp [Ln.names])
    have b0 := nn b (by simp [Ln.names])
    walk_at "wds"
    walk_at "n1"
    refine ⟨_, _, _, a.toNat, x, rfl, lm.1, rfl, by omega, x1, ?_⟩
    walk_at "go"
    walk_at "n2"
    refine ⟨_, _, _, b.toNat, y, rfl, lm.1, rfl, by omega, y1, ?_⟩
    have := getD_len (r2 rfl) a.toNat
    have := getD_len (r2 rfl) b.toNat
    exact ⟨_, _, rfl, .mk ⟨_, _, _, _, rfl, rfl, x2, y2, by rw [List.length_map, List.length_map]; omega, fun p H2 n2 s2 a2 => q p H2 n2 s2 a2⟩⟩
  | take n a =>
    obtain ⟨ka, h1, _⟩ := one_named rfl hk
    obtain ⟨x, x1, x2, x3⟩ := got h1
    have a0 := nn a (by simp [Ln.names])
    walk_at "wds"
    walk_at "n2"
    refine ⟨_, _, _, a.toNat, x, rfl, lm.1, rfl, by omega, x1, ?_⟩
    walk_at "wds"
    walk_at "n1"
    have hn : (decide (0 ≤ n) && decide (n ≤ 9999)) = true := hn
    rw [Bool.and_eq_true, decide_eq_true_eq] at hn
    refine ⟨_, _, rfl, x2, fun p H2 n2 s2 t2 a2 => ?_⟩
    rw [cut_take _ _ hn.1] at a2
    exact q p H2 n2 s2 a2
  | skip n a =>
    obtain ⟨ka, h1, _⟩ := one_named rfl hk
    obtain ⟨x, x1, x2, x3⟩ := got h1
    have a0 := nn a (by simp [Ln.names])
    walk_at "wds"
    walk_at "n2"
    refine ⟨_, _, _, a.toNat, x, rfl, lm.1, rfl, by omega, x1, ?_⟩
    walk_at "wds"
    walk_at "n1"
    have hn : (decide (0 ≤ n) && decide (n ≤ 9999)) = true := hn
    rw [Bool.and_eq_true, decide_eq_true_eq] at hn
    refine ⟨_, _, rfl, x2, fun p H2 n2 s2 t2 a2 => ?_⟩
    rw [cut_drop _ _ hn.1] at a2
    exact q p H2 n2 s2 a2
  | group n a =>
    obtain ⟨ka, h1, h2⟩ := one_named rfl hk
    obtain ⟨rfl, rfl⟩ := ifnum h2
    obtain ⟨x, x1, x2, x3⟩ := got h1
    rw [(ints_of x3).1] at x2
    have a0 := nn a (by simp [Ln.names])
    have hn : (decide (1 ≤ n) && isNum n) = true := hn
    rw [Bool.and_eq_true, decide_eq_true_eq] at hn
    have := len a
    walk_at "wds"
    walk_at "n2"
    refine ⟨_, _, _, a.toNat, x, rfl, lm.1, rfl, by omega, x1, ?_⟩
    walk_at "wds"
    walk_at "n1"
    exact .mk ⟨n, x, _, rfl, rfl, by omega, x2, by rw [List.length_map]; omega, fun p H2 n2 s2 a2 => q p H2 n2 s2 a2⟩
  | map ds a =>
    obtain ⟨ka, h1, h2⟩ := one_named rfl hk
    obtain ⟨x, x1, x2, x3⟩ := got h1
    obtain ⟨xs, e0, i0⟩ := id x2
    have a0 := nn a (by simp [Ln.names])
    have hn : ((decide (1 ≤ ds.length) && decide (ds.length ≤ 64)) && ds.all deedNum) = true := hn
    rw [Bool.and_eq_true, List.all_eq_true] at hn
    have := len a
    walk_at "wds"
    walk_at "n2"
    refine ⟨_, _, _, a.toNat, x, rfl, lm.1, rfl, by omega, x1, ?_⟩
    walk_at "wds"
    refine ⟨⟨_, SqL.of e0⟩, fun L nL => ?_⟩
    refine loop_list (K := K) (a := x) (xs := xs) (fun j H2 => Hold (Same H H2 ∧ Acc K H2 L (((made.getD a.toNat []).take j).map (doneAll ds))))
      (.mk ⟨same_new nL, acc_nil upd_same⟩) (fun j H2 _ h => SqL.of (h.out.1 _ _ e0)) ?_ ?_
    · intro j y H2 hj h
      obtain ⟨s2, a2⟩ := h.out
      obtain ⟨d, hd, iy⟩ := i0.get hj
      have iy2 := iy.u (same_tk s2)
      have iv2 := iv.u (same_tk s2)
      walk_at "go"
      refine ⟨_, 1, 1, _, iv2, rfl, rfl, rfl, fun u iu => ?_⟩
      walk_at "go"
      refine .mk ⟨ds, d, ka, k, iu, fun d hd => deedNum_iff.mp (hn.2 d hd), iy2, x3 d (List.mem_of_getElem? hd), h2, fun z H3 s3 iz => ?_⟩
      obtain ⟨acc, ea, hla, b4, t4, a4⟩ := (a2.same s3).push iz (by rw [List.length_map, List.length_take]; omega)
      refine ⟨acc, ea, hla, .mk ⟨same_put (s2.trans s3) nL, by rw [take_succ hd, List.map_append]; exact a4⟩⟩
    · intro H2 h
      obtain ⟨s2, a2⟩ := h.out
      rw [i0.len, List.take_length] at a2
      exact q _ _ nL s2 a2
  | keep ts a =>
    obtain ⟨ka, h1, h2⟩ := one_named rfl hk
    obtain ⟨rfl, rfl⟩ := ifnum h2
    obtain ⟨x, x1, x2, x3⟩ := got h1
    obtain ⟨xs, e0, i0⟩ := id x2
    have a0 := nn a (by simp [Ln.names])
    have ok : ∀ t ∈ ts, t.Ok := fun t ht => tstNum_iff.mp (List.all_eq_true.mp (Bool.and_eq_true_iff.mp (show testsCan ts = true from hn)).2 t ht)
    have := len a
    walk_at "wds"
    walk_at "n2"
    refine ⟨_, _, _, a.toNat, x, rfl, lm.1, rfl, by omega, x1, ?_⟩
    walk_at "wds"
    refine ⟨⟨_, SqL.of e0⟩, fun L nL => ?_⟩
    refine loop_list (K := K) (a := x) (xs := xs) (fun j H2 => Hold (Same H H2 ∧ Acc K H2 L (((made.getD a.toNat []).take j).filter (met ts))))
      (.mk ⟨same_new nL, acc_nil upd_same⟩) (fun j H2 _ h => SqL.of (h.out.1 _ _ e0)) ?_ ?_
    · intro j y H2 hj h
      obtain ⟨s2, a2⟩ := h.out
      obtain ⟨d, hd, iy⟩ := i0.get hj
      obtain ⟨n, rfl, hN⟩ := (x3 d (List.mem_of_getElem? hd)).int
      obtain rfl := iy.i
      have iv2 := iv.u (same_tk s2)
      walk_at "go"
      refine ⟨_, 1, 1, _, iv2, rfl, rfl, rfl, fun u iu => ?_⟩
      walk_at "go"
      refine .mk ⟨ts, n, iu, rfl, ok, ?_⟩
      walk_at "go"
      have f1 : ∀ b, met ts (.int n) = b → [PyData.int n].filter (met ts) = if b = true then [PyData.int n] else [] := fun b e => by
        cases b
        · exact List.filter_cons_of_neg (by rw [e]; decide)
        · exact List.filter_cons_of_pos e
      by_cases c : met ts (.int n) = true
      · refine ite_t c ?_
        walk_at "go"
        obtain ⟨acc, ea, hla, b4, t4, a4⟩ := a2.push (.int n) (by
          have h1 := List.length_filter_le (met ts) ((made.getD a.toNat []).take j)
          rw [List.length_take] at h1
          omega)
        refine ⟨acc, ea, hla, .mk ⟨same_put s2 nL, by rw [take_succ hd, List.filter_append, f1 _ c]; exact a4⟩⟩
      · refine ite_f (Bool.eq_false_iff.mpr c) ?_
        refine .mk ⟨s2, by rw [take_succ hd, List.filter_append, f1 _ (Bool.eq_false_iff.mpr c), if_neg (by decide), List.append_nil]; exact a2⟩
    · intro H2 h
      obtain ⟨s2, a2⟩ := h.out
      rw [i0.len, List.take_length] at a2
      exact q _ _ nL s2 a2
  | whil ts a =>
    obtain ⟨ka, h1, h2⟩ := one_named rfl hk
    obtain ⟨rfl, rfl⟩ := ifnum h2
    obtain ⟨x, x1, x2, x3⟩ := got h1
    obtain ⟨xs, e0, i0⟩ := id x2
    have a0 := nn a (by simp [Ln.names])
    have ok : ∀ t ∈ ts, t.Ok := fun t ht => tstNum_iff.mp (List.all_eq_true.mp (Bool.and_eq_true_iff.mp (show testsCan ts = true from hn)).2 t ht)
    have := len a
    walk_at "wds"
    walk_at "n2"
    refine ⟨_, _, _, a.toNat, x, rfl, lm.1, rfl, by omega, x1, ?_⟩
    walk_at "wds"
    refine ⟨_, _, rfl, x2, ?_⟩
    walk_at "go"
    intro L nL
    refine loop_rng (lo := 0) (n := (made.getD a.toNat []).length) (fun j H2 => Hold (Same H H2 ∧ Acc K H2 L ((badI (met ts) (made.getD a.toNat []) j).map PyData.int)))
      (.mk ⟨same_new nL, acc_nil upd_same⟩) ?_ ?_
    · intro j H2 hj h
      obtain ⟨s2, a2⟩ := h.out
      have iv2 := iv.u (same_tk s2)
      have hd : (made.getD a.toNat [])[j]? = some ((made.getD a.toNat [])[j]) := List.getElem?_eq_getElem hj
      obtain ⟨n, en, hN⟩ := (x3 _ (List.mem_of_getElem? hd)).int
      rw [en] at hd
      have bl := badI_len (p := met ts) (row := made.getD a.toNat []) (i := j)
      walk_at "go"
      refine ⟨_, 1, 1, _, iv2, rfl, rfl, rfl, fun u iu => ?_⟩
      walk_at "go"
      refine ⟨_, _, _, j, _, rfl, x2.same s2, rfl, by omega, hd, fun v iv => ?_⟩
      obtain rfl := iv.i
      walk_at "go"
      refine .mk ⟨ts, n, iu, rfl, ok, ?_⟩
      walk_at "go"
      by_cases c : met ts (.int n) = true
      · refine ite_f (by rw [show (ts.all fun t => holdsT t n) = true from c]; rfl) ?_
        refine .mk ⟨s2, by rw [badI_succ hd, if_pos c, List.append_nil]; exact a2⟩
      · refine ite_t (by rw [show (ts.all fun t => holdsT t n) = false from Bool.eq_false_iff.mpr c]; rfl) ?_
        walk_at "go"
        obtain ⟨acc, ea, hla, b4, t4, a4⟩ := a2.push (.int (j : Int)) (by rw [List.length_map]; omega)
        refine ⟨acc, ea, hla, .mk ⟨same_put s2 nL, by rw [badI_succ hd, if_neg c, List.map_append]; rw [Int.zero_add]; exact a4⟩⟩
    · intro H2 h
      obtain ⟨s2, a2⟩ := h.out
      have bl := badI_len (p := met ts) (row := made.getD a.toNat []) (i := (made.getD a.toNat []).length)
      obtain ⟨m1, m2⟩ := bad_min (met ts) (made.getD a.toNat [])
      walk_at "go"
      refine ⟨_, _, rfl, x2.same s2, ?_⟩
      walk_at "go"
      refine ⟨[.int _], .cons (.int _) .nil, by simp, fun p3 H3 n3 s3 t3 a3 => ?_⟩
      walk_at "go"
      refine ⟨_, _, _, _, rfl, rfl, a2.same s3, a3, by rw [List.length_map]; show _ + 1 ≤ 1000000; omega, fun p4 H4 n4 s4 t4 a4 => ?_⟩
      refine ⟨_, _, _, rfl, (by rw [show [PyData.int ((made.getD a.toNat []).length : Int)] = [((made.getD a.toNat []).length : Int)].map PyData.int from rfl, ← List.map_append] at a4; exact a4), m1, m2, ?_⟩
      walk_at "go"
      refine ⟨_, _, rfl, ((x2.same s2).same s3).same s4, fun p5 H5 n5 s5 t5 a5 => ?_⟩
      rw [cut_take _ _ (by omega), Int.toNat_natCast, (tw_at _ _).2.2.1] at a5
      have S4 := s2.trans (s3.trans s4)
      exact q p5 H5 (S4.free n5) (S4.trans s5) a5
  | window n a =>
    obtain ⟨ka, h1, h2⟩ := one_named rfl hk
    obtain ⟨x, x1, x2, x3⟩ := got h1
    have a0 := nn a (by simp [Ln.names])
    have hn : (decide (1 ≤ n) && decide (n ≤ 9)) = true := hn
    rw [Bool.and_eq_true, decide_eq_true_eq, decide_eq_true_eq] at hn
    obtain ⟨n1, n9⟩ := hn
    have := len a
    walk_at "wds"
    walk_at "n2"
    refine ⟨_, _, _, a.toNat, x, rfl, lm.1, rfl, by omega, x1, ?_⟩
    walk_at "wds"
    refine ⟨_, _, rfl, x2, ?_⟩
    walk_at "go"
    walk_at "n1"
    intro L nL
    refine loop_rng (lo := 0) (n := (max 0 (((made.getD a.toNat []).length : Int) - n + 1)).toNat) (fun j H2 => Hold (Same H H2 ∧ Acc K H2 L ((List.range j).map fun k => PyData.tuple (((made.getD a.toNat []).drop k).take n.toNat))))
      (.mk ⟨same_new nL, acc_nil upd_same⟩) ?_ ?_
    · intro j H2 hj h
      obtain ⟨s2, a2⟩ := h.out
      have iv2 := iv.u (same_tk s2)
      walk_at "go"
      refine ⟨_, 1, 1, _, iv2, rfl, rfl, rfl, fun u iu => ?_⟩
      obtain rfl := iu.i
      walk_at "go"
      refine ⟨_, _, rfl, x2.same s2, fun p3 H3 n3 s3 t3 a3 => ?_⟩
      walk_at "go"
      refine ⟨_, _, rfl, a3, fun p4 H4 s4 t4 i4 => ?_⟩
      have e : cutD (made.getD a.toNat []) (some (0 + (j : Int))) (some (0 + (j : Int) + n)) = ((made.getD a.toNat []).drop j).take n.toNat := by
        obtain ⟨m, rfl⟩ := Int.eq_ofNat_of_zero_le (show 0 ≤ n by omega)
        rw [Int.zero_add]
        exact cut_win _ _ _ (by omega)
      rw [e] at i4
      obtain ⟨acc, ea, hla, b5, t5, a5⟩ := ((a2.same s3).same s4).push i4 (by rw [List.length_map, List.length_range]; omega)
      refine ⟨acc, ea, hla, .mk ⟨same_put (s2.trans (s3.trans s4)) nL, by rw [List.range_succ, List.map_append]; exact a5⟩⟩
    · intro H2 h
      obtain ⟨s2, a2⟩ := h.out
      rw [show (max 0 (((made.getD a.toNat []).length : Int) - n + 1)).toNat = (made.getD a.toNat []).length + 1 - n.toNat by omega] at a2
      exact q _ _ nL s2 a2
  | fold f n a =>
    obtain ⟨ka, h1, h2⟩ := one_named rfl hk
    obtain ⟨rfl, rfl⟩ := ifnum h2
    obtain ⟨x, x1, x2, x3⟩ := got h1
    obtain ⟨io, nu⟩ := ints_of x3
    have hl := len a
    have hN : Num n := isNum_iff.mp hn
    rw [← List.length_map (f := toI)] at hl
    rw [io] at x2
    generalize ens : (made.getD a.toNat []).map toI = ns at x2 nu hl
    have a0 := nn a (by simp [Ln.names])
    walk_at "wds"
    refine ⟨_, 2, 2, _, iv, rfl, rfl, rfl, fun u iu => ?_⟩
    obtain rfl := iu.i
    refine ⟨[.int n], .cons (.int _) .nil, by simp, fun pf H1 nf s1 t1 af => ?_⟩
    have iv1 := iv.u t1
    have lm1 := lm.same s1
    have x21 := x2.same s1
    obtain ⟨xs, e1, i1⟩ := id x21
    have ex := Ims.of_ints _ i1
    subst ex
    walk_at "go"
    refine ⟨_, 3, 3, _, iv1, rfl, rfl, rfl, fun u iu => ?_⟩
    obtain rfl := iu.i
    refine ⟨_, _, _, a.toNat, x, rfl, lm1.1, rfl, by omega, x1, ?_⟩
    have xf : x ≠ pf := by
      obtain ⟨_, e0⟩ := x2.at
      exact ne_of_none e0 nf
    walk_at "go"
    refine ⟨⟨_, SqL.of e1⟩, for_list (K := K) (a := x) (xs := ns.map V.int) (fun i σ H2 => Hold (∃ (o4 o5 o7 o8 o9 : Option V), σ = [some v1, some (.ref pm), some (.ref pl), some (.str "fold"), o4, o5, some (.ref pf), o7, o8, o9] ∧ Same H H2 ∧ H2 x = some (.lst (ns.map V.int)) ∧
        Acc K H2 pf ((n :: foldI f n (ns.take i)).map PyData.int)))
      (.mk ⟨none, none, none, none, none, rfl, s1, e1, af⟩) (fun i σ H2 _ h => by obtain ⟨_, _, _, _, _, _, _, e, _⟩ := h.out; exact SqL.of e) ?_ ?_⟩
    · intro i y σ H2 hi h
      obtain ⟨o4, o5, o7, o8, o9, rfl, s2, e2, a2⟩ := h.out
      rw [List.getElem?_map] at hi
      obtain ⟨z, hz, rfl⟩ := Option.map_eq_some_iff.mp hi
      have hi' := (List.getElem?_eq_some_iff.mp hz).1
      have iv2 := iv.u (same_tk s2)
      have fl : (foldI f n (ns.take i)).length = i := by rw [foldI_len, List.length_take]; omega
      have la := foldI_last (f := f) (ns := ns.take i) (n := n)
      have ln := foldl_num (f := f) (ns := ns.take i) hN (fun x hx => nu x (List.mem_of_mem_take hx))
      rw [List.length_take, Nat.min_eq_left (by omega)] at la
      walk_at "go"
      refine ⟨_, 1, 1, _, iv2, rfl, rfl, rfl, fun u iu => ?_⟩
      obtain rfl := iu.s
      walk_at "go"
      refine ⟨_, _, rfl, a2, ?_⟩
      walk_at "go"
      refine ⟨_, _, _, i, _, rfl, a2, rfl, by rw [List.length_map, List.length_cons, fl]; omega, by rw [List.getElem?_map, la]; rfl, fun v iv => ?_⟩
      obtain rfl := iv.i
      walk_at "go"
      refine .mk ⟨f, _, z, rfl, rfl, rfl, ln, nu z (List.mem_of_getElem? hz), fun H3 s3 => ?_⟩
      refine ⟨pf, _, _, _, rfl, rfl, a2.same s3, .int _, by rw [List.length_map, List.length_cons, fl]; omega, fun H4 b4 t4 a4 => ?_⟩
      refine .mk ⟨o4, o5, _, o8, o9, rfl, fun b u e => b4 _ _ (ne_of_none e nf) (s3 _ _ (s2 _ _ e)), b4 _ _ xf (s3 _ _ e2), ?_⟩
      rw [take_succ hz, foldI_snoc, ← List.cons_append, List.map_append]
      exact a4
    · intro σ H2 h
      obtain ⟨o4, o5, o7, o8, o9, rfl, s2, e2, a2⟩ := h.out
      rw [List.length_map, List.take_length] at a2
      walk_at "go"
      refine ⟨_, _, rfl, a2, fun p H3 n3 s3 t3 a3 => ?_⟩
      rw [cut_drop _ _ (by decide)] at a3
      have e : listD (.fold f n a) made lists = (foldI f n ns).map PyData.int := by rw [← ens]; rfl
      rw [e] at q
      exact q p H3 (s2.free n3) (s2.trans s3) a3
  | pair a b =>
    obtain ⟨ka, kb, h1, h2, _⟩ := two_named rfl hk
    obtain ⟨x, x1, x2, _⟩ := got h1
    obtain ⟨y, y1, y2, _⟩ := got h2
    have a0 := nn a (by simp [Ln.names])
    have b0 := nn b (by simp [Ln.names])
    have la := len a
    have lb := len b
    walk_at "wds"
    walk_at "n1"
    refine ⟨_, _, _, a.toNat, x, rfl, lm.1, rfl, by omega, x1, ?_⟩
    walk_at "go"
    refine ⟨_, _, rfl, x2, ?_⟩
    walk_at "go"
    walk_at "n2"
    refine ⟨_, _, _, b.toNat, y, rfl, lm.1, rfl, by omega, y1, ?_⟩
    walk_at "go"
    refine ⟨_, _, rfl, y2, ?_⟩
    walk_at "go"
    intro L nL
    generalize eA : made.getD a.toNat [] = A at x2 la
    generalize eB : made.getD b.toNat [] = B at y2 lb
    refine loop_rng (lo := 0) (n := (min (A.length : Int) (B.length : Int)).toNat) (fun j H2 => Hold (Same H H2 ∧ Acc K H2 L ((List.zipWith (fun x y => PyData.tuple [x, y]) A B).take j)))
      (.mk ⟨same_new nL, acc_nil upd_same⟩) ?_ ?_
    · intro j H2 hj h
      obtain ⟨s2, a2⟩ := h.out
      have iv2 := iv.u (same_tk s2)
      have lm2 := lm.same s2
      have hA : A[j]? = some (A[j]) := List.getElem?_eq_getElem (by omega)
      have hB : B[j]? = some (B[j]) := List.getElem?_eq_getElem (by omega)
      have hZ : (List.zipWith (fun x y => PyData.tuple [x, y]) A B)[j]? = some (.tuple [A[j], B[j]]) := by
        rw [List.getElem?_eq_getElem (by rw [List.length_zipWith]; omega), List.getElem_zipWith]
      walk_at "go"
      refine ⟨_, 1, 1, _, iv2, rfl, rfl, rfl, fun u iu => ?_⟩
      obtain rfl := iu.i
      refine ⟨_, _, _, a.toNat, x, rfl, lm2.1, rfl, by omega, x1, ?_⟩
      walk_at "go"
      refine ⟨_, _, _, j, _, rfl, x2.same s2, rfl, by omega, hA, fun v i1 => ?_⟩
      walk_at "go"
      refine ⟨_, 2, 2, _, iv2, rfl, rfl, rfl, fun u iu => ?_⟩
      obtain rfl := iu.i
      refine ⟨_, _, _, b.toNat, y, rfl, lm2.1, rfl, by omega, y1, ?_⟩
      walk_at "go"
      refine ⟨_, _, _, j, _, rfl, y2.same s2, rfl, by omega, hB, fun w i2 => ?_⟩
      refine ⟨[_, _], .cons i1 (.cons i2 .nil), by simp, fun p3 H3 s3 t3 i3 => ?_⟩
      obtain ⟨acc, ea, hla, b4, t4, a4⟩ := (a2.same s3).push i3 (by rw [List.length_take, List.length_zipWith]; omega)
      refine ⟨acc, ea, hla, .mk ⟨same_put (s2.trans s3) nL, by rw [take_succ hZ]; exact a4⟩⟩
    · intro H2 h
      obtain ⟨s2, a2⟩ := h.out
      rw [List.take_of_length_le (by rw [List.length_zipWith]; omega)] at a2
      have e : listD (.pair a b) made lists = List.zipWith (fun x y => PyData.tuple [x, y]) A B := by rw [← eA, ← eB]; rfl
      rw [e] at q
      exact q _ _ nL s2 a2

theorem ok__law_plain (T : Tx P K w mg) : FnOk P w K mg base CX0 3 T._law_plain.f T._law_plain.fd ["_law_weave", "_law_lists"] (spPlain K) := by
  refine T._law_plain.F.ok sc__law_plain (fun vs H Q E h => ?_) (fun cdv A outer s H vs Q E hr h => ?_)
  · obtain ⟨a, b, rfl, _⟩ := h
    rfl
  obtain ⟨v1, v2, rfl, h⟩ := h
  obtain ⟨lw, pl, al, ls, ks, lists, many, rfl, rfl, aw, lp, dw, lm, okl, q⟩ := h.out
  have gw := dw.good
  have tw := dw.tw
  have ln := dw.l24
  obtain ⟨xs, ew, iw⟩ := id aw
  refine ⟨_, (pss_cons (ps_set (i := 2) sc__law_plain.nd rfl (by first | exact Or.inl rfl | exact Or.inr rfl) (pe_lr pa_nil))
      (pss_cons (ps_for PassesOwn.never rfl (pi_list (pv 0)) (pg_name (i := 3) sc__law_plain.nd rfl (by first | exact Or.inl rfl | exact Or.inr rfl)) (pss_one (ps_expr (pe_bm PySem.F.plainAttrs_list PySem.F.slot_list_append PySem.F.type_list_append mt_appR (pv 2) (pa_cons (pe_call (ok__law_list T) hr (by rfl) T._law_list.g T._law_list.F.kp T._law_list.b .nil pass0 (pa_cons (pv 3) (pa_cons (pv 2) (pa_cons (pv 1) pa_nil)))) pa_nil)))))
      (pss_one (ps_ret (pv 2))))), ?_⟩
  walk_at "go"
  refine ⟨by simp, fun pm H1 nm s1 t1 em => ?_⟩
  walk_at "go"
  refine ⟨⟨_, SqL.of (s1 _ _ ew)⟩, for_list (K := K) (a := lw) (xs := xs) (fun i σ H2 => Hold (∃ (o3 : Option V) (am : List Addr), σ = [some (.ref lw), some (.ref pl), some (.ref pm), o3] ∧ Same H H2 ∧ (∀ a ∈ am, H a = none) ∧ pm ∉ am ∧ am.Nodup ∧ LL K H2 pm am (plainD (ls.take i) lists)))
    (.mk ⟨none, [], rfl, s1, (fun _ h => by cases h), (fun h => by cases h), List.nodup_nil, em, .nil⟩) (fun i σ H2 _ h => by obtain ⟨_, _, _, s2, _⟩ := h.out; exact SqL.of (s2 _ _ ew)) ?_ ?_⟩
  · intro i y σ H2 hi h
    obtain ⟨o3, am, rfl, s2, fr, pam, nd, lm2⟩ := h.out
    obtain ⟨d, hd, iy⟩ := iw.get hi
    rw [List.getElem?_map] at hd
    obtain ⟨l, hl, rfl⟩ := Option.map_eq_some_iff.mp hd
    have hi' := (List.getElem?_eq_some_iff.mp hl).1
    obtain ⟨k, _, g2, g3, g4, _, _⟩ := gw.at hl
    have tn := twos_next hl
    obtain ⟨ah, rl⟩ := plain_ok (gw.take i) okl (by omega)
    have p7 : 2 ^ twos (ls.take i) ≤ 2 ^ 7 := Nat.pow_le_pow_right (by decide) (by omega)
    walk_at "go"
    refine ⟨lst_ty lm2.1, ?_⟩
    walk_at "go"
    refine .mk ⟨l, pm, pl, am, al, plainD (ls.take i) lists, lists, ks.take i, k, srcs (ls.take i), rfl, rfl, iy.u (same_tk s2), lm2, lp.same s2, ah, ?_, g3, g4, fun row hr => ?_, fun h2 row hr => ?_, okl, fun p H3 n3 s3 a3 => ?_⟩
    · rw [plainD_len, List.length_take, Nat.min_eq_left (by omega), lm]
      exact g2
    · have := rl row hr
      omega
    · rw [if_pos h2] at tn
      have p6 : 2 ^ twos (ls.take i) ≤ 2 ^ 6 := Nat.pow_le_pow_right (by decide) (by omega)
      have := rl row hr
      omega
    · have pne : pm ≠ p := ne_of_none lm2.1 n3
      have pin := lm2.2.fresh n3
      refine ⟨pm, _, _, rfl, rfl, (lm2.same s3).1, by rw [List.length_map, lm2.2.len, plainD_len, List.length_take]; omega, fun H4 b4 t4 e4 => ?_⟩
      refine .mk ⟨_, am ++ [p], rfl, fun b u e => b4 _ _ (ne_of_none e nm) (s3 _ _ (s2 _ _ e)), fun a ha => ?_, fun ha => ?_, ?_, by rw [e4, List.map_append]; rfl, ?_⟩
      · rcases List.mem_append.mp ha with ha | ha
        · exact fr a ha
        · rw [List.mem_singleton.mp ha]; exact s2.free n3
      · rcases List.mem_append.mp ha with ha | ha
        · exact pam ha
        · exact pne (List.mem_singleton.mp ha)
      · rw [List.nodup_append]
        refine ⟨nd, by simp, fun a ha b hb => ?_⟩
        rw [List.mem_singleton.mp hb]
        intro z
        exact pin (z ▸ ha)
      · rw [take_succ hl, plainD_snoc]
        exact ((lm2.2.same s3).but b4 t4 pam).snoc (a3.but b4 t4 pne.symm)
  · intro σ H2 h
    obtain ⟨o3, am, rfl, s2, fr, pam, nd, lm2⟩ := h.out
    rw [iw.len, List.length_map, List.take_length] at lm2
    walk_at "go"
    exact q pm H2 am nm fr pam nd s2 lm2

theorem ok_Run_asked (T : Tx P K w mg) : FnOk P w K mg base CX0 1 T.Run_asked.f T.Run_asked.fd ["self"] (spTold K T.cs Ms.asks) := by
  refine T.Run_asked.F.ok sc_Run_asked (fun vs H Q E h => ?_) (fun cdv A outer s H vs Q E hr h => ?_)
  · obtain ⟨a, rfl, _⟩ := h
    rfl
  obtain ⟨v, rfl, h⟩ := h
  obtain ⟨C, B, y, S, rfl, R, q⟩ := h.out
  have hru := R.ru trivial
  have hso := R.so trivial
  have as := R.sa trivial
  refine ⟨_, (pss_one (ps_ret (pe_callTy call_listA (by rfl) T.z_list (by decide +kernel) (pa_cons (pe_fld (pe_fld (pv 0) rfl) rfl) pa_nil)))), ?_⟩
  walk_at "go"
  walk_at "f"
  walk_at "f"
  walk_at "go"
  refine ⟨_, _, rfl, as, fun p H1 n1 s1 t1 a1 => ?_⟩
  exact q p H1 n1 s1 a1

def spNumber (K : PySem.W.Frag) : Sp := fun vs H Q _ => ∃ (D : Addr), vs = [.ref D] ∧ IsDice K H D ∧
  ∀ (r : Int) H', Num r → IsDice K H' D → But D H H' → Q (.int r) H'
theorem ok__law_number (T : Tx P K w mg) : FnOk P w K mg base CX0 2 T._law_number.f T._law_number.fd ["_law_d"] (spNumber K) := by
  refine T._law_number.F.ok sc__law_number (fun vs H Q E h => ?_) (fun cdv A outer s H vs Q E hr h => ?_)
  · obtain ⟨a, rfl, _⟩ := h
    rfl
  obtain ⟨D, rfl, hD, q⟩ := h
  refine ⟨_, (pss_cons (ps_if (pt_cmpR op_eq (pe_call (ok__law_next T) hr (by rfl) T._law_next.g T._law_next.F.kp T._law_next.b .nil pass0 (pa_cons (pv 0) (pa_cons pe_int pa_nil))) pe_int (nomark _)) (pss_one (ps_ret (pe_call (ok__law_next T) hr (by rfl) T._law_next.g T._law_next.F.kp T._law_next.b .nil pass0 (pa_cons (pv 0) (pa_cons pe_int pa_nil))))) pss_nil)
      (pss_one (ps_ret (pe_call (ok__law_next T) hr (by rfl) T._law_next.g T._law_next.F.kp T._law_next.b .nil pass0 (pa_cons (pv 0) (pa_cons pe_int pa_nil)))))), ?_⟩
  walk_at "go"
  intro r H1 a1 a2 d1 b1
  walk_at "go"
  refine ite_d (fun c => ?_) (fun c => ?_)
  · walk_at "go"
    intro r2 H2 a3 a4 d2 b2
    exact q _ _ ⟨a3, a4⟩ d2 (b1.trans b2)
  · walk_at "go"
    intro r2 H2 a3 a4 d2 b2
    exact q _ _ ⟨a3, by omega⟩ d2 (b1.trans b2)

def spLike (K : PySem.W.Frag) (n : Nat) : Sp := fun vs H Q _ => ∃ (v w : V), vs = [v, w] ∧ Hold (∃ d, Dp K H v d ∧ Dp K H w d ∧ lk d = true ∧ d.depth < n ∧ Q (.bl true) H)
theorem like_step (T : Tx P K w mg) {n : Nat} (ih : FnOk P w K mg base CX0 n T._law_like.f T._law_like.fd ["_law_found", "_law_due"] (spLike K n)) : FnOk P w K mg base CX0 (n + 1) T._law_like.f T._law_like.fd ["_law_found", "_law_due"] (spLike K (n + 1)) := by
  refine T._law_like.F.ok sc__law_like (fun vs H Q E h => ?_) (fun cdv A outer s H vs Q E hr h => ?_)
  · obtain ⟨a, vk, rfl, _⟩ := h
    rfl
  obtain ⟨v, u, rfl, h⟩ := h
  obtain ⟨d, hv, hu, hl, hd, q⟩ := h.out
  refine ⟨_, (pss_cons (ps_if (pt_val (pe_callB call_isD (by rfl) T.z_isinstance (by decide +kernel) (pa_cons (pv 1) (pa_cons (pe_bltn (v := .ty "str") (u := .type "str") (by rfl) T.z_str (by decide +kernel) rfl) pa_nil)))) (pss_one (ps_ret (pe_and (pe_callB call_isD (by rfl) T.z_isinstance (by decide +kernel) (pa_cons (pv 0) (pa_cons (pe_bltn (v := .ty "str") (u := .type "str") (by rfl) T.z_str (by decide +kernel) rfl) pa_nil))) (pe_one (pe_cmpR op_eq (pv 0) (pv 1) (nomark _)))))) pss_nil)
      (pss_cons (ps_if (pt_val (pe_callB call_isD (by rfl) T.z_isinstance (by decide +kernel) (pa_cons (pv 1) (pa_cons (pe_bltn (v := .ty "int") (u := .type "int") (by rfl) T.z_int (by decide +kernel) rfl) pa_nil)))) (pss_one (ps_ret (pe_and (pe_callB call_isD (by rfl) T.z_isinstance (by decide +kernel) (pa_cons (pv 0) (pa_cons (pe_bltn (v := .ty "int") (u := .type "int") (by rfl) T.z_int (by decide +kernel) rfl) pa_nil))) (pe_and (pe_not (pe_callB call_isD (by rfl) T.z_isinstance (by decide +kernel) (pa_cons (pv 0) (pa_cons (pe_bltn (v := .ty "bool") (u := .type "bool") (by rfl) T.z_bool (by decide +kernel) rfl) pa_nil)))) (pe_one (pe_cmpR op_eq (pv 0) (pv 1) (nomark _))))))) pss_nil)
      (pss_cons (ps_if (pt_cmpR op_isN (pv 1) pe_non (nomark _)) (pss_one (ps_ret (pe_cmpR op_isN (pv 0) pe_non (nomark _)))) pss_nil)
      (pss_cons (ps_if (PW.pt (pw_or (pt_cmpR op_ne (pe_callB call_isD (by rfl) T.z_isinstance (by decide +kernel) (pa_cons (pv 1) (pa_cons (pe_bltn (v := .ty "tuple") (u := .type "tuple") (by rfl) T.z_tuple (by decide +kernel) rfl) pa_nil))) (pe_callB call_isD (by rfl) T.z_isinstance (by decide +kernel) (pa_cons (pv 0) (pa_cons (pe_bltn (v := .ty "tuple") (u := .type "tuple") (by rfl) T.z_tuple (by decide +kernel) rfl) pa_nil))) (nomark _)) (pw_or1 (pt_cmpR op_ne (pe_callB call_isD (by rfl) T.z_isinstance (by decide +kernel) (pa_cons (pv 1) (pa_cons (pe_bltn (v := .ty "list") (u := .type "list") (by rfl) T.z_list (by decide +kernel) rfl) pa_nil))) (pe_callB call_isD (by rfl) T.z_isinstance (by decide +kernel) (pa_cons (pv 0) (pa_cons (pe_bltn (v := .ty "list") (u := .type "list") (by rfl) T.z_list (by decide +kernel) rfl) pa_nil))) (nomark _))))) (pss_one (ps_ret pe_bl)) pss_nil)
      (pss_cons (ps_if (pt_cmpR op_ne (pe_callB call_lenP (by rfl) T.z_len PySem.boot_len (pa_cons (pv 0) pa_nil)) (pe_callB call_lenP (by rfl) T.z_len PySem.boot_len (pa_cons (pv 1) pa_nil)) (nomark _)) (pss_one (ps_ret pe_bl)) pss_nil)
      (pss_cons (ps_for PassesOwn.never rfl (pi_range1 (by rfl) T.z_range (pa_cons (pe_callB call_lenP (by rfl) T.z_len PySem.boot_len (pa_cons (pv 1) pa_nil)) pa_nil)) (pg_name (i := 2) sc__law_like.nd rfl (by first | exact Or.inl rfl | exact Or.inr rfl)) (pss_one (ps_if (pt_not (pt_val (pe_call ih hr (by rfl) T._law_like.g T._law_like.F.kp T._law_like.b .nil pass0 (pa_cons (pe_ix ix_P (pv 0) (pv 2) (fun _ _ => rfl)) (pa_cons (pe_ix ix_P (pv 1) (pv 2) (fun _ _ => rfl)) pa_nil))))) (pss_one (ps_ret pe_bl)) pss_nil)))
      (pss_one (ps_ret pe_bl)))))))), ?_⟩
  walk_at "go"
  cases d with
  | dict z => cases hl
  | bool z => cases hl
  | str x =>
    obtain rfl := Dp_s hv
    obtain rfl := Dp_s hu
    refine ⟨_, "str", _, true, rfl, hu, (by show kitB "str" "str" = some true; decide +kernel), ?_⟩
    walk_at "go"
    refine ⟨_, "str", _, true, rfl, hu, (by show kitB "str" "str" = some true; decide +kernel), ?_⟩
    walk_at "go"
    rw [decide_eq_true rfl]
    exact q
  | int x =>
    obtain rfl := Dp_i hv
    obtain rfl := Dp_i hu
    refine ⟨_, "str", _, false, rfl, hu, (by show kitB "int" "str" = some false; decide +kernel), ?_⟩
    walk_at "go"
    refine ⟨_, "int", _, true, rfl, hu, (by show kitB "int" "int" = some true; decide +kernel), ?_⟩
    walk_at "go"
    refine ⟨_, "int", _, true, rfl, hu, (by show kitB "int" "int" = some true; decide +kernel), ?_⟩
    walk_at "go"
    refine ⟨_, "bool", _, false, rfl, hu, (by show kitB "int" "bool" = some false; decide +kernel), ?_⟩
    walk_at "go"
    rw [decide_eq_true rfl]
    exact q
  | none =>
    obtain rfl := Dp_n hv
    obtain rfl := Dp_n hu
    refine ⟨_, "str", _, false, rfl, hu, (by show kitB "NoneType" "str" = some false; decide +kernel), ?_⟩
    walk_at "go"
    refine ⟨_, "int", _, false, rfl, hu, (by show kitB "NoneType" "int" = some false; decide +kernel), ?_⟩
    walk_at "go"
    exact q
  | tuple ds =>
    have hl : (decide (ds.length ≤ 100000000) && lks ds) = true := hl
    rw [Bool.and_eq_true] at hl
    obtain ⟨hl1, hl2⟩ := hl
    have hl1 := of_decide_eq_true hl1
    have hd : PyData.depthAll ds + 1 < n + 1 := hd
    obtain ⟨b, rfl⟩ : ∃ b, u = .ref b := by cases hu; exact ⟨_, rfl⟩
    refine ⟨_, "str", _, false, rfl, hu, (by show kitB "tuple" "str" = some false; decide +kernel), ?_⟩
    walk_at "go"
    refine ⟨_, "int", _, false, rfl, hu, (by show kitB "tuple" "int" = some false; decide +kernel), ?_⟩
    walk_at "go"
    refine ⟨_, "tuple", _, true, rfl, hu, (by show kitB "tuple" "tuple" = some true; decide +kernel), ?_⟩
    walk_at "go"
    refine ⟨_, "tuple", _, true, rfl, hv, (by show kitB "tuple" "tuple" = some true; decide +kernel), ?_⟩
    walk_at "go"
    refine ⟨_, "list", _, false, rfl, hu, (by show kitB "tuple" "list" = some false; decide +kernel), ?_⟩
    walk_at "go"
    refine ⟨_, "list", _, false, rfl, hv, (by show kitB "tuple" "list" = some false; decide +kernel), ?_⟩
    walk_at "go"
    refine ite_f (by rw [decide_eq_true rfl]; rfl) ?_
    walk_at "go"
    refine for_range (lo := 0) (n := ds.length) (fun i σ H2 => Hold (∃ o, σ = [some v, some (.ref b), o] ∧ H2 = H)) (.mk ⟨none, rfl, rfl⟩) ?_ ?_
    · rintro i σ H2 hi h
      obtain ⟨o, rfl, rfl⟩ := h.out
      have hi' : ds[i]? = some ds[i] := List.getElem?_eq_getElem hi
      walk_at "go"
      refine ⟨_, _, i, _, .inl hv, rfl, by omega, hi', fun x hx => ?_⟩
      walk_at "go"
      refine ⟨_, _, i, _, .inl hu, rfl, by omega, hi', fun y hy => ?_⟩
      have dg := depth_get hi'
      refine ⟨_, _, rfl, .mk ⟨ds[i], hx, hy, lks_get hl2 hi', by omega, ?_⟩⟩
      walk_at "go"
      exact .mk ⟨_, rfl, rfl⟩
    · rintro σ H2 h
      obtain ⟨o, rfl, rfl⟩ := h.out
      exact q
  | list ds =>
    have hl : (decide (ds.length ≤ 100000000) && lks ds) = true := hl
    rw [Bool.and_eq_true] at hl
    obtain ⟨hl1, hl2⟩ := hl
    have hl1 := of_decide_eq_true hl1
    have hd : PyData.depthAll ds + 1 < n + 1 := hd
    obtain ⟨b, rfl⟩ : ∃ b, u = .ref b := by cases hu; exact ⟨_, rfl⟩
    refine ⟨_, "str", _, false, rfl, hu, (by show kitB "list" "str" = some false; decide +kernel), ?_⟩
    walk_at "go"
    refine ⟨_, "int", _, false, rfl, hu, (by show kitB "list" "int" = some false; decide +kernel), ?_⟩
    walk_at "go"
    refine ⟨_, "tuple", _, false, rfl, hu, (by show kitB "list" "tuple" = some false; decide +kernel), ?_⟩
    walk_at "go"
    refine ⟨_, "tuple", _, false, rfl, hv, (by show kitB "list" "tuple" = some false; decide +kernel), ?_⟩
    walk_at "go"
    refine ⟨_, "list", _, true, rfl, hu, (by show kitB "list" "list" = some true; decide +kernel), ?_⟩
    walk_at "go"
    refine ⟨_, "list", _, true, rfl, hv, (by show kitB "list" "list" = some true; decide +kernel), ?_⟩
    walk_at "go"
    refine ite_f (by rw [decide_eq_true rfl]; rfl) ?_
    walk_at "go"
    refine for_range (lo := 0) (n := ds.length) (fun i σ H2 => Hold (∃ o, σ = [some v, some (.ref b), o] ∧ H2 = H)) (.mk ⟨none, rfl, rfl⟩) ?_ ?_
    · rintro i σ H2 hi h
      obtain ⟨o, rfl, rfl⟩ := h.out
      have hi' : ds[i]? = some ds[i] := List.getElem?_eq_getElem hi
      walk_at "go"
      refine ⟨_, _, i, _, .inr hv, rfl, by omega, hi', fun x hx => ?_⟩
      walk_at "go"
      refine ⟨_, _, i, _, .inr hu, rfl, by omega, hi', fun y hy => ?_⟩
      have dg := depth_get hi'
      refine ⟨_, _, rfl, .mk ⟨ds[i], hx, hy, lks_get hl2 hi', by omega, ?_⟩⟩
      walk_at "go"
      exact .mk ⟨_, rfl, rfl⟩
    · rintro σ H2 h
      obtain ⟨o, rfl, rfl⟩ := h.out
      exact q
theorem like_n (T : Tx P K w mg) : ∀ n : Nat, FnOk P w K mg base CX0 n T._law_like.f T._law_like.fd ["_law_found", "_law_due"] (spLike K n)
  | 0 => by
    have no : ∀ vs H Q E, ¬ spLike K 0 vs H Q E := fun vs H Q E h => by
      obtain ⟨v, w, _, h⟩ := h
      obtain ⟨d, _, _, _, h, _⟩ := h.out
      omega
    exact ⟨fun vs H Q E h => absurd h (no vs H Q E), fun A outer s H args us vs Q E _ _ _ _ h => absurd h (no vs H Q E)⟩
  | n + 1 => like_step T (like_n T n)
theorem ok__law_like (T : Tx P K w mg) : FnOk P w K mg base CX0 15 T._law_like.f T._law_like.fd ["_law_found", "_law_due"] (spLike K 15) := like_n T 15

theorem ok_ListedSources_ask (T : Tx P K w mg) (C : Ct) : FnOk P w K mg base CX0 1 T.ListedSources_ask.f T.ListedSources_ask.fd ["self", "k"] (spAsk K T.cs C) := by
  refine T.ListedSources_ask.F.ok sc_ListedSources_ask (fun vs H Q E h => ?_) (fun cdv A outer s H vs Q E hr h => ?_)
  · obtain ⟨a, b, rfl, _⟩ := h
    rfl
  obtain ⟨v1, v2, rfl, h⟩ := h
  obtain ⟨B, has, y, S, k, d, S', rfl, rfl, cr, R, hm, q⟩ := h.out
  obtain ⟨⟨k0, kn, ke, n0, n1, ak⟩, hm⟩ := gd_some hm
  have hso := R.so cr.so
  have asa := R.sa cr.sa
  have hk : S.nexts[k.toNat]? = some (S.nexts.getD k.toNat 0) := by
    rw [List.getD_eq_getElem?_getD, List.getElem?_eq_getElem kn]; rfl
  generalize S.nexts.getD k.toNat 0 = n at hk hm n0 n1
  have hr1 : (List.range C.lists.length)[k.toNat]? = some k.toNat := List.getElem?_range (by omega)
  have hrow : (C.lists.getD k.toNat []).length = (C.lists.getD k.toNat []).length := rfl
  refine ⟨_, (pss_cons (ps_expr (pe_bm PySem.F.plainAttrs_list PySem.F.slot_list_append PySem.F.type_list_append mt_appA (pe_fld (pv 0) rfl) (pa_cons (pv 1) pa_nil)))
      (pss_cons (ps_set (i := 2) sc_ListedSources_ask.nd rfl (by first | exact Or.inl rfl | exact Or.inr rfl) (pe_ix ix_listA (pe_fld (pv 0) rfl) (pv 1) (fun _ _ => rfl)))
      (pss_cons (ps_if (pt_cmpR op_eq (pv 2) (pe_callB call_lenA (by rfl) T.z_len PySem.boot_len (pa_cons (pe_ix ix_LL (pe_fld (pv 0) rfl) (pv 1) (fun _ _ => rfl)) pa_nil)) (nomark _)) (pss_one (ps_ret pe_non)) pss_nil)
      (pss_cons (ps_asg (pe_op op_add (pv 2) pe_int) (pg_sub (pe_fld (pv 0) rfl) (pv 1) set_listN))
      (pss_one (ps_ret (pe_ix ix_listA (pe_ix ix_LL (pe_fld (pv 0) rfl) (pv 1) (fun _ _ => rfl)) (pv 2) (fun _ _ => rfl)))))))), ?_⟩
  walk_at "go"
  walk_at "f"
  walk_at "go"
  refine ⟨_, _, _, _, rfl, rfl, asa, .int k, by rw [List.length_map]; omega, fun H1 b1 t1 a1 => ?_⟩
  have R1 := R.ask (k := k) cr.sa b1 a1
  have m1 := R.mvw (K := K) cr.sa b1
  have hso1 := R1.so cr.so
  have asn1 := R1.sn cr.sn
  have asl1 := R1.sl cr.sl
  have asr1 := R1.sr (cr.sr k.toNat (by omega))
  walk_at "go"
  walk_at "f"
  walk_at "go"
  refine ⟨_, _, k, k.toNat, .int n, rfl, asn1, rfl, by omega, by rw [List.getElem?_map]; show Option.map _ (S.nexts[k.toNat]?) = _; rw [hk]; rfl, fun u iu => ?_⟩
  obtain rfl := iu.i
  walk_at "go"
  walk_at "f"
  walk_at "go"
  refine ⟨_, (List.range C.lists.length).map fun k => B.ad (.sr k), k, k.toNat, B.ad (.sr k.toNat), rfl, by rw [List.map_map]; exact asl1, rfl, by omega, by rw [List.getElem?_map, hr1]; rfl, ?_⟩
  refine ⟨_, _, rfl, asr1, ?_⟩
  rw [List.length_map]
  walk_at "go"
  by_cases c : n = ((C.lists.getD k.toNat []).length : Int)
  · rw [if_pos c] at hm
    cases hm
    refine ite_t (dv_t c) ?_
    walk_at "go"
    exact q _ _ _ m1 R1 .non
  · rw [if_neg c] at hm
    cases hm
    refine ite_f (dv_f c) ?_
    walk_at "go"
    walk_at "f"
    walk_at "go"
    refine ⟨_, _, (S.nexts.set k.toNat (n + 1)).map V.int, k, k.toNat, rfl, rfl, acc_raw asn1, ?_, by rw [List.map_set]; rfl, fun H2 b2 t2 e2 => ?_⟩
    · rw [List.length_map]; exact ixN_int k0 (by show k < ((S.nexts.length : Nat) : Int); omega)
    have R2 := R1.adv (k := k.toNat) (n := n + 1) cr.sn b2 (raw_acc e2)
    have m2 := m1.trans (R1.mvw (K := K) cr.sn b2)
    have hso2 := R2.so cr.so
    have asl2 := R2.sl cr.sl
    have asr2 := R2.sr (cr.sr k.toNat (by omega))
    walk_at "go"
    walk_at "f"
    walk_at "go"
    refine ⟨_, (List.range C.lists.length).map fun k => B.ad (.sr k), k, k.toNat, B.ad (.sr k.toNat), rfl, by rw [List.map_map]; exact asl2, rfl, by omega, by rw [List.getElem?_map, hr1]; rfl, ?_⟩
    walk_at "go"
    refine ⟨_, _, n, n.toNat, .int ((C.lists.getD k.toNat []).getD n.toNat 0), rfl, asr2, rfl, by omega, ?_, fun u iu => ?_⟩
    · have hlt : n.toNat < (C.lists.getD k.toNat []).length := by omega
      rw [List.getElem?_map, List.getElem?_eq_getElem hlt, List.getD_eq_getElem?_getD (l := C.lists.getD k.toNat []), List.getElem?_eq_getElem hlt]
      rfl
    exact q _ _ _ m2 R2 iu

theorem ok_asked (T : Tx P K w mg) (C : Ct) (pl : Pull) (L : Nat) : FnOk P w K mg base CX0 2 T.asked.f T.asked.fd ["walk"] (spStep K T.cs C pl L fun l => ∃ k, l = .source k) := by
  refine T.asked.F.ok sc_asked (fun vs H Q E h => ?_) (fun cdv A outer s H vs Q E hr h => ?_)
  · obtain ⟨a, rfl, _⟩ := h
    rfl
  obtain ⟨v, rfl, h⟩ := h
  obtain ⟨B, has, y, S, i, l, d, S', rfl, cr, hl, ⟨k, rfl⟩, R, hm, q⟩ := h.out
  have hi := (List.getElem?_eq_some_iff.mp hl).1
  have hw := R.wk (cr.w i hi).1
  have hso := R.so cr.so
  have iv := R.ln i _ hl (cr.w i hi).1
  refine ⟨_, (pss_one (ps_ret (pe_meth (pe_fld (pv 0) rfl) T.k_ListedSources.cl T.ListedSources_ask.h (ok_ListedSources_ask T C) hr T.ListedSources_ask.b .nil pass0 (pa_cons (pe_ix ix_tupD (pe_fld (pv 0) rfl) pe_int (fun _ _ => rfl)) pa_nil)))), ?_⟩
  walk_at "go"
  walk_at "f"
  walk_at "go"
  refine ⟨_, _, _, rfl, hso, rfl, ?_⟩
  walk_at "go"
  walk_at "f"
  walk_at "go"
  refine ⟨_, 1, 1, _, iv, rfl, rfl, rfl, fun u iu => ?_⟩
  obtain rfl := iu.i
  walk_at "go"
  exact .mk ⟨B, has, y, S, k, d, S', rfl, rfl, cr, R, hm, q⟩

theorem ok_Walk_pulled (T : Tx P K w mg) {C : Ct} {pl : Pull} {k : Nat} (ok : CtOk C) (hp : FnOk P w K mg base CX0 k T.Place_pull.f T.Place_pull.fd ["self"] (spPull K T.cs C pl)) : FnOk P w K mg base CX0 (k + 1) T.Walk_pulled.f T.Walk_pulled.fd ["self", "side"] (spPulled K T.cs C pl) := by
  refine T.Walk_pulled.F.ok sc_Walk_pulled (fun vs H Q E h => ?_) (fun cdv A outer s H vs Q E hr h => ?_)
  · obtain ⟨a, b, rfl, _⟩ := h
    rfl
  obtain ⟨v1, v2, rfl, h⟩ := h
  obtain ⟨B, has, y, S, i, s1, d, S', rfl, rfl, cr, hi, hs, R, hm, q⟩ := h.out
  have hw := R.wk (cr.w i hi).1
  have hwp := R.wp (cr.w i hi).2.1
  have hpl := R.pl (cr.p i s1 hi hs)
  have hl : C.ls[i]? = some C.ls[i] := List.getElem?_eq_getElem hi
  have ht := ok.tgt hl (by rw [← nPl_of hl]; exact hs)
  refine ⟨_, (pss_one (ps_ret (pe_meth0 (pe_ix ix_list (pe_fld (pv 0) rfl) (pv 1) (fun _ _ => rfl)) T.k_Place.cl T.Place_pull.h hp (hr.mono (by omega)) T.Place_pull.b .nil pass0))), ?_⟩
  walk_at "go"
  walk_at "f"
  walk_at "go"
  refine ⟨_, _, _, _, rfl, rfl, SqL.of hwp, atI_nat (by rw [List.getElem?_map, List.getElem?_range hs]; rfl), ?_⟩
  refine ⟨_, _, _, rfl, hpl, rfl, ?_⟩
  walk_at "go"
  exact .mk ⟨B, has, y, S, _, d, S', rfl, cr, cr.p i s1 hi hs, by omega, R, hm, q⟩

def spDone (K : PySem.W.Frag) : Sp := fun vs H Q _ => ∃ (vd vi : V), vs = [vd, vi] ∧ Hold (∃ (d : Deed) (x : PyData) (k k' : Kd), Im K H vd d.d ∧ d.Ok ∧ Im K H vi x ∧ Has k x ∧ kindD d k = some k' ∧
  ∀ v H', Same H H' → Im K H' v (doneD d x) → Q v H')
theorem ok_done (T : Tx P K w mg) : FnOk P w K mg base CX0 1 T.done.f T.done.fd ["deed", "item"] (spDone K) := by
  refine T.done.F.ok sc_done (fun vs H Q E h => ?_) (fun cdv A outer s H vs Q E hr h => ?_)
  · obtain ⟨a, vk, rfl, _⟩ := h
    rfl
  obtain ⟨vd, vi, rfl, h⟩ := h
  obtain ⟨d, x, k, k', id, ok, ix, hx, hk, q⟩ := h.out
  refine ⟨_, (pss_cons (ps_set (i := 2) sc_done.nd rfl (by first | exact Or.inl rfl | exact Or.inr rfl) (pe_ix ix_tupD (pv 0) pe_int (fun _ _ => rfl)))
      (pss_cons (ps_if (pt_cmpR op_eq (pv 2) pe_str (nomark _)) (pss_one (ps_ret (pe_ix ix_tupD (pv 1) pe_int (fun _ _ => rfl)))) pss_nil)
      (pss_cons (ps_if (pt_cmpR op_eq (pv 2) pe_str (nomark _)) (pss_one (ps_ret (pe_ix ix_tupD (pv 1) pe_int (fun _ _ => rfl)))) pss_nil)
      (pss_cons (ps_if (pt_cmpR op_eq (pv 2) pe_str (nomark _)) (pss_one (ps_ret (pe_td (pa_cons (pv 1) (pa_cons (pv 1) pa_nil))))) pss_nil)
      (pss_cons (ps_if (pt_cmpR op_eq (pv 2) pe_str (nomark _)) (pss_one (ps_ret (pe_op op_mod (pe_callB (cr_sumT rfl) (by rfl) T.z_sum (by decide +kernel) (pa_cons (pv 1) pa_nil)) (pe_glob (v := .int 1000003) (by rfl) T.c_REST.g ⟨_, rfl⟩)))) pss_nil)
      (pss_cons (ps_if (pt_cmpR op_eq (pv 2) pe_str (nomark _)) (pss_one (ps_ret (pe_callB call_lenT (by rfl) T.z_len PySem.boot_len (pa_cons (pv 1) pa_nil)))) pss_nil)
      (pss_cons (ps_if (pt_cmpR op_eq (pv 2) pe_str (nomark _)) (pss_one (ps_ret (pe_op op_mod (pe_un un_neg (pv 1)) (pe_glob (v := .int 1000003) (by rfl) T.c_REST.g ⟨_, rfl⟩)))) pss_nil)
      (pss_cons (ps_if (pt_cmpR op_eq (pv 2) pe_str (nomark _)) (pss_one (ps_ret (pe_op op_mod (pe_op op_add (pv 1) (pe_ix ix_tupD (pv 0) pe_int (fun _ _ => rfl))) (pe_glob (v := .int 1000003) (by rfl) T.c_REST.g ⟨_, rfl⟩)))) pss_nil)
      (pss_one (ps_ret (pe_op op_mod (pe_op op_mul (pv 1) (pe_ix ix_tupD (pv 0) pe_int (fun _ _ => rfl))) (pe_glob (v := .int 1000003) (by rfl) T.c_REST.g ⟨_, rfl⟩)))))))))))), ?_⟩
  walk_at "go"
  cases d with
  | both =>
    refine ⟨_, 0, 0, _, id, rfl, rfl, rfl, fun v iv => ?_⟩
    obtain rfl := iv.s
    walk_at "go"
    refine ⟨[x, x], .cons ix (.cons ix .nil), by simp, fun p H1 s1 t1 i1 => ?_⟩
    exact q _ H1 s1 i1
  | add n =>
    cases k with
    | num =>
      obtain ⟨i, rfl, i0, i1⟩ := hx.int
      obtain rfl := ix.i
      obtain ⟨n0, n1⟩ := ok
      refine ⟨_, 0, 0, _, id, rfl, rfl, rfl, fun v iv => ?_⟩
      obtain rfl := iv.s
      walk_at "go"
      refine ⟨_, 1, 1, _, id, rfl, rfl, rfl, fun v iv => ?_⟩
      obtain rfl := iv.i
      walk_at "go"
      exact q _ H (Same.refl H) (.int _)
    | _ => cases hk
  | times n =>
    cases k with
    | num =>
      obtain ⟨i, rfl, i0, i1⟩ := hx.int
      obtain rfl := ix.i
      obtain ⟨n0, n1⟩ := ok
      refine ⟨_, 0, 0, _, id, rfl, rfl, rfl, fun v iv => ?_⟩
      obtain rfl := iv.s
      walk_at "go"
      refine ⟨_, 1, 1, _, id, rfl, rfl, rfl, fun v iv => ?_⟩
      obtain rfl := iv.i
      walk_at "go"
      exact q _ H (Same.refl H) (.int _)
    | _ => cases hk
  | minus =>
    cases k with
    | num =>
      obtain ⟨i, rfl, i0, i1⟩ := hx.int
      obtain rfl := ix.i
      refine ⟨_, 0, 0, _, id, rfl, rfl, rfl, fun v iv => ?_⟩
      obtain rfl := iv.s
      walk_at "go"
      exact q _ H (Same.refl H) (.int _)
    | _ => cases hk
  | first =>
    cases k with
    | pair a b =>
      obtain ⟨y, z, rfl, _⟩ := hx.two
      refine ⟨_, 0, 0, _, id, rfl, rfl, rfl, fun v iv => ?_⟩
      obtain rfl := iv.s
      walk_at "go"
      refine ⟨_, 0, 0, _, ix, rfl, rfl, rfl, fun v iv => ?_⟩
      exact q _ H (Same.refl H) iv
    | _ => cases hk
  | second =>
    cases k with
    | pair a b =>
      obtain ⟨y, z, rfl, _⟩ := hx.two
      refine ⟨_, 0, 0, _, id, rfl, rfl, rfl, fun v iv => ?_⟩
      obtain rfl := iv.s
      walk_at "go"
      refine ⟨_, 1, 1, _, ix, rfl, rfl, rfl, fun v iv => ?_⟩
      exact q _ H (Same.refl H) iv
    | _ => cases hk
  | sum =>
    cases k with
    | row a =>
      cases a with
      | num =>
        cases hx with
        | row h hl =>
          rename_i xs
          have e := Has.ints h
          refine ⟨_, 0, 0, _, id, rfl, rfl, rfl, fun v iv => ?_⟩
          obtain rfl := iv.s
          rw [e] at ix
          obtain ⟨b, ys, rfl, ht, hs⟩ := ix.t
          rw [Ims.of_ints _ hs] at ht
          walk_at "go"
          refine ⟨_, _, rfl, ht, ?_⟩
          walk_at "go"
          exact q _ H (Same.refl H) (.int _)
      | _ => cases hk
    | _ => cases hk
  | many =>
    cases k with
    | row a =>
      cases hx with
      | row h hl =>
        refine ⟨_, 0, 0, _, id, rfl, rfl, rfl, fun v iv => ?_⟩
        obtain rfl := iv.s
        walk_at "go"
        refine ⟨_, _, rfl, ix, ?_⟩
        exact q _ H (Same.refl H) (.int _)
    | _ => cases hk

def spAllDone (K : PySem.W.Frag) : Sp := fun vs H Q _ => ∃ (vd vi : V), vs = [vd, vi] ∧ Hold (∃ (ds : List Deed) (x : PyData) (k k' : Kd), Im K H vd (.tuple (ds.map Deed.d)) ∧ (∀ d ∈ ds, d.Ok) ∧ Im K H vi x ∧ Has k x ∧ kindAll ds k = some k' ∧
  ∀ v H', Same H H' → Im K H' v (doneAll ds x) → Q v H')
theorem ok_all_done (T : Tx P K w mg) : FnOk P w K mg base CX0 2 T.all_done.f T.all_done.fd ["deeds", "item"] (spAllDone K) := by
  refine T.all_done.F.ok sc_all_done (fun vs H Q E h => ?_) (fun cdv A outer s H vs Q E hr h => ?_)
  · obtain ⟨a, vk, rfl, _⟩ := h
    rfl
  obtain ⟨vd, vi, rfl, h⟩ := h
  obtain ⟨ds, x, k, k', id, ok, ix, hx, hk, q⟩ := h.out
  obtain ⟨a, xs, rfl, ht, hs⟩ := id.t
  have len := hs.len
  rw [List.length_map] at len
  refine ⟨_, (pss_cons (ps_for PassesOwn.never rfl (pi_tup (pv 0)) (pg_name (i := 2) sc_all_done.nd rfl (by first | exact Or.inl rfl | exact Or.inr rfl)) (pss_one (ps_set (i := 1) sc_all_done.nd rfl (by first | exact Or.inl rfl | exact Or.inr rfl) (pe_call (ok_done T) hr (by rfl) T.done.g T.done.F.kp T.done.b .nil pass0 (pa_cons (pv 2) (pa_cons (pv 1) pa_nil))))))
      (pss_one (ps_ret (pv 1)))), ?_⟩
  refine ⟨_, rfl, a, rfl, ⟨_, ht⟩, for_tup (K := K) (a := a) (xs := xs) (fun i σ H2 => Hold (∃ (v : V) (o : Option V), σ = [some (.ref a), some v, o] ∧ Same H H2 ∧ Im K H2 v (doneAll (ds.take i) x)))
    (.mk ⟨vi, none, rfl, Same.refl H, ix⟩) (fun i σ H2 _ h => by obtain ⟨_, _, _, s2, _⟩ := h.out; exact (same_tk s2).t _ _ ht) ?_ ?_⟩
  · intro i y σ H2 hi h
    obtain ⟨v, o, rfl, s2, iv⟩ := h.out
    obtain ⟨d, hd, iy⟩ := hs.get hi
    rw [List.getElem?_map] at hd
    obtain ⟨d, hd', rfl⟩ := Option.map_eq_some_iff.mp hd
    obtain ⟨⟨k1, k2, h1, h2⟩, e⟩ := done_turn hx hk hd' ok
    walk_at "go"
    refine .mk ⟨d, _, k1, k2, iy.u (same_tk s2), ok _ (List.mem_of_getElem? hd'), iv, h1, h2, fun v3 H3 s3 i3 => ?_⟩
    refine .mk ⟨v3, _, rfl, s2.trans s3, ?_⟩
    rw [e]
    exact i3
  · intro σ H2 h
    obtain ⟨v, o, rfl, s2, iv⟩ := h.out
    walk_at "go"
    rw [len, List.take_length] at iv
    exact q v H2 s2 iv

theorem ok_mapped (T : Tx P K w mg) {C : Ct} {pl : Pull} {L k : Nat} (ok : CtOk C) (hk : 20 ≤ k) (hp : FnOk P w K mg base CX0 k T.Place_pull.f T.Place_pull.fd ["self"] (spPull K T.cs C pl)) : FnOk P w K mg base CX0 (k + 3) T.mapped.f T.mapped.fd ["walk"] (spStep K T.cs C pl L fun l => ∃ ds a, l = .map ds a) := by
  refine T.mapped.F.ok sc_mapped (fun vs H Q E h => ?_) (fun cdv A outer s H vs Q E hr h => ?_)
  · obtain ⟨a, rfl, _⟩ := h
    rfl
  obtain ⟨v, rfl, h⟩ := h
  obtain ⟨B, has, y, S, i, l, d, S', rfl, cr, hl, ⟨ds, a, rfl⟩, R, hm, q⟩ := h.out
  have hi := (List.getElem?_eq_some_iff.mp hl).1
  have hw := R.wk (cr.w i hi).1
  have hn := ok.num i _ hl
  have hn : ((decide (1 ≤ ds.length) && decide (ds.length ≤ 64)) && ds.all deedNum) = true := hn
  rw [Bool.and_eq_true, List.all_eq_true] at hn
  unfold stepL at hm
  dsimp only at hm
  cases e : pl (.at i 0) S with
  | none => rw [e] at hm; cases hm
  | some r =>
    obtain ⟨x, S1⟩ := r
    rw [e] at hm
    dsimp only at hm
    refine ⟨_, (pss_cons (ps_set (i := 1) sc_mapped.nd rfl (by first | exact Or.inl rfl | exact Or.inr rfl) (pe_meth (pv 0) T.k_Walk.cl T.Walk_pulled.h (ok_Walk_pulled T ok hp) (hr.mono (by omega)) T.Walk_pulled.b .nil pass0 (pa_cons pe_int pa_nil)))
      (pss_cons (ps_if (pt_cmpR op_isN (pv 1) pe_non (nomark _)) (pss_one (ps_ret pe_non)) pss_nil)
      (pss_one (ps_ret (pe_call (ok_all_done T) (hr.mono (by omega)) (by rfl) T.all_done.g T.all_done.F.kp T.all_done.b .nil pass0 (pa_cons (pe_ix ix_tupD (pe_fld (pv 0) rfl) pe_int (fun _ _ => rfl)) (pa_cons (pv 1) pa_nil))))))), ?_⟩
    walk_at "go"
    refine ⟨_, _, _, rfl, hw, rfl, ?_⟩
    walk_at "go"
    refine .mk ⟨B, has, y, S, i, 0, x, S1, rfl, rfl, cr, hi, by rw [nPl_of hl]; exact Nat.zero_lt_one, R, e, fun u y1 H1 m1 R1 iu => ?_⟩
    have hw1 := R1.wk (cr.w i hi).1
    have iv1 := R1.ln i _ hl (cr.w i hi).1
    walk_at "go"
    by_cases c : x = .none
    · rw [if_pos c] at hm
      cases hm
      subst c
      cases iu
      walk_at "go"
      exact q _ _ _ m1 R1 .non
    · rw [if_neg c] at hm
      obtain ⟨⟨ka, k', hx, hkk⟩, hm⟩ := gd_some hm
      cases hm
      refine ite_f (decide_eq_false (im_ne iu c)) ?_
      walk_at "go"
      walk_at "f"
      walk_at "go"
      refine ⟨_, 1, 1, _, iv1, rfl, rfl, rfl, fun v iv => ?_⟩
      walk_at "go"
      exact .mk ⟨ds, x, ka, k', iv, fun d hd => deedNum_iff.mp (hn.2 d hd), iu, hx, hkk, fun z H3 s3 iz => q _ _ _ (m1.trans (Mv.same s3)) (R1.same s3) iz⟩

def spHolds (K : PySem.W.Frag) : Sp := fun vs H Q _ => ∃ (vt vn : V), vs = [vt, vn] ∧ Hold (∃ (t : Tst) (n : Int), Im K H vt t.d ∧ vn = .int n ∧ t.Ok ∧ Q (.bl (holdsT t n)) H)
theorem ok_holds (T : Tx P K w mg) : FnOk P w K mg base CX0 1 T.holds.f T.holds.fd ["test", "number"] (spHolds K) := by
  refine T.holds.F.ok sc_holds (fun vs H Q E h => ?_) (fun cdv A outer s H vs Q E hr h => ?_)
  · obtain ⟨a, vk, rfl, _⟩ := h
    rfl
  obtain ⟨vt, vn, rfl, h⟩ := h
  obtain ⟨t, n, it, rfl, ok, q⟩ := h.out
  refine ⟨_, (pss_cons (ps_if (pt_cmpR op_eq (pe_ix ix_tupD (pv 0) pe_int (fun _ _ => rfl)) pe_str (nomark _)) (pss_one (ps_ret (pe_cmpR op_lt (pv 1) (pe_ix ix_tupD (pv 0) pe_int (fun _ _ => rfl)) (nomark _)))) pss_nil)
      (pss_cons (ps_if (pt_cmpR op_eq (pe_ix ix_tupD (pv 0) pe_int (fun _ _ => rfl)) pe_str (nomark _)) (pss_one (ps_ret (pe_cmpR op_gt (pv 1) (pe_ix ix_tupD (pv 0) pe_int (fun _ _ => rfl)) (nomark _)))) pss_nil)
      (pss_one (ps_ret (pe_cmpR op_eq (pe_op op_mod (pv 1) (pe_ix ix_tupD (pv 0) pe_int (fun _ _ => rfl))) (pe_ix ix_tupD (pv 0) pe_int (fun _ _ => rfl)) (nomark _)))))), ?_⟩
  walk_at "go"
  cases t with
  | below m =>
    refine ⟨_, 0, 0, _, it, rfl, rfl, rfl, fun v iv => ?_⟩
    obtain rfl := iv.s
    walk_at "go"
    refine ⟨_, 1, 1, _, it, rfl, rfl, rfl, fun v iv => ?_⟩
    obtain rfl := iv.i
    walk_at "go"
    exact q
  | over m =>
    refine ⟨_, 0, 0, _, it, rfl, rfl, rfl, fun v iv => ?_⟩
    obtain rfl := iv.s
    walk_at "go"
    refine ⟨_, 0, 0, _, it, rfl, rfl, rfl, fun v iv => ?_⟩
    obtain rfl := iv.s
    walk_at "go"
    refine ⟨_, 1, 1, _, it, rfl, rfl, rfl, fun v iv => ?_⟩
    obtain rfl := iv.i
    walk_at "go"
    exact q
  | rest m r =>
    obtain ⟨_, h0, h1⟩ := ok
    refine ⟨_, 0, 0, _, it, rfl, rfl, rfl, fun v iv => ?_⟩
    obtain rfl := iv.s
    walk_at "go"
    refine ⟨_, 0, 0, _, it, rfl, rfl, rfl, fun v iv => ?_⟩
    obtain rfl := iv.s
    walk_at "go"
    refine ⟨_, 1, 1, _, it, rfl, rfl, rfl, fun v iv => ?_⟩
    obtain rfl := iv.i
    walk_at "go"
    refine ⟨_, 2, 2, _, it, rfl, rfl, rfl, fun v iv => ?_⟩
    obtain rfl := iv.i
    walk_at "go"
    rw [dec_vint]
    exact q

def spAllHold (K : PySem.W.Frag) : Sp := fun vs H Q _ => ∃ (vt vn : V), vs = [vt, vn] ∧ Hold (∃ (ts : List Tst) (n : Int), Im K H vt (.tuple (ts.map Tst.d)) ∧ ts.length ≤ 1000 ∧ vn = .int n ∧ (∀ t ∈ ts, t.Ok) ∧
  ∀ H', Same H H' → Q (.bl (ts.all fun t => holdsT t n)) H')
theorem ok_all_hold (T : Tx P K w mg) : FnOk P w K mg base CX0 2 T.all_hold.f T.all_hold.fd ["tests", "number"] (spAllHold K) := by
  refine T.all_hold.F.ok sc_all_hold (fun vs H Q E h => ?_) (fun cdv A outer s H vs Q E hr h => ?_)
  · obtain ⟨a, vk, rfl, _⟩ := h
    rfl
  obtain ⟨vt, vn, rfl, h⟩ := h
  obtain ⟨ts, n, it, hl, rfl, ok, q⟩ := h.out
  obtain ⟨a, xs, rfl, ht, hx⟩ := it.t
  refine ⟨_, (pss_one (ps_ret (pe_callB (cr_all rfl) (by rfl) T.z_all (by decide +kernel) (pa_cons (pe_lc (own := [("test", 2)]) (g := gName 2) (tt := tYes) rfl sc_all_hold.nd (pi_tup (pv 0)) (blkOk_by (own := [("test", 2)]) (N := ["tests", "number", "test"]) (sc := defScope s_all_hold) (by decide +kernel)) (fun _ _ _ _ _ => pg_name (i := 2) sc_all_hold.nd rfl (Or.inl rfl)) (fun _ _ _ _ _ => pts_nil) (fun _ _ _ _ _ => (pe_call (ok_holds T) hr (by rfl) T.holds.g T.holds.F.kp T.holds.b .nil pass0 (pa_cons (pv 2) (pa_cons (pv 1) pa_nil))))) pa_nil)))), ?_⟩
  refine ⟨_, rfl, a, rfl, ⟨_, ht⟩, fun D nD => lc_tup (K := K) (a := a) (xs := xs) (fun i H2 => Hold (Same H H2 ∧ H2 D = some (.lst (((ts.take i).map fun t => holdsT t n).map V.bl))))
    (.mk ⟨same_new nD, upd_same⟩) (fun i H2 _ h => (same_tk h.out.1).t _ _ ht) ?_ ?_⟩
  · intro i x H2 hi h
    obtain ⟨s2, e2⟩ := h.out
    obtain ⟨d, hd, ix⟩ := hx.get hi
    rw [List.getElem?_map] at hd
    obtain ⟨t, ht', rfl⟩ := Option.map_eq_some_iff.mp hd
    walk_at "go"
    refine .mk ⟨t, n, ix.u (same_tk s2), rfl, ok _ (List.mem_of_getElem? ht'), ?_⟩
    refine ⟨_, e2, ?_, .mk ⟨same_put s2 nD, ?_⟩⟩
    · rw [List.length_map, List.length_map, List.length_take]
      exact small1000 (by omega)
    · rw [upd_same, take_succ ht', List.map_append, List.map_append]
      rfl
  · intro H2 h
    obtain ⟨s2, e2⟩ := h.out
    refine ⟨_, _, rfl, SqL.of e2, ?_⟩
    have e : ts.take xs.length = ts := by
      have := hx.len
      rw [List.length_map] at this
      rw [this, List.take_length]
    rw [e, List.all_map]
    exact q H2 s2

theorem ok_kept (T : Tx P K w mg) {C : Ct} {pl : Pull} {L k : Nat} (ok : CtOk C) (hk : 20 ≤ k) (hp : FnOk P w K mg base CX0 k T.Place_pull.f T.Place_pull.fd ["self"] (spPull K T.cs C pl)) : FnOk P w K mg base CX0 (k + 3) T.kept.f T.kept.fd ["walk"] (spStep K T.cs C pl L fun l => ∃ ts a, l = .keep ts a) := by
  refine T.kept.F.ok sc_kept (fun vs H Q E h => ?_) (fun cdv A outer s H vs Q E hr h => ?_)
  · obtain ⟨a, rfl, _⟩ := h
    rfl
  obtain ⟨v, rfl, h⟩ := h
  obtain ⟨B, has, y, S, i, l, d, S', rfl, cr, hl, ⟨ts, a, rfl⟩, R, hm, q⟩ := h.out
  have hi := (List.getElem?_eq_some_iff.mp hl).1
  have hw := R.wk (cr.w i hi).1
  have hn : testsCan ts = true := ok.num i _ hl
  have hc : ((decide (1 ≤ ts.length) && decide (ts.length ≤ 64)) && ts.all tstNum) = true := hn
  rw [Bool.and_eq_true, Bool.and_eq_true, decide_eq_true_eq, decide_eq_true_eq, List.all_eq_true] at hc
  have okt : ∀ t ∈ ts, t.Ok := fun t ht => tstNum_iff.mp (hc.2 t ht)
  have h0 : 0 < nPl C i := by rw [nPl_of hl]; exact Nat.zero_lt_one
  unfold stepL at hm
  dsimp only at hm
  cases e : pl (.at i 0) S with
  | none => rw [e] at hm; cases hm
  | some r =>
    obtain ⟨x, S1⟩ := r
    rw [e] at hm
    dsimp only at hm
    refine ⟨_, (pss_cons (ps_set (i := 1) sc_kept.nd rfl (by first | exact Or.inl rfl | exact Or.inr rfl) (pe_meth (pv 0) T.k_Walk.cl T.Walk_pulled.h (ok_Walk_pulled T ok hp) (hr.mono (by omega)) T.Walk_pulled.b .nil pass0 (pa_cons pe_int pa_nil)))
      (pss_cons (ps_while PassesOwn.never (PW.pt (pw_and (pt_cmpR op_notN (pv 1) pe_non (nomark _)) (pw_and1 (pt_not (pt_val (pe_call (ok_all_hold T) (hr.mono (by omega)) (by rfl) T.all_hold.g T.all_hold.F.kp T.all_hold.b .nil pass0 (pa_cons (pe_ix ix_tupD (pe_fld (pv 0) rfl) pe_int (fun _ _ => rfl)) (pa_cons (pv 1) pa_nil)))))))) (pss_one (ps_set (i := 1) sc_kept.nd rfl (by first | exact Or.inl rfl | exact Or.inr rfl) (pe_meth (pv 0) T.k_Walk.cl T.Walk_pulled.h (ok_Walk_pulled T ok hp) (hr.mono (by omega)) T.Walk_pulled.b .nil pass0 (pa_cons pe_int pa_nil)))))
      (pss_one (ps_ret (pv 1))))), ?_⟩
    walk_at "go"
    refine ⟨_, _, _, rfl, hw, rfl, ?_⟩
    walk_at "go"
    refine .mk ⟨B, has, y, S, i, 0, x, S1, rfl, rfl, cr, hi, h0, R, e, fun u y1 H1 m1 R1 iu => ?_⟩
    refine ⟨fun m σ H2 => Hold (∃ (x : PyData) (u : V) (S2 : Ms) (y2 : Dy), σ = [some (.ref (B.ad (.wk i))), some u] ∧ keepL pl i ts m x S2 = some (d, S') ∧ Mv K B has y H y2 H2 ∧ Rep K T.cs C B has y2 S2 H2 ∧ Im K H2 u x), ⟨L, .mk ⟨x, u, S1, y1, rfl, hm, m1, R1, iu⟩⟩, ?_⟩
    intro m σ H2 h
    obtain ⟨x, u, S2, y2, rfl, hm, m2, R2, iu⟩ := h.out
    have hw2 := R2.wk (cr.w i hi).1
    have iv2 := R2.ln i _ hl (cr.w i hi).1
    cases m with
    | zero => cases hm
    | succ m =>
      unfold keepL at hm
      by_cases c : x = .none
      · rw [if_pos c] at hm
        cases hm
        subst c
        cases iu
        walk_at "go"
        exact q _ _ _ m2 R2 .non
      · rw [if_neg c] at hm
        obtain ⟨hx, hm⟩ := gd_some hm
        cases x with
        | int n =>
          obtain rfl := iu.i
          walk_at "go"
          walk_at "f"
          walk_at "go"
          refine ⟨_, 1, 1, _, iv2, rfl, rfl, rfl, fun v iv => ?_⟩
          walk_at "go"
          refine .mk ⟨ts, n, iv, by omega, rfl, okt, fun H3 s3 => ?_⟩
          have R3 := R2.same s3
          have m3 := m2.trans (Mv.same s3)
          have hw3 := R3.wk (cr.w i hi).1
          walk_at "go"
          by_cases c2 : met ts (.int n) = true
          · rw [if_pos c2] at hm
            cases hm
            refine ite_f (by rw [show (ts.all fun t => holdsT t n) = true from c2]; rfl) ?_
            walk_at "go"
            exact q _ _ _ m3 R3 (.int n)
          · rw [if_neg c2] at hm
            refine ite_t (by rw [show (ts.all fun t => holdsT t n) = false from Bool.eq_false_iff.mpr c2]; rfl) ?_
            cases e2 : pl (.at i 0) S2 with
            | none => rw [e2] at hm; cases hm
            | some r =>
              obtain ⟨x4, S4⟩ := r
              rw [e2] at hm
              dsimp only at hm
              refine ⟨fun σ H4 => Hold (∃ (x : PyData) (u : V) (S2 : Ms) (y2 : Dy), σ = [some (.ref (B.ad (.wk i))), some u] ∧ keepL pl i ts m x S2 = some (d, S') ∧ Mv K B has y H y2 H4 ∧ Rep K T.cs C B has y2 S2 H4 ∧ Im K H4 u x), fun σ' H' h => ⟨m, Nat.lt_succ_self _, h⟩, ?_⟩
              walk_at "go"
              refine ⟨_, _, _, rfl, hw3, rfl, ?_⟩
              walk_at "go"
              refine .mk ⟨B, has, y2, S2, i, 0, x4, S4, rfl, rfl, cr, hi, h0, R3, e2, fun u y4 H4 m4 R4 iu4 => ?_⟩
              walk_at "go"
              exact .mk ⟨x4, u, S4, y4, rfl, hm, m3.trans m4, R4, iu4⟩
        | _ => exact hx.elim

theorem ok_ahead_of_failing (T : Tx P K w mg) {C : Ct} {pl : Pull} {L k : Nat} (ok : CtOk C) (hk : 20 ≤ k) (hp : FnOk P w K mg base CX0 k T.Place_pull.f T.Place_pull.fd ["self"] (spPull K T.cs C pl)) : FnOk P w K mg base CX0 (k + 3) T.ahead_of_failing.f T.ahead_of_failing.fd ["walk"] (spStep K T.cs C pl L fun l => ∃ ts a, l = .whil ts a) := by
  refine T.ahead_of_failing.F.ok sc_ahead_of_failing (fun vs H Q E h => ?_) (fun cdv A outer s H vs Q E hr h => ?_)
  · obtain ⟨a, rfl, _⟩ := h
    rfl
  obtain ⟨v, rfl, h⟩ := h
  obtain ⟨B, has, y, S, i, l, d, S', rfl, cr, hl, ⟨ts, a, rfl⟩, R, hm, q⟩ := h.out
  have hi := (List.getElem?_eq_some_iff.mp hl).1
  have hw := R.wk (cr.w i hi).1
  have hn : testsCan ts = true := ok.num i _ hl
  have hc : ((decide (1 ≤ ts.length) && decide (ts.length ≤ 64)) && ts.all tstNum) = true := hn
  rw [Bool.and_eq_true, Bool.and_eq_true, decide_eq_true_eq, decide_eq_true_eq, List.all_eq_true] at hc
  have okt : ∀ t ∈ ts, t.Ok := fun t ht => tstNum_iff.mp (hc.2 t ht)
  have h0 : 0 < nPl C i := by rw [nPl_of hl]; exact Nat.zero_lt_one
  unfold stepL at hm
  dsimp only at hm
  cases e : pl (.at i 0) S with
  | none => rw [e] at hm; cases hm
  | some r =>
    obtain ⟨x, S1⟩ := r
    rw [e] at hm
    dsimp only at hm
    refine ⟨_, (pss_cons (ps_set (i := 1) sc_ahead_of_failing.nd rfl (by first | exact Or.inl rfl | exact Or.inr rfl) (pe_meth (pv 0) T.k_Walk.cl T.Walk_pulled.h (ok_Walk_pulled T ok hp) (hr.mono (by omega)) T.Walk_pulled.b .nil pass0 (pa_cons pe_int pa_nil)))
      (pss_cons (ps_if (PW.pt (pw_or (pt_cmpR op_isN (pv 1) pe_non (nomark _)) (pw_or1 (pt_not (pt_val (pe_call (ok_all_hold T) (hr.mono (by omega)) (by rfl) T.all_hold.g T.all_hold.F.kp T.all_hold.b .nil pass0 (pa_cons (pe_ix ix_tupD (pe_fld (pv 0) rfl) pe_int (fun _ _ => rfl)) (pa_cons (pv 1) pa_nil)))))))) (pss_one (ps_ret pe_non)) pss_nil)
      (pss_one (ps_ret (pv 1))))), ?_⟩
    walk_at "go"
    refine ⟨_, _, _, rfl, hw, rfl, ?_⟩
    walk_at "go"
    refine .mk ⟨B, has, y, S, i, 0, x, S1, rfl, rfl, cr, hi, h0, R, e, fun u y1 H1 m1 R1 iu => ?_⟩
    have hw1 := R1.wk (cr.w i hi).1
    have iv1 := R1.ln i _ hl (cr.w i hi).1
    walk_at "go"
    by_cases c : x = .none
    · rw [if_pos c] at hm
      cases hm
      subst c
      cases iu
      walk_at "go"
      exact q _ _ _ m1 R1 .non
    · rw [if_neg c] at hm
      obtain ⟨hx, hm⟩ := gd_some hm
      cases x with
      | int n =>
        obtain rfl := iu.i
        walk_at "go"
        walk_at "f"
        walk_at "go"
        refine ⟨_, 1, 1, _, iv1, rfl, rfl, rfl, fun v iv => ?_⟩
        walk_at "go"
        refine .mk ⟨ts, n, iv, by omega, rfl, okt, fun H3 s3 => ?_⟩
        have R3 := R1.same s3
        have m3 := m1.trans (Mv.same s3)
        walk_at "go"
        by_cases c2 : met ts (.int n) = true
        · rw [if_pos c2] at hm
          cases hm
          refine ite_f (by rw [show (ts.all fun t => holdsT t n) = true from c2]; rfl) ?_
          walk_at "go"
          exact q _ _ _ m3 R3 (.int n)
        · rw [if_neg c2] at hm
          cases hm
          refine ite_t (by rw [show (ts.all fun t => holdsT t n) = false from Bool.eq_false_iff.mpr c2]; rfl) ?_
          walk_at "go"
          exact q _ _ _ m3 R3 .non
      | _ => exact hx.elim

theorem ok_taken (T : Tx P K w mg) {C : Ct} {pl : Pull} {L k : Nat} (ok : CtOk C) (hk : 20 ≤ k) (hp : FnOk P w K mg base CX0 k T.Place_pull.f T.Place_pull.fd ["self"] (spPull K T.cs C pl)) : FnOk P w K mg base CX0 (k + 3) T.taken.f T.taken.fd ["walk"] (spStep K T.cs C pl L fun l => ∃ n a, l = .take n a) := by
  refine T.taken.F.ok sc_taken (fun vs H Q E h => ?_) (fun cdv A outer s H vs Q E hr h => ?_)
  · obtain ⟨a, rfl, _⟩ := h
    rfl
  obtain ⟨v, rfl, h⟩ := h
  obtain ⟨B, has, y, S, i, l, d, S', rfl, cr, hl, ⟨n, a, rfl⟩, R, hm, q⟩ := h.out
  have hi := (List.getElem?_eq_some_iff.mp hl).1
  have hw := R.wk (cr.w i hi).1
  have hwm := R.wm (cr.w i hi).2.2.1
  have iv := R.ln i _ hl (cr.w i hi).1
  have h0 : 0 < nPl C i := by rw [nPl_of hl]; exact Nat.zero_lt_one
  unfold stepL at hm
  dsimp only at hm
  refine ⟨_, (pss_cons (ps_if (pt_cmpR op_eq (pe_callB call_lenA (by rfl) T.z_len PySem.boot_len (pa_cons (pe_fld (pv 0) rfl) pa_nil)) (pe_ix ix_tupD (pe_fld (pv 0) rfl) pe_int (fun _ _ => rfl)) (nomark _)) (pss_one (ps_ret pe_non)) pss_nil)
      (pss_one (ps_ret (pe_meth (pv 0) T.k_Walk.cl T.Walk_pulled.h (ok_Walk_pulled T ok hp) (hr.mono (by omega)) T.Walk_pulled.b .nil pass0 (pa_cons pe_int pa_nil))))), ?_⟩
  walk_at "go"
  walk_at "f"
  refine ⟨_, _, rfl, hwm, ?_⟩
  walk_at "go"
  walk_at "f"
  walk_at "go"
  refine ⟨_, 1, 1, _, iv, rfl, rfl, rfl, fun v iv => ?_⟩
  obtain rfl := iv.i
  walk_at "go"
  by_cases c : ((S.made i).length : Int) = n
  · rw [if_pos c] at hm
    cases hm
    refine ite_t (dv_t c) ?_
    walk_at "go"
    exact q _ _ _ Mv.refl R .non
  · rw [if_neg c] at hm
    refine ite_f (dv_f c) ?_
    walk_at "go"
    refine ⟨_, _, _, rfl, hw, rfl, ?_⟩
    walk_at "go"
    exact .mk ⟨B, has, y, S, i, 0, d, S', rfl, rfl, cr, hi, h0, R, hm, q⟩

theorem ok_behind_skipped (T : Tx P K w mg) {C : Ct} {pl : Pull} {L k : Nat} (ok : CtOk C) (hk : 20 ≤ k) (hp : FnOk P w K mg base CX0 k T.Place_pull.f T.Place_pull.fd ["self"] (spPull K T.cs C pl)) : FnOk P w K mg base CX0 (k + 3) T.behind_skipped.f T.behind_skipped.fd ["walk"] (spStep K T.cs C pl L fun l => ∃ n a, l = .skip n a) := by
  refine T.behind_skipped.F.ok sc_behind_skipped (fun vs H Q E h => ?_) (fun cdv A outer s H vs Q E hr h => ?_)
  · obtain ⟨a, rfl, _⟩ := h
    rfl
  obtain ⟨v, rfl, h⟩ := h
  obtain ⟨B, has, y, S, i, l, d, S', rfl, cr, hl, ⟨n, a, rfl⟩, R, hm, q⟩ := h.out
  have hi := (List.getElem?_eq_some_iff.mp hl).1
  have hw := R.wk (cr.w i hi).1
  have h0 : 0 < nPl C i := by rw [nPl_of hl]; exact Nat.zero_lt_one
  unfold stepL at hm
  dsimp only at hm
  cases e : skipL pl i n L S with
  | none => rw [e] at hm; cases hm
  | some r =>
    obtain ⟨b0, S9⟩ := r
    rw [e] at hm
    dsimp only at hm
    refine ⟨_, (pss_cons (ps_while PassesOwn.never (pt_cmpR op_lt (pe_fld (pe_ix ix_list (pe_fld (pv 0) rfl) pe_int (fun _ _ => rfl)) rfl) (pe_ix ix_tupD (pe_fld (pv 0) rfl) pe_int (fun _ _ => rfl)) (nomark _)) (pss_one (ps_if (pt_cmpR op_isN (pe_meth (pv 0) T.k_Walk.cl T.Walk_pulled.h (ok_Walk_pulled T ok hp) (hr.mono (by omega)) T.Walk_pulled.b .nil pass0 (pa_cons pe_int pa_nil)) pe_non (nomark _)) (pss_one (ps_ret pe_non)) pss_nil)))
      (pss_one (ps_ret (pe_meth (pv 0) T.k_Walk.cl T.Walk_pulled.h (ok_Walk_pulled T ok hp) (hr.mono (by omega)) T.Walk_pulled.b .nil pass0 (pa_cons pe_int pa_nil))))), ?_⟩
    walk_at "go"
    refine ⟨fun m σ H2 => Hold (∃ (S2 : Ms) (y2 : Dy), σ = [some (.ref (B.ad (.wk i)))] ∧ skipL pl i n m S2 = some (b0, S9) ∧ Mv K B has y H y2 H2 ∧ Rep K T.cs C B has y2 S2 H2), ⟨L, .mk ⟨S, y, rfl, e, Mv.refl, R⟩⟩, ?_⟩
    intro m σ H2 h
    obtain ⟨S2, y2, rfl, e2, m2, R2⟩ := h.out
    have hw2 := R2.wk (cr.w i hi).1
    have hwp2 := R2.wp (cr.w i hi).2.1
    have hpl2 := R2.pl (cr.p i 0 hi h0)
    have iv2 := R2.ln i _ hl (cr.w i hi).1
    cases m with
    | zero => cases e2
    | succ m =>
      unfold skipL at e2
      walk_at "go"
      walk_at "f"
      walk_at "go"
      refine ⟨_, _, _, _, rfl, rfl, SqL.of hwp2, atI_nat (j := 0) (by rw [List.getElem?_map, List.getElem?_range h0]; rfl), ?_⟩
      walk_at "f"
      walk_at "go"
      walk_at "f"
      walk_at "go"
      refine ⟨_, 1, 1, _, iv2, rfl, rfl, rfl, fun v iv => ?_⟩
      obtain rfl := iv.i
      walk_at "go"
      refine ite_d (fun c => ?_) (fun c => ?_)
      · rw [if_pos c] at e2
        cases e3 : pl (.at i 0) S2 with
        | none => rw [e3] at e2; cases e2
        | some r =>
          obtain ⟨x4, S4⟩ := r
          rw [e3] at e2
          dsimp only at e2
          refine ⟨fun σ H4 => Hold (∃ (S2 : Ms) (y2 : Dy), σ = [some (.ref (B.ad (.wk i)))] ∧ skipL pl i n m S2 = some (b0, S9) ∧ Mv K B has y H y2 H4 ∧ Rep K T.cs C B has y2 S2 H4), fun σ' H' h => ⟨m, Nat.lt_succ_self _, h⟩, ?_⟩
          walk_at "go"
          refine ⟨_, _, _, rfl, hw2, rfl, ?_⟩
          walk_at "go"
          refine .mk ⟨B, has, y2, S2, i, 0, x4, S4, rfl, rfl, cr, hi, h0, R2, e3, fun u y4 H4 m4 R4 iu4 => ?_⟩
          walk_at "go"
          by_cases c2 : x4 = .none
          · rw [if_pos c2] at e2
            cases e2
            cases hm
            subst c2
            cases iu4
            walk_at "go"
            exact q _ _ _ (m2.trans m4) R4 .non
          · rw [if_neg c2] at e2
            refine ite_f (decide_eq_false (im_ne iu4 c2)) ?_
            walk_at "go"
            exact .mk ⟨S4, y4, rfl, e2, m2.trans m4, R4⟩
      · rw [if_neg c] at e2
        cases e2
        walk_at "go"
        refine ⟨_, _, _, rfl, hw2, rfl, ?_⟩
        walk_at "go"
        exact .mk ⟨B, has, y2, _, i, 0, d, S', rfl, rfl, cr, hi, h0, R2, hm, fun u y5 H5 m5 R5 iu5 => q u y5 H5 (m2.trans m5) R5 iu5⟩

theorem ok_grouped (T : Tx P K w mg) {C : Ct} {pl : Pull} {L k : Nat} (ok : CtOk C) (hk : 20 ≤ k) (hp : FnOk P w K mg base CX0 k T.Place_pull.f T.Place_pull.fd ["self"] (spPull K T.cs C pl)) : FnOk P w K mg base CX0 (k + 3) T.grouped.f T.grouped.fd ["walk"] (spStep K T.cs C pl L fun l => ∃ n a, l = .group n a) := by
  refine T.grouped.F.ok sc_grouped (fun vs H Q E h => ?_) (fun cdv A outer s H vs Q E hr h => ?_)
  · obtain ⟨a, rfl, _⟩ := h
    rfl
  obtain ⟨v, rfl, h⟩ := h
  obtain ⟨B, has, y, S, i, l, d, S', rfl, cr, hl, ⟨n, a, rfl⟩, R, hm, q⟩ := h.out
  have hi := (List.getElem?_eq_some_iff.mp hl).1
  have hw := R.wk (cr.w i hi).1
  have hn : (decide (1 ≤ n) && isNum n) = true := ok.num i _ hl
  rw [Bool.and_eq_true, decide_eq_true_eq] at hn
  have iv := R.ln i _ hl (cr.w i hi).1
  have h0 : 0 < nPl C i := by rw [nPl_of hl]; exact Nat.zero_lt_one
  unfold stepL at hm
  dsimp only at hm
  cases e : pl (.at i 0) S with
  | none => rw [e] at hm; cases hm
  | some r =>
    obtain ⟨x, S1⟩ := r
    rw [e] at hm
    dsimp only at hm
    cases e9 : grpL pl i n L x S1 with
    | none => rw [e9] at hm; cases hm
    | some r =>
      obtain ⟨x9, S9⟩ := r
      rw [e9] at hm
      dsimp only at hm
      refine ⟨_, (pss_cons (ps_set (i := 1) sc_grouped.nd rfl (by first | exact Or.inl rfl | exact Or.inr rfl) (pe_ix ix_tupD (pe_fld (pv 0) rfl) pe_int (fun _ _ => rfl)))
      (pss_cons (ps_set (i := 2) sc_grouped.nd rfl (by first | exact Or.inl rfl | exact Or.inr rfl) (pe_meth (pv 0) T.k_Walk.cl T.Walk_pulled.h (ok_Walk_pulled T ok hp) (hr.mono (by omega)) T.Walk_pulled.b .nil pass0 (pa_cons pe_int pa_nil)))
      (pss_cons (ps_while PassesOwn.never (PW.pt (pw_and (pt_cmpR op_notN (pv 2) pe_non (nomark _)) (pw_and1 (PW.pt (pw_or (pt_not (pt_truth (pe_fld (pv 0) rfl) (by intro _; rfl))) (pw_or1 (pt_cmpR op_eq (pe_op op_mod (pv 2) (pv 1)) (pe_op op_mod (pe_ix ix_listA (pe_fld (pv 0) rfl) pe_int (fun _ _ => rfl)) (pv 1)) (nomark _)))))))) (pss_cons (ps_expr (pe_bm PySem.F.plainAttrs_list PySem.F.slot_list_append PySem.F.type_list_append mt_appA (pe_fld (pv 0) rfl) (pa_cons (pv 2) pa_nil)))
      (pss_one (ps_set (i := 2) sc_grouped.nd rfl (by first | exact Or.inl rfl | exact Or.inr rfl) (pe_meth (pv 0) T.k_Walk.cl T.Walk_pulled.h (ok_Walk_pulled T ok hp) (hr.mono (by omega)) T.Walk_pulled.b .nil pass0 (pa_cons pe_int pa_nil))))))
      (pss_cons (ps_set (i := 3) sc_grouped.nd rfl (by first | exact Or.inl rfl | exact Or.inr rfl) (pe_callTy call_tupleA (by rfl) T.z_tuple (by decide +kernel) (pa_cons (pe_fld (pv 0) rfl) pa_nil)))
      (pss_cons (ps_fld (pv 0) (pe_ifExp (pt_cmpR op_isN (pv 2) pe_non (nomark _)) (pe_ld pa_nil) (pe_ld (pa_cons (pv 2) pa_nil))) rfl)
      (pss_one (ps_ret (pe_ifExp (pt_truth (pv 3) (by intro _; rfl)) (pe_td (pa_cons (pe_op op_mod (pe_ix ix_tupD (pv 3) pe_int (fun _ _ => rfl)) (pv 1)) (pa_cons (pv 3) pa_nil))) pe_non)))))))), ?_⟩
      walk_at "go"
      walk_at "f"
      walk_at "go"
      refine ⟨_, 1, 1, _, iv, rfl, rfl, rfl, fun v iv => ?_⟩
      obtain rfl := iv.i
      walk_at "go"
      refine ⟨_, _, _, rfl, hw, rfl, ?_⟩
      walk_at "go"
      refine .mk ⟨B, has, y, S, i, 0, x, S1, rfl, rfl, cr, hi, h0, R, e, fun u y1 H1 m1 R1 iu => ?_⟩
      refine ⟨fun m σ H2 => Hold (∃ (x : PyData) (u : V) (S2 : Ms) (y2 : Dy), σ = [some (.ref (B.ad (.wk i))), some (.int n), some u, none] ∧ grpL pl i n m x S2 = some (x9, S9) ∧ Mv K B has y H y2 H2 ∧ Rep K T.cs C B has y2 S2 H2 ∧ Im K H2 u x), ⟨L, .mk ⟨x, u, S1, y1, rfl, e9, m1, R1, iu⟩⟩, ?_⟩
      intro m σ H2 h
      obtain ⟨x, u, S2, y2, rfl, e2, m2, R2, iu⟩ := h.out
      have hw2 := R2.wk (cr.w i hi).1
      have ws2 := R2.ws (cr.w i hi).2.2.2.1
      cases m with
      | zero => cases e2
      | succ m =>
        unfold grpL at e2
        have last : ∀ (p : Addr) (H3 : Hp) (q2 : Addr) (H4 : Hp) (z : Option Int), x9 = x → S9 = S2 → x = (match z with | none => .none | some n => .int n) → Same H2 H3 → Im K H3 (.ref p) (.tuple ((S2.str i).map PyData.int)) → H3 q2 = none → Same H3 H4 → Acc K H4 q2 ((match z with | none => [] | some n => [n]).map PyData.int) →
            ∀ H5, But (B.ad (.wk i)) H4 H5 → H5 (B.ad (.wk i)) = some (.ins T.cs.w (B.dx (.wk i)) (wf (B.lv i) (.ref (B.ad (.wp i))) (.ref (B.ad .so)) (.ref (B.ad (.wm i))) (.int (S2.hold i)) (.bl (S2.over i)) (.bl (S2.loose i)) (.ref q2) (.ref (y2.h i)))) →
              ∃ (y5 : Dy) (S5 : Ms), S' = S5 ∧ Rep K T.cs C B has y5 S5 H5 ∧ Mv K B has y H y5 H5 ∧ Im K H5 (.ref p) (.tuple ((S2.str i).map PyData.int)) ∧ d = (if S2.str i = [] then .none else grD ((S2.str i).getD 0 0 % n, S2.str i)) := fun p H3 q2 H4 z ex es hz s3 ip nq s4 aq H5 b5 e5 => by
          subst ex
          subst es
          have R3 := R2.same s3
          obtain ⟨R5, m5⟩ := R3.newStr (cr.w i hi).1 (cr.w i hi).2.2.2.1 nq s4 aq b5 e5
          refine ⟨_, _, ?_, R5, m2.trans ((Mv.same s3).trans m5), ip.u m5.tk, ?_⟩
          · cases hm
            cases z with
            | none => subst hz; rfl
            | some n => subst hz; rfl
          · cases hm
            rfl
        by_cases c : x = .none
        · rw [if_pos c] at e2
          cases e2
          subst c
          cases iu
          walk_at "go"
          walk_at "f"
          refine ⟨_, _, rfl, ws2, fun p H3 s3 t3 ip => ?_⟩
          walk_at "go"
          refine ⟨[], .nil, by simp, fun q2 H4 nq s4 t4 aq => ?_⟩
          have hw4 := ((R2.same s3).same s4).wk (cr.w i hi).1
          walk_at "go"
          walk_at "fs"
          refine put (fun H5 b5 e5 => ?_)
          obtain ⟨y5, S5, rfl, R5, m5, ip5, rfl⟩ := last p H3 q2 H4 none rfl rfl rfl s3 ip nq s4 aq H5 b5 e5
          walk_at "go"
          refine ⟨_, im_emp ip5, ?_⟩
          cases es : S9.str i with
          | nil =>
            rw [es] at q
            refine ite_f rfl ?_
            walk_at "go"
            exact q _ _ _ m5 R5 .non
          | cons z zs =>
            rw [es] at q ip5
            refine ite_t rfl ?_
            walk_at "go"
            refine ⟨_, 0, 0, _, ip5, rfl, rfl, rfl, fun v iv => ?_⟩
            obtain rfl := iv.i
            walk_at "go"
            refine ⟨[.int (z % n), .tuple ((z :: zs).map PyData.int)], .cons (.int _) (.cons ip5 .nil), by simp, fun p6 H6 s6 t6 i6 => ?_⟩
            exact q _ _ _ (m5.trans (Mv.same s6)) (R5.same s6) i6
        · rw [if_neg c] at e2
          obtain ⟨hx, e2⟩ := gd_some e2
          cases x with
          | int z =>
            obtain rfl := iu.i
            walk_at "go"
            walk_at "f"
            obtain ⟨xs, sq, ee⟩ := acc_emp ws2
            refine ⟨_, .inl ⟨xs, sq, rfl⟩, ?_⟩
            rw [ee]
            have go : (S2.str i = [] ∨ z % n = (S2.str i).getD 0 0 % n) → ∃ x4 S4, pl (.at i 0) (S2.setStr i (S2.str i ++ [z])) = some (x4, S4) ∧ grpL pl i n m x4 S4 = some (x9, S9) ∧ (S2.str i).length < 90000 := fun cc => by
              rw [if_pos (show S2.str i = [] ∨ toI (.int z) % n = (S2.str i).getD 0 0 % n from cc)] at e2
              obtain ⟨hlen, e2⟩ := gd_some e2
              cases e3 : pl (.at i 0) (S2.setStr i (S2.str i ++ [z])) with
              | none =>
                have e2 : (match pl (.at i 0) (S2.setStr i (S2.str i ++ [z])) with
                  | none => none
                  | some (y, S1) => grpL pl i n m y S1) = some (x9, S9) := e2
                rw [e3] at e2; cases e2
              | some r =>
                obtain ⟨x4, S4⟩ := r
                have e2 : (match pl (.at i 0) (S2.setStr i (S2.str i ++ [z])) with
                  | none => none
                  | some (y, S1) => grpL pl i n m y S1) = some (x9, S9) := e2
                rw [e3] at e2
                exact ⟨x4, S4, rfl, e2, hlen⟩
            have stop : ¬ (S2.str i = [] ∨ z % n = (S2.str i).getD 0 0 % n) → x9 = .int z ∧ S9 = S2 := fun cc => by
              rw [if_neg (show ¬ (S2.str i = [] ∨ toI (.int z) % n = (S2.str i).getD 0 0 % n) from cc)] at e2
              cases e2
              exact ⟨rfl, rfl⟩
            have body : (S2.str i = [] ∨ z % n = (S2.str i).getD 0 0 % n) → ∃ N : L2.St → Hp → Prop, (∀ σ' H', N σ' H' → ∃ m', m' < m + 1 ∧ Hold (∃ (x : PyData) (u : V) (S2 : Ms) (y2 : Dy), σ' = [some (.ref (B.ad (.wk i))), some (.int n), some u, none] ∧ grpL pl i n m' x S2 = some (x9, S9) ∧ Mv K B has y H y2 H' ∧ Rep K T.cs C B has y2 S2 H' ∧ Im K H' u x)) ∧
                (tyV K "list" (.ref (y2.s i)) H2 ∧ ∃ l w ds d, V.ref (y2.s i) = .ref l ∧ [V.int z] = [w] ∧ Acc K H2 l ds ∧ Im K H2 w d ∧ ds.length < 1000000 ∧ ∀ H', But l H2 H' → TK K H2 H' → Acc K H' l (ds ++ [d]) →
                  (H' (B.ad (.wk i)) = some (.ins T.cs.w (B.dx (.wk i)) (wf (B.lv i) (.ref (B.ad (.wp i))) (.ref (B.ad .so)) (.ref (B.ad (.wm i))) (.int (S2.hold i)) (.bl (S2.over i)) (.bl (S2.loose i)) (.ref (y2.s i)) (.ref (y2.h i)))) ∧
                    Hold (∃ (B' : Bk) (has' : Lab → Prop) (y' : Dy) (S' : Ms) (i' s' : Nat) (d' : PyData) (S'' : Ms), V.ref (B.ad (.wk i)) = .ref (B'.ad (.wk i')) ∧ V.int 0 = .int (s' : Int) ∧ Core C has' ∧ i' < C.ls.length ∧ s' < nPl C i' ∧ Rep K T.cs C B' has' y' S' H' ∧ pl (.at i' s') S' = some (d', S'') ∧
                      ∀ u y'' H'', Mv K B' has' y' H' y'' H'' → Rep K T.cs C B' has' y'' S'' H'' → Im K H'' u d' → N [some (.ref (B.ad (.wk i))), some (.int n), some u, none] H''))) := fun cc => by
              obtain ⟨x4, S4, e3, e4, hlen⟩ := go cc
              refine ⟨fun σ H4 => Hold (∃ (x : PyData) (u : V) (S2 : Ms) (y2 : Dy), σ = [some (.ref (B.ad (.wk i))), some (.int n), some u, none] ∧ grpL pl i n m x S2 = some (x9, S9) ∧ Mv K B has y H y2 H4 ∧ Rep K T.cs C B has y2 S2 H4 ∧ Im K H4 u x), fun σ' H' h => ⟨m, Nat.lt_succ_self _, h⟩, acc_ty ws2, ?_⟩
              refine ⟨_, _, _, .int z, rfl, rfl, ws2, .int z, by rw [List.length_map]; omega, fun H3 b3 t3 a3 => ?_⟩
              have R3 := R2.addStr (n := z) (cr.w i hi).2.2.2.1 b3 a3
              have m3 := m2.trans (R2.mvw (K := K) (l := .ws i) (cr.w i hi).2.2.2.1 b3)
              refine ⟨R3.wk (cr.w i hi).1, .mk ⟨B, has, y2, _, i, 0, x4, S4, rfl, rfl, cr, hi, h0, R3, e3, fun u y4 H4 m4 R4 iu4 => .mk ⟨x4, u, S4, y4, rfl, e4, m3.trans m4, R4, iu4⟩⟩⟩
            cases es : S2.str i with
            | nil =>
              refine ite_t rfl ?_
              walk_at "go"
              obtain ⟨N, n1, n2, l', w', ds', d', r1, r2, r3, r4, r5, r6⟩ := body (.inl es)
              refine ⟨N, n1, ?_⟩
              walk_at "go"
              walk_at "f"
              refine ⟨n2, ?_⟩
              walk_at "go"
              refine ⟨l', w', ds', d', r1, r2, r3, r4, r5, fun H' b' t' a' => ?_⟩
              obtain ⟨g1, g2⟩ := r6 H' b' t' a'
              walk_at "go"
              refine ⟨_, _, _, rfl, g1, rfl, ?_⟩
              walk_at "go"
              exact g2
            | cons z0 zs =>
              refine ite_f rfl ?_
              walk_at "go"
              walk_at "f"
              walk_at "go"
              refine ⟨_, _, 0, 0, .int z0, rfl, ws2, rfl, rfl, by rw [es]; rfl, fun v iv => ?_⟩
              obtain rfl := iv.i
              walk_at "go"
              by_cases c2 : z % n = z0 % n
              · refine ite_t (dv_t c2) ?_
                obtain ⟨N, n1, n2, l', w', ds', d', r1, r2, r3, r4, r5, r6⟩ := body (.inr (by rw [es]; exact c2))
                refine ⟨N, n1, ?_⟩
                walk_at "go"
                walk_at "f"
                refine ⟨n2, ?_⟩
                walk_at "go"
                refine ⟨l', w', ds', d', r1, r2, r3, r4, r5, fun H' b' t' a' => ?_⟩
                obtain ⟨g1, g2⟩ := r6 H' b' t' a'
                walk_at "go"
                refine ⟨_, _, _, rfl, g1, rfl, ?_⟩
                walk_at "go"
                exact g2
              · refine ite_f (dv_f c2) ?_
                obtain ⟨ex9, es9⟩ := stop (fun h => by
                  rcases h with h | h
                  · rw [es] at h; cases h
                  · rw [es] at h; exact c2 h)
                walk_at "go"
                walk_at "f"
                refine ⟨_, _, rfl, ws2, fun p H3 s3 t3 ip => ?_⟩
                walk_at "go"
                refine ⟨[.int z], .cons (.int z) .nil, by simp, fun q2 H4 nq s4 t4 aq => ?_⟩
                have hw4 := ((R2.same s3).same s4).wk (cr.w i hi).1
                walk_at "go"
                walk_at "fs"
                refine put (fun H5 b5 e5 => ?_)
                obtain ⟨y5, S5, rfl, R5, m5, ip5, rfl⟩ := last p H3 q2 H4 (some z) ex9 es9 rfl s3 ip nq s4 aq H5 b5 e5
                walk_at "go"
                refine ⟨_, im_emp ip5, ?_⟩
                rw [es] at q ip5
                refine ite_t (by rw [es]; rfl) ?_
                walk_at "go"
                refine ⟨_, 0, 0, _, ip5, rfl, rfl, rfl, fun v iv => ?_⟩
                obtain rfl := iv.i
                walk_at "go"
                refine ⟨[.int (z0 % n), .tuple ((z0 :: zs).map PyData.int)], .cons (.int _) (.cons ip5 .nil), by simp, fun p6 H6 s6 t6 i6 => ?_⟩
                exact q _ _ _ (m5.trans (Mv.same s6)) (R5.same s6) i6
          | _ => exact hx.elim

theorem ok_windowed (T : Tx P K w mg) {C : Ct} {pl : Pull} {L k : Nat} (ok : CtOk C) (hk : 20 ≤ k) (hp : FnOk P w K mg base CX0 k T.Place_pull.f T.Place_pull.fd ["self"] (spPull K T.cs C pl)) : FnOk P w K mg base CX0 (k + 3) T.windowed.f T.windowed.fd ["walk"] (spStep K T.cs C pl L fun l => ∃ n a, l = .window n a) := by
  refine T.windowed.F.ok sc_windowed (fun vs H Q E h => ?_) (fun cdv A outer s H vs Q E hr h => ?_)
  · obtain ⟨a, rfl, _⟩ := h
    rfl
  obtain ⟨v, rfl, h⟩ := h
  obtain ⟨B, has, y, S, i, l, d, S', rfl, cr, hl, ⟨n, a, rfl⟩, R, hm, q⟩ := h.out
  have hi := (List.getElem?_eq_some_iff.mp hl).1
  have hw := R.wk (cr.w i hi).1
  have h0 : 0 < nPl C i := by rw [nPl_of hl]; exact Nat.zero_lt_one
  have ht := ok.tgt hl (s := 0) Nat.zero_lt_one
  have hti : C.tgt (.at i 0) < C.ls.length := by omega
  have hwp := R.wp (cr.w i hi).2.1
  have hwm := R.wm (cr.w i hi).2.2.1
  unfold stepL at hm
  dsimp only at hm
  cases e : skipL pl i ((S.made i).length + n) L S with
  | none => rw [e] at hm; cases hm
  | some r =>
    obtain ⟨b0, S9⟩ := r
    rw [e] at hm
    dsimp only at hm
    refine ⟨_, (pss_cons (ps_set (i := 1) sc_windowed.nd rfl (by first | exact Or.inl rfl | exact Or.inr rfl) (pe_ix ix_list (pe_fld (pv 0) rfl) pe_int (fun _ _ => rfl)))
      (pss_cons (ps_set (i := 2) sc_windowed.nd rfl (by first | exact Or.inl rfl | exact Or.inr rfl) (pe_callB call_lenA (by rfl) T.z_len PySem.boot_len (pa_cons (pe_fld (pv 0) rfl) pa_nil)))
      (pss_cons (ps_while PassesOwn.never (pt_cmpR op_lt (pe_fld (pv 1) rfl) (pe_op op_add (pv 2) (pe_ix ix_tupD (pe_fld (pv 0) rfl) pe_int (fun _ _ => rfl))) (nomark _)) (pss_one (ps_if (pt_cmpR op_isN (pe_meth0 (pv 1) T.k_Place.cl T.Place_pull.h hp (hr.mono (by omega)) T.Place_pull.b .nil pass0) pe_non (nomark _)) (pss_one (ps_ret pe_non)) pss_nil)))
      (pss_one (ps_ret (pe_callTy call_tupleA (by rfl) T.z_tuple (by decide +kernel) (pa_cons (pe_slice sl_listD (pe_fld (pe_fld (pv 1) rfl) rfl) (po_some (pv 2)) (po_some (pe_fld (pv 1) rfl))) pa_nil))))))), ?_⟩
    walk_at "go"
    walk_at "f"
    walk_at "go"
    refine ⟨_, _, _, _, rfl, rfl, SqL.of hwp, atI_nat (j := 0) (by rw [List.getElem?_map, List.getElem?_range h0]; rfl), ?_⟩
    walk_at "go"
    walk_at "f"
    refine ⟨_, _, rfl, hwm, ?_⟩
    walk_at "go"
    generalize (S.made i).length = st at e hm
    refine ⟨fun m σ H2 => Hold (∃ (S2 : Ms) (y2 : Dy), σ = [some (.ref (B.ad (.wk i))), some (.ref (B.ad (.pl (.at i 0)))), some (.int (st : Int))] ∧ skipL pl i (st + n) m S2 = some (b0, S9) ∧ Mv K B has y H y2 H2 ∧ Rep K T.cs C B has y2 S2 H2), ⟨L, .mk ⟨S, y, rfl, e, Mv.refl, R⟩⟩, ?_⟩
    intro m σ H2 h
    obtain ⟨S2, y2, rfl, e2, m2, R2⟩ := h.out
    have hw2 := R2.wk (cr.w i hi).1
    have hpl2 := R2.pl (cr.p i 0 hi h0)
    have iv2 := R2.ln i _ hl (cr.w i hi).1
    cases m with
    | zero => cases e2
    | succ m =>
      unfold skipL at e2
      walk_at "go"
      walk_at "f"
      walk_at "go"
      walk_at "f"
      walk_at "go"
      refine ⟨_, 1, 1, _, iv2, rfl, rfl, rfl, fun v iv => ?_⟩
      obtain rfl := iv.i
      walk_at "go"
      refine ite_d (fun c => ?_) (fun c => ?_)
      · rw [if_pos c] at e2
        cases e3 : pl (.at i 0) S2 with
        | none => rw [e3] at e2; cases e2
        | some r =>
          obtain ⟨x4, S4⟩ := r
          rw [e3] at e2
          dsimp only at e2
          refine ⟨fun σ H4 => Hold (∃ (S2 : Ms) (y2 : Dy), σ = [some (.ref (B.ad (.wk i))), some (.ref (B.ad (.pl (.at i 0)))), some (.int (st : Int))] ∧ skipL pl i (st + n) m S2 = some (b0, S9) ∧ Mv K B has y H y2 H4 ∧ Rep K T.cs C B has y2 S2 H4), fun σ' H' h => ⟨m, Nat.lt_succ_self _, h⟩, ?_⟩
          walk_at "go"
          refine ⟨_, _, _, rfl, hpl2, rfl, ?_⟩
          walk_at "go"
          refine .mk ⟨B, has, y2, S2, .at i 0, x4, S4, rfl, cr, cr.p i 0 hi h0, hti, R2, e3, fun u y4 H4 m4 R4 iu4 => ?_⟩
          walk_at "go"
          by_cases c2 : x4 = .none
          · rw [if_pos c2] at e2
            cases e2
            cases hm
            subst c2
            cases iu4
            walk_at "go"
            exact q _ _ _ (m2.trans m4) R4 .non
          · rw [if_neg c2] at e2
            refine ite_f (decide_eq_false (im_ne iu4 c2)) ?_
            walk_at "go"
            exact .mk ⟨S4, y4, rfl, e2, m2.trans m4, R4⟩
      · rw [if_neg c] at e2
        cases e2
        cases hm
        have hwt := R2.wk (cr.w _ hti).1
        have hwmt := R2.wm (cr.w _ hti).2.2.1
        walk_at "go"
        walk_at "f"
        walk_at "f"
        walk_at "go"
        walk_at "f"
        walk_at "go"
        refine ⟨_, _, rfl, hwmt, fun p3 H3 n3 s3 t3 a3 => ?_⟩
        rw [cut_tk] at a3
        walk_at "go"
        refine ⟨_, _, rfl, a3, fun p4 H4 s4 t4 i4 => ?_⟩
        exact q _ _ _ (m2.trans (Mv.same (s3.trans s4))) (R2.same (s3.trans s4)) i4

def spFolded (K : PySem.W.Frag) : Sp := fun vs H Q _ => ∃ (vw v1 v2 : V), vs = [vw, v1, v2] ∧ Hold (∃ (f : Fw) (a b : Int), vw = .str f.s ∧ v1 = .int a ∧ v2 = .int b ∧ Num a ∧ Num b ∧ Q (.int (foldF f a b)) H)
theorem ok_folded (T : Tx P K w mg) : FnOk P w K mg base CX0 1 T.folded.f T.folded.fd ["word", "one", "other"] (spFolded K) := by
  refine T.folded.F.ok sc_folded (fun vs H Q E h => ?_) (fun cdv A outer s H vs Q E hr h => ?_)
  · obtain ⟨a, vk, vj, rfl, _⟩ := h
    rfl
  obtain ⟨vw, v1, v2, rfl, h⟩ := h
  obtain ⟨f, a, b, rfl, rfl, rfl, ⟨ha1, ha2⟩, ⟨hb1, hb2⟩, q⟩ := h.out
  refine ⟨_, (pss_cons (ps_if (pt_cmpR op_eq (pv 0) pe_str (nomark _)) (pss_one (ps_ret (pe_op op_mod (pe_op op_add (pv 1) (pv 2)) (pe_glob (v := .int 1000003) (by rfl) T.c_REST.g ⟨_, rfl⟩)))) pss_nil)
      (pss_cons (ps_if (pt_cmpR op_eq (pv 0) pe_str (nomark _)) (pss_one (ps_ret (pe_op op_mod (pe_op op_mul (pv 1) (pv 2)) (pe_glob (v := .int 1000003) (by rfl) T.c_REST.g ⟨_, rfl⟩)))) pss_nil)
      (pss_cons (ps_if (pt_cmpR op_eq (pv 0) pe_str (nomark _)) (pss_one (ps_ret (pe_callB (call_min2N rfl) (by rfl) T.z_min (by decide +kernel) (pa_cons (pv 1) (pa_cons (pv 2) pa_nil))))) pss_nil)
      (pss_one (ps_ret (pe_callB (call_max2N rfl) (by rfl) T.z_max (by decide +kernel) (pa_cons (pv 1) (pa_cons (pv 2) pa_nil)))))))), ?_⟩
  cases f <;> walk_at "go" <;> exact q

theorem ok_folded_on (T : Tx P K w mg) {C : Ct} {pl : Pull} {L k : Nat} (ok : CtOk C) (hk : 20 ≤ k) (hp : FnOk P w K mg base CX0 k T.Place_pull.f T.Place_pull.fd ["self"] (spPull K T.cs C pl)) : FnOk P w K mg base CX0 (k + 3) T.folded_on.f T.folded_on.fd ["walk"] (spStep K T.cs C pl L fun l => ∃ f n a, l = .fold f n a) := by
  refine T.folded_on.F.ok sc_folded_on (fun vs H Q E h => ?_) (fun cdv A outer s H vs Q E hr h => ?_)
  · obtain ⟨a, rfl, _⟩ := h
    rfl
  obtain ⟨v, rfl, h⟩ := h
  obtain ⟨B, has, y, S, i, l, d, S', rfl, cr, hl, ⟨f, n, a, rfl⟩, R, hm, q⟩ := h.out
  have hi := (List.getElem?_eq_some_iff.mp hl).1
  have hw := R.wk (cr.w i hi).1
  have h0 : 0 < nPl C i := by rw [nPl_of hl]; exact Nat.zero_lt_one
  unfold stepL at hm
  dsimp only at hm
  cases e : pl (.at i 0) S with
  | none => rw [e] at hm; cases hm
  | some r =>
    obtain ⟨x, S1⟩ := r
    rw [e] at hm
    dsimp only at hm
    refine ⟨_, (pss_cons (ps_set (i := 1) sc_folded_on.nd rfl (by first | exact Or.inl rfl | exact Or.inr rfl) (pe_meth (pv 0) T.k_Walk.cl T.Walk_pulled.h (ok_Walk_pulled T ok hp) (hr.mono (by omega)) T.Walk_pulled.b .nil pass0 (pa_cons pe_int pa_nil)))
      (pss_cons (ps_if (pt_cmpR op_isN (pv 1) pe_non (nomark _)) (pss_one (ps_ret pe_non)) pss_nil)
      (pss_cons (ps_set (i := 2) sc_folded_on.nd rfl (by first | exact Or.inl rfl | exact Or.inr rfl) (pe_ifExp (pt_truth (pe_fld (pv 0) rfl) (by intro _; rfl)) (pe_ix ix_listN (pe_fld (pv 0) rfl) (pe_un un_neg pe_int) (fun _ _ => rfl)) (pe_ix ix_tupD (pe_fld (pv 0) rfl) pe_int (fun _ _ => rfl))))
      (pss_one (ps_ret (pe_call (ok_folded T) (hr.mono (by omega)) (by rfl) T.folded.g T.folded.F.kp T.folded.b .nil pass0 (pa_cons (pe_ix ix_tupD (pe_fld (pv 0) rfl) pe_int (fun _ _ => rfl)) (pa_cons (pv 2) (pa_cons (pv 1) pa_nil))))))))), ?_⟩
    walk_at "go"
    refine ⟨_, _, _, rfl, hw, rfl, ?_⟩
    walk_at "go"
    refine .mk ⟨B, has, y, S, i, 0, x, S1, rfl, rfl, cr, hi, h0, R, e, fun u y1 H1 m1 R1 iu => ?_⟩
    have hw1 := R1.wk (cr.w i hi).1
    have hwm1 := R1.wm (cr.w i hi).2.2.1
    have iv1 := R1.ln i _ hl (cr.w i hi).1
    walk_at "go"
    by_cases c : x = .none
    · rw [if_pos c] at hm
      cases hm
      subst c
      cases iu
      walk_at "go"
      exact q _ _ _ m1 R1 .non
    · rw [if_neg c] at hm
      obtain ⟨⟨hx, hy⟩, hm⟩ := gd_some hm
      obtain ⟨z, rfl, hz⟩ := hx.int
      obtain rfl := iu.i
      walk_at "go"
      obtain ⟨xs, sq, ee⟩ := acc_emp hwm1
      walk_at "f"
      refine ⟨_, .inl ⟨xs, sq, rfl⟩, ?_⟩
      rw [ee]
      cases em : (S1.made i) with
      | nil =>
        rw [em] at hm hy
        cases hm
        obtain ⟨z0, e0, hz0⟩ := hy.int
        cases e0
        refine ite_f rfl ?_
        walk_at "go"
        walk_at "f"
        walk_at "go"
        refine ⟨_, 2, 2, _, iv1, rfl, rfl, rfl, fun v iv => ?_⟩
        obtain rfl := iv.i
        walk_at "go"
        walk_at "f"
        walk_at "go"
        refine ⟨_, 1, 1, _, iv1, rfl, rfl, rfl, fun v iv => ?_⟩
        obtain rfl := iv.s
        walk_at "go"
        exact .mk ⟨f, _, z, rfl, rfl, rfl, hz0, hz, q _ _ _ m1 R1 (.int _)⟩
      | cons m0 ms =>
        obtain ⟨ini, la, el⟩ : ∃ ini la, m0 :: ms = ini ++ [la] := ⟨_, _, (List.dropLast_concat_getLast (List.cons_ne_nil m0 ms)).symm⟩
        rw [em, el] at hm hy hwm1
        have gl : (ini ++ [la]).getLastD (.int n) = la := by simp
        rw [gl] at hm hy
        cases hm
        obtain ⟨z0, rfl, hz0⟩ := hy.int
        refine ite_t rfl ?_
        walk_at "go"
        walk_at "f"
        walk_at "go"
        refine ⟨_, _, _, ini.length, .int z0, rfl, hwm1, rfl, ?_, by simp, fun v iv => ?_⟩
        · unfold ixN
          rw [List.length_append]
          simp
          omega
        obtain rfl := iv.i
        walk_at "go"
        walk_at "f"
        walk_at "go"
        refine ⟨_, 1, 1, _, iv1, rfl, rfl, rfl, fun v iv => ?_⟩
        obtain rfl := iv.s
        walk_at "go"
        exact .mk ⟨f, _, z, rfl, rfl, rfl, hz0, hz, q _ _ _ m1 R1 (.int _)⟩

theorem ok_chained (T : Tx P K w mg) {C : Ct} {pl : Pull} {L k : Nat} (ok : CtOk C) (hk : 20 ≤ k) (hp : FnOk P w K mg base CX0 k T.Place_pull.f T.Place_pull.fd ["self"] (spPull K T.cs C pl)) : FnOk P w K mg base CX0 (k + 3) T.chained.f T.chained.fd ["walk"] (spStep K T.cs C pl L fun l => ∃ a b, l = .chain a b) := by
  refine T.chained.F.ok sc_chained (fun vs H Q E h => ?_) (fun cdv A outer s H vs Q E hr h => ?_)
  · obtain ⟨a, rfl, _⟩ := h
    rfl
  obtain ⟨v, rfl, h⟩ := h
  obtain ⟨B, has, y, S, i, l, d, S', rfl, cr, hl, ⟨a, b, rfl⟩, R, hm, q⟩ := h.out
  have hi := (List.getElem?_eq_some_iff.mp hl).1
  have hw := R.wk (cr.w i hi).1
  have h0 : 0 < nPl C i := by rw [nPl_of hl]; exact Nat.zero_lt_succ _
  have h1 : 1 < nPl C i := by rw [nPl_of hl]; exact Nat.lt_succ_self _
  unfold stepL at hm
  dsimp only at hm
  cases e : pl (.at i 0) S with
  | none => rw [e] at hm; cases hm
  | some r =>
    obtain ⟨x, S1⟩ := r
    rw [e] at hm
    dsimp only at hm
    refine ⟨_, (pss_cons (ps_set (i := 1) sc_chained.nd rfl (by first | exact Or.inl rfl | exact Or.inr rfl) (pe_meth (pv 0) T.k_Walk.cl T.Walk_pulled.h (ok_Walk_pulled T ok hp) (hr.mono (by omega)) T.Walk_pulled.b .nil pass0 (pa_cons pe_int pa_nil)))
      (pss_cons (ps_if (pt_cmpR op_isN (pv 1) pe_non (nomark _)) (pss_one (ps_ret (pe_meth (pv 0) T.k_Walk.cl T.Walk_pulled.h (ok_Walk_pulled T ok hp) (hr.mono (by omega)) T.Walk_pulled.b .nil pass0 (pa_cons pe_int pa_nil)))) pss_nil)
      (pss_one (ps_ret (pv 1))))), ?_⟩
    walk_at "go"
    refine ⟨_, _, _, rfl, hw, rfl, ?_⟩
    walk_at "go"
    refine .mk ⟨B, has, y, S, i, 0, x, S1, rfl, rfl, cr, hi, h0, R, e, fun u y1 H1 m1 R1 iu => ?_⟩
    have hw1 := R1.wk (cr.w i hi).1
    walk_at "go"
    by_cases c : x = .none
    · rw [if_pos c] at hm
      subst c
      cases iu
      walk_at "go"
      refine ⟨_, _, _, rfl, hw1, rfl, ?_⟩
      walk_at "go"
      exact .mk ⟨B, has, y1, S1, i, 1, d, S', rfl, rfl, cr, hi, h1, R1, hm, fun u y5 H5 m5 R5 iu5 => q u y5 H5 (m1.trans m5) R5 iu5⟩
    · rw [if_neg c] at hm
      cases hm
      refine ite_f (decide_eq_false (im_ne iu c)) ?_
      walk_at "go"
      exact q _ _ _ m1 R1 iu

theorem hd_at {S : Ms} {i s : Nat} (h : s ≤ 1) : [S.h0 i, S.h1 i][s]? = some (S.hd i s) := by
  match s, h with
  | 0, _ => rfl
  | 1, _ => rfl
theorem ok_Walk_holding (T : Tx P K w mg) {C : Ct} {pl : Pull} {k : Nat} (ok : CtOk C) (hp : FnOk P w K mg base CX0 k T.Place_pull.f T.Place_pull.fd ["self"] (spPull K T.cs C pl)) : FnOk P w K mg base CX0 (k + 2) T.Walk_holding.f T.Walk_holding.fd ["self", "side"] (spHolding K T.cs C pl) := by
  refine T.Walk_holding.F.ok sc_Walk_holding (fun vs H Q E h => ?_) (fun cdv A outer s H vs Q E hr h => ?_)
  · obtain ⟨a, b, rfl, _⟩ := h
    rfl
  obtain ⟨v1, v2, rfl, h⟩ := h
  obtain ⟨B, has, y, S, i, s1, d, S', rfl, rfl, s2, cr, hi, hs, R, hm, q⟩ := h.out
  have hw := R.wk (cr.w i hi).1
  have hwh := R.wh (cr.w i hi).2.2.2.2
  unfold holdM at hm
  refine ⟨_, (pss_cons (ps_if (pt_cmpR op_isN (pe_ix ix_listA (pe_fld (pv 0) rfl) (pv 1) (fun _ _ => rfl)) pe_non (nomark _)) (pss_one (ps_asg (pe_meth (pv 0) T.k_Walk.cl T.Walk_pulled.h (ok_Walk_pulled T ok hp) (hr.mono (by omega)) T.Walk_pulled.b .nil pass0 (pa_cons (pv 1) pa_nil)) (pg_sub (pe_fld (pv 0) rfl) (pv 1) set_listN))) pss_nil)
      (pss_one (ps_ret (pe_ix ix_listA (pe_fld (pv 0) rfl) (pv 1) (fun _ _ => rfl))))), ?_⟩
  walk_at "go"
  walk_at "f"
  walk_at "go"
  refine ⟨_, _, _, s1, _, rfl, hwh, rfl, rfl, hd_at s2, fun u iu => ?_⟩
  walk_at "go"
  by_cases c : S.hd i s1 = .none
  · rw [if_pos c] at hm
    rw [c] at iu
    cases iu
    cases e : pl (.at i s1) S with
    | none => rw [e] at hm; cases hm
    | some r =>
      obtain ⟨x, S1⟩ := r
      rw [e] at hm
      cases hm
      walk_at "go"
      refine ⟨_, _, _, rfl, hw, rfl, ?_⟩
      walk_at "go"
      refine .mk ⟨B, has, y, S, i, s1, _, S1, rfl, rfl, cr, hi, hs, R, e, fun u y1 H1 m1 R1 iu => ?_⟩
      have hw1 := R1.wk (cr.w i hi).1
      have hwh1 := R1.wh (cr.w i hi).2.2.2.2
      obtain ⟨vs, e1, i1⟩ := id hwh1
      have vl := i1.len
      walk_at "go"
      walk_at "f"
      walk_at "go"
      refine ⟨_, vs, vs.set s1 u, _, s1, rfl, rfl, e1, ?_, rfl, fun H2 b2 t2 e2 => ?_⟩
      · rw [vl]
        exact ixN_int (by omega) (by show (s1 : Int) < ((2 : Nat) : Int); omega)
      have a2 : Acc K H2 (y1.h i) (if s1 = 0 then [d, S1.h1 i] else [S1.h0 i, d]) := by
        cases i1 with
        | cons g1 g2 =>
          cases g2 with
          | cons g2 g3 =>
            cases g3
            match s1, s2 with
            | 0, _ => exact ⟨_, e2, .cons (iu.u t2) (.cons (g2.u t2) .nil)⟩
            | 1, _ => exact ⟨_, e2, .cons (g1.u t2) (.cons (iu.u t2) .nil)⟩
      have R2 := R1.setH (s := s1) (d := d) (cr.w i hi).2.2.2.2 b2 a2
      have m2 := m1.trans (R1.mvw (K := K) (l := .wh i) (cr.w i hi).2.2.2.2 b2)
      have hw2 := R2.wk (cr.w i hi).1
      have hwh2 := R2.wh (cr.w i hi).2.2.2.2
      walk_at "go"
      walk_at "f"
      walk_at "go"
      refine ⟨_, _, _, s1, d, rfl, a2, rfl, rfl, ?_, fun u2 iu2 => q _ _ _ m2 R2 iu2⟩
      match s1, s2 with
      | 0, _ => rfl
      | 1, _ => rfl
  · rw [if_neg c] at hm
    cases hm
    refine ite_f (decide_eq_false (im_ne iu c)) ?_
    walk_at "go"
    walk_at "f"
    walk_at "go"
    refine ⟨_, _, _, s1, _, rfl, hwh, rfl, rfl, hd_at s2, fun u iu => q _ _ _ Mv.refl R iu⟩

theorem ok_paired (T : Tx P K w mg) {C : Ct} {pl : Pull} {L k : Nat} (ok : CtOk C) (hk : 20 ≤ k) (hp : FnOk P w K mg base CX0 k T.Place_pull.f T.Place_pull.fd ["self"] (spPull K T.cs C pl)) : FnOk P w K mg base CX0 (k + 3) T.paired.f T.paired.fd ["walk"] (spStep K T.cs C pl L fun l => ∃ a b, l = .pair a b) := by
  refine T.paired.F.ok sc_paired (fun vs H Q E h => ?_) (fun cdv A outer s H vs Q E hr h => ?_)
  · obtain ⟨a, rfl, _⟩ := h
    rfl
  obtain ⟨v, rfl, h⟩ := h
  obtain ⟨B, has, y, S, i, l, d, S', rfl, cr, hl, ⟨a, b, rfl⟩, R, hm, q⟩ := h.out
  have hi := (List.getElem?_eq_some_iff.mp hl).1
  have hw := R.wk (cr.w i hi).1
  have h0 : 0 < nPl C i := by rw [nPl_of hl]; exact Nat.zero_lt_succ _
  have h1 : 1 < nPl C i := by rw [nPl_of hl]; exact Nat.lt_succ_self _
  unfold stepL at hm
  dsimp only at hm
  cases e : holdM pl i 0 S with
  | none => rw [e] at hm; cases hm
  | some r =>
    obtain ⟨x, S1⟩ := r
    rw [e] at hm
    dsimp only at hm
    refine ⟨_, (pss_cons (ps_set (i := 1) sc_paired.nd rfl (by first | exact Or.inl rfl | exact Or.inr rfl) (pe_meth (pv 0) T.k_Walk.cl T.Walk_holding.h (ok_Walk_holding T ok hp) (hr.mono (by omega)) T.Walk_holding.b .nil pass0 (pa_cons pe_int pa_nil)))
      (pss_cons (ps_if (pt_cmpR op_isN (pv 1) pe_non (nomark _)) (pss_one (ps_ret pe_non)) pss_nil)
      (pss_cons (ps_set (i := 2) sc_paired.nd rfl (by first | exact Or.inl rfl | exact Or.inr rfl) (pe_meth (pv 0) T.k_Walk.cl T.Walk_holding.h (ok_Walk_holding T ok hp) (hr.mono (by omega)) T.Walk_holding.b .nil pass0 (pa_cons pe_int pa_nil)))
      (pss_cons (ps_if (pt_cmpR op_isN (pv 2) pe_non (nomark _)) (pss_one (ps_ret pe_non)) pss_nil)
      (pss_cons (ps_fld (pv 0) (pe_ld (pa_cons pe_non (pa_cons pe_non pa_nil))) rfl)
      (pss_one (ps_ret (pe_td (pa_cons (pv 1) (pa_cons (pv 2) pa_nil)))))))))), ?_⟩
    walk_at "go"
    refine ⟨_, _, _, rfl, hw, rfl, ?_⟩
    walk_at "go"
    refine .mk ⟨B, has, y, S, i, 0, x, S1, rfl, rfl, by omega, cr, hi, h0, R, e, fun u y1 H1 m1 R1 iu => ?_⟩
    have hw1 := R1.wk (cr.w i hi).1
    walk_at "go"
    by_cases c : x = .none
    · rw [if_pos c] at hm
      cases hm
      subst c
      cases iu
      walk_at "go"
      exact q _ _ _ m1 R1 .non
    · rw [if_neg c] at hm
      refine ite_f (decide_eq_false (im_ne iu c)) ?_
      cases e2 : holdM pl i 1 S1 with
      | none => rw [e2] at hm; cases hm
      | some r =>
        obtain ⟨x2, S2⟩ := r
        rw [e2] at hm
        dsimp only at hm
        walk_at "go"
        refine ⟨_, _, _, rfl, hw1, rfl, ?_⟩
        walk_at "go"
        refine .mk ⟨B, has, y1, S1, i, 1, x2, S2, rfl, rfl, by omega, cr, hi, h1, R1, e2, fun u2 y2 H2 m2 R2 iu2 => ?_⟩
        walk_at "go"
        have m12 := m1.trans m2
        by_cases c2 : x2 = .none
        · rw [if_pos c2] at hm
          cases hm
          subst c2
          cases iu2
          walk_at "go"
          exact q _ _ _ m12 R2 .non
        · rw [if_neg c2] at hm
          cases hm
          refine ite_f (decide_eq_false (im_ne iu2 c2)) ?_
          walk_at "go"
          refine ⟨[.none, .none], .cons .non (.cons .non .nil), by simp, fun q3 H3 nq s3 t3 aq => ?_⟩
          have hw3 := (R2.same s3).wk (cr.w i hi).1
          walk_at "go"
          walk_at "fs"
          refine put (fun H4 b4 e4 => ?_)
          obtain ⟨R4, m4⟩ := R2.newHeld (cr.w i hi).1 (cr.w i hi).2.2.2.2 nq s3 aq b4 e4
          have m14 := m12.trans m4
          walk_at "go"
          refine ⟨[x, x2], .cons (iu.u (m2.tk.trans m4.tk)) (.cons (iu2.u m4.tk) .nil), by simp, fun p5 H5 s5 t5 i5 => ?_⟩
          exact q _ _ _ (m14.trans (Mv.same s5)) (R4.same s5) i5

theorem ok_merged (T : Tx P K w mg) {C : Ct} {pl : Pull} {L k : Nat} (ok : CtOk C) (hk : 20 ≤ k) (hp : FnOk P w K mg base CX0 k T.Place_pull.f T.Place_pull.fd ["self"] (spPull K T.cs C pl)) : FnOk P w K mg base CX0 (k + 3) T.merged.f T.merged.fd ["walk"] (spStep K T.cs C pl L fun l => ∃ a b, l = .merge a b) := by
  refine T.merged.F.ok sc_merged (fun vs H Q E h => ?_) (fun cdv A outer s H vs Q E hr h => ?_)
  · obtain ⟨a, rfl, _⟩ := h
    rfl
  obtain ⟨v, rfl, h⟩ := h
  obtain ⟨B, has, y, S, i, l, d, S', rfl, cr, hl, ⟨a, b, rfl⟩, R, hm, q⟩ := h.out
  have hi := (List.getElem?_eq_some_iff.mp hl).1
  have hw := R.wk (cr.w i hi).1
  have h0 : 0 < nPl C i := by rw [nPl_of hl]; exact Nat.zero_lt_succ _
  have h1 : 1 < nPl C i := by rw [nPl_of hl]; exact Nat.lt_succ_self _
  unfold stepL at hm
  dsimp only at hm
  cases e : holdM pl i 0 S with
  | none => rw [e] at hm; cases hm
  | some r =>
    obtain ⟨x, S1⟩ := r
    rw [e] at hm
    dsimp only at hm
    cases e2 : holdM pl i 1 S1 with
    | none => rw [e2] at hm; cases hm
    | some r =>
      obtain ⟨x2, S2⟩ := r
      rw [e2] at hm
      dsimp only at hm
      obtain ⟨⟨hx, hx2⟩, hm⟩ := gd_some hm
      refine ⟨_, (pss_cons (ps_set (i := 1) sc_merged.nd rfl (by first | exact Or.inl rfl | exact Or.inr rfl) (pe_meth (pv 0) T.k_Walk.cl T.Walk_holding.h (ok_Walk_holding T ok hp) (hr.mono (by omega)) T.Walk_holding.b .nil pass0 (pa_cons pe_int pa_nil)))
      (pss_cons (ps_set (i := 2) sc_merged.nd rfl (by first | exact Or.inl rfl | exact Or.inr rfl) (pe_meth (pv 0) T.k_Walk.cl T.Walk_holding.h (ok_Walk_holding T ok hp) (hr.mono (by omega)) T.Walk_holding.b .nil pass0 (pa_cons pe_int pa_nil)))
      (pss_cons (ps_if (PW.pt (pw_or (pt_cmpR op_isN (pv 1) pe_non (nomark _)) (pw_or1 (PW.pt (pw_and (pt_cmpR op_notN (pv 2) pe_non (nomark _)) (pw_and1 (pt_cmpR op_lt (pv 2) (pv 1) (nomark _)))))))) (pss_cons (ps_asg pe_non (pg_sub (pe_fld (pv 0) rfl) pe_int set_listN))
      (pss_one (ps_ret (pv 2)))) pss_nil)
      (pss_cons (ps_asg pe_non (pg_sub (pe_fld (pv 0) rfl) pe_int set_listN))
      (pss_one (ps_ret (pv 1))))))), ?_⟩
      walk_at "go"
      refine ⟨_, _, _, rfl, hw, rfl, ?_⟩
      walk_at "go"
      refine .mk ⟨B, has, y, S, i, 0, x, S1, rfl, rfl, by omega, cr, hi, h0, R, e, fun u y1 H1 m1 R1 iu => ?_⟩
      have hw1 := R1.wk (cr.w i hi).1
      walk_at "go"
      refine ⟨_, _, _, rfl, hw1, rfl, ?_⟩
      walk_at "go"
      refine .mk ⟨B, has, y1, S1, i, 1, x2, S2, rfl, rfl, by omega, cr, hi, h1, R1, e2, fun u2 y2 H2 m2 R2 iu2 => ?_⟩
      have iu := iu.u m2.tk
      have hw2 := R2.wk (cr.w i hi).1
      have hwh2 := R2.wh (cr.w i hi).2.2.2.2
      obtain ⟨vs, ev, i1⟩ := id hwh2
      have vl := i1.len
      have m12 := m1.trans m2
      have setA : ∀ (s1 : Nat) (s2 : s1 ≤ 1) (z : PyData) (u0 : V) , S' = S2.setH i s1 .none → d = z → Im K H2 u0 z → ∃ (p : Addr) (xs ys : List V) (kk : Int) (j : Nat), V.ref (y2.h i) = .ref p ∧ V.int (s1 : Int) = .int kk ∧ H2 p = some (.lst xs) ∧ ixN xs.length kk = some j ∧ xs.set j .non = ys ∧ ∀ H', But p H2 H' → TK K H2 H' → H' p = some (.lst ys) → Q u0 H' := fun s1 s2 z u0 es ed iu0 => by
        refine ⟨_, vs, vs.set s1 .non, _, s1, rfl, rfl, ev, ?_, rfl, fun H3 b3 t3 e3 => ?_⟩
        · rw [vl]
          exact ixN_int (by omega) (by show (s1 : Int) < ((2 : Nat) : Int); omega)
        have a3 : Acc K H3 (y2.h i) (if s1 = 0 then [.none, S2.h1 i] else [S2.h0 i, .none]) := by
          cases i1 with
          | cons g1 g2 =>
            cases g2 with
            | cons g2 g3 =>
              cases g3
              match s1, s2 with
              | 0, _ => exact ⟨_, e3, .cons .non (.cons (g2.u t3) .nil)⟩
              | 1, _ => exact ⟨_, e3, .cons (g1.u t3) (.cons .non .nil)⟩
        have R3 := R2.setH (s := s1) (d := .none) (cr.w i hi).2.2.2.2 b3 a3
        have m3 := m12.trans (R2.mvw (K := K) (l := .wh i) (cr.w i hi).2.2.2.2 b3)
        subst es ed
        exact q _ _ _ m3 R3 (iu0.u t3)
      have left : (x = .none ∨ (x2 ≠ .none ∧ toI x2 < toI x)) → d = x2 ∧ S' = S2.setH i 1 .none := fun c => by
        rw [if_pos c] at hm; cases hm; exact ⟨rfl, rfl⟩
      have right : ¬ (x = .none ∨ (x2 ≠ .none ∧ toI x2 < toI x)) → d = x ∧ S' = S2.setH i 0 .none := fun c => by
        rw [if_neg c] at hm; cases hm; exact ⟨rfl, rfl⟩
      walk_at "go"
      by_cases c : x = .none
      · obtain ⟨hd, hS⟩ := left (.inl c)
        subst c
        cases iu
        walk_at "go"
        walk_at "f"
        walk_at "go"
        obtain ⟨p9, xs9, ys9, kk9, j9, z1, z2, z3, z4, z5, z6⟩ := setA 1 (by omega) x2 u2 hS hd iu2
        refine ⟨p9, xs9, ys9, kk9, j9, z1, z2, z3, z4, z5, fun H9 b9 t9 e9 => ?_⟩
        walk_at "go"
        exact z6 H9 b9 t9 e9
      · have hx := hx.resolve_left c
        refine ite_f (decide_eq_false (im_ne iu c)) ?_
        walk_at "go"
        by_cases c2 : x2 = .none
        · obtain ⟨hd, hS⟩ := right (by
            rintro (h | ⟨h, _⟩)
            · exact c h
            · exact h c2)
          subst c2
          cases iu2
          walk_at "go"
          walk_at "f"
          walk_at "go"
          obtain ⟨p9, xs9, ys9, kk9, j9, z1, z2, z3, z4, z5, z6⟩ := setA 0 (by omega) x u hS hd iu
          refine ⟨p9, xs9, ys9, kk9, j9, z1, z2, z3, z4, z5, fun H9 b9 t9 e9 => ?_⟩
          walk_at "go"
          exact z6 H9 b9 t9 e9
        · have hx2 := hx2.resolve_left c2
          cases x with
          | int a0 =>
            cases x2 with
            | int b0 =>
              obtain rfl := iu.i
              obtain rfl := iu2.i
              walk_at "go"
              refine ite_d (fun c3 => ?_) (fun c3 => ?_)
              · obtain ⟨hd, hS⟩ := left (.inr ⟨c2, c3⟩)
                walk_at "go"
                walk_at "f"
                walk_at "go"
                obtain ⟨p9, xs9, ys9, kk9, j9, z1, z2, z3, z4, z5, z6⟩ := setA 1 (by omega) _ _ hS hd iu2
                refine ⟨p9, xs9, ys9, kk9, j9, z1, z2, z3, z4, z5, fun H9 b9 t9 e9 => ?_⟩
                walk_at "go"
                exact z6 H9 b9 t9 e9
              · obtain ⟨hd, hS⟩ := right (by
                  rintro (h | ⟨_, h⟩)
                  · exact c h
                  · exact c3 h)
                walk_at "go"
                walk_at "f"
                walk_at "go"
                obtain ⟨p9, xs9, ys9, kk9, j9, z1, z2, z3, z4, z5, z6⟩ := setA 0 (by omega) _ _ hS hd iu
                refine ⟨p9, xs9, ys9, kk9, j9, z1, z2, z3, z4, z5, fun H9 b9 t9 e9 => ?_⟩
                walk_at "go"
                exact z6 H9 b9 t9 e9
            | _ => exact hx2.elim
          | _ => exact hx.elim

theorem next_of (T : Tx P K w mg) {C : Ct} {pl : Pull} {L k : Nat} {f : Addr} {fd : FuncData} {cdv : Value} {A : Around} {outer : List Env} {s : Shared} {H : Hp} {E : XK} {Q : VK} {wl : Ln → Prop} {wd : Str} {ps : List Str}
    (F : FnOk P w K mg base CX0 (k + 3) f fd ps (spStep K T.cs C pl L wl)) (hkp : PySem.W.keepIn K (.ref f) = true) (hb : Binds K fd ps []) (hd : KDct K w T.c_STEPS.a wd (.ref f)) (hr : Room (k + 3) (cxOf CX0 P w K mg base ["walk", "step"] "next_item" (defScope s_next_item) T.next_item.f cdv A outer s H E).nox.A)
    {B : Bk} {has : Lab → Prop} {y : Dy} {S : Ms} {i : Nat} {l : Ln} {d : PyData} {S' : Ms} (cr : Core C has) (hl : C.ls[i]? = some l) (hw : wl l) (hwd : ∃ ds, l.d = .tuple (.str wd :: ds)) (R : Rep K T.cs C B has y S H) (hm : stepL C pl L i S l = some (d, S'))
    (q : ∀ u y' H', Mv K B has y H y' H' → Rep K T.cs C B has y' S' H' → Im K H' u d → Q u H') :
    ∃ t, PSs (cxOf CX0 P w K mg base ["walk", "step"] "next_item" (defScope s_next_item) T.next_item.f cdv A outer s H E).nox (defBody s_next_item) t ∧ t { nx := fun x H' => Q V.non H', rt := Q } (L2.start ["walk", "step"] [V.ref (B.ad (.wk i))]) H := by
  have hi := (List.getElem?_eq_some_iff.mp hl).1
  have hwk := R.wk (cr.w i hi).1
  have iv := R.ln i _ hl (cr.w i hi).1
  obtain ⟨ds, ed⟩ := hwd
  rw [ed] at iv
  refine ⟨_, (pss_cons (ps_set (i := 1) sc_next_item.nd rfl (by first | exact Or.inl rfl | exact Or.inr rfl) (pe_ix ix_kdict (pe_glob (v := .ref T.c_STEPS.a) (by rfl) T.c_STEPS.g rfl) (pe_ix ix_tupD (pe_fld (pv 0) rfl) pe_int (fun _ _ => rfl)) (fun _ _ => rfl)))
      (pss_one (ps_ret (pe_callL (i := 1) F hr rfl (Or.inl rfl) hkp hb .nil pass0 (pa_cons (pv 0) pa_nil))))), ?_⟩
  walk_at "go"
  walk_at "f"
  walk_at "go"
  refine ⟨_, 0, 0, _, iv, rfl, rfl, rfl, fun u iu => ?_⟩
  obtain rfl := iu.s
  refine ⟨_, _, _, rfl, rfl, hd, ?_⟩
  refine ⟨rfl, ?_⟩
  walk_at "go"
  exact .mk ⟨B, has, y, S, i, l, d, S', rfl, cr, hl, hw, R, hm, q⟩
theorem ok_next_item (T : Tx P K w mg) {C : Ct} {pl : Pull} {L k : Nat} (ok : CtOk C) (hk : 20 ≤ k) (hp : FnOk P w K mg base CX0 k T.Place_pull.f T.Place_pull.fd ["self"] (spPull K T.cs C pl)) : FnOk P w K mg base CX0 (k + 4) T.next_item.f T.next_item.fd ["walk"] (spStep K T.cs C pl L fun _ => True) := by
  refine T.next_item.F.ok sc_next_item (fun vs H Q E h => ?_) (fun cdv A outer s H vs Q E hr h => ?_)
  · obtain ⟨a, rfl, _⟩ := h
    rfl
  obtain ⟨v, rfl, h⟩ := h
  obtain ⟨B, has, y, S, i, l, d, S', rfl, cr, hl, _, R, hm, q⟩ := h.out
  have sd : ∀ {wd : Str} {f : Addr}, (wd, f) ∈ [(("source" : Str), T.asked.f), ("map", T.mapped.f), ("keep", T.kept.f), ("while", T.ahead_of_failing.f), ("take", T.taken.f), ("skip", T.behind_skipped.f), ("group", T.grouped.f), ("window", T.windowed.f), ("fold", T.folded_on.f), ("chain", T.chained.f), ("pair", T.paired.f), ("merge", T.merged.f)] → KDct K w T.c_STEPS.a wd (.ref f) := fun h => T.c_STEPS.h _ h
  cases l with
  | source s => exact next_of T ((ok_asked T C pl L).mono (by omega)) T.asked.F.kp T.asked.b (sd (wd := "source") (.head _)) hr cr hl ⟨_, rfl⟩ ⟨_, rfl⟩ R hm q
  | map ds a => exact next_of T (ok_mapped T ok hk hp) T.mapped.F.kp T.mapped.b (sd (wd := "map") (.tail _ (.head _))) hr cr hl ⟨_, _, rfl⟩ ⟨_, rfl⟩ R hm q
  | keep ts a => exact next_of T (ok_kept T ok hk hp) T.kept.F.kp T.kept.b (sd (wd := "keep") (.tail _ (.tail _ (.head _)))) hr cr hl ⟨_, _, rfl⟩ ⟨_, rfl⟩ R hm q
  | whil ts a => exact next_of T (ok_ahead_of_failing T ok hk hp) T.ahead_of_failing.F.kp T.ahead_of_failing.b (sd (wd := "while") (.tail _ (.tail _ (.tail _ (.head _))))) hr cr hl ⟨_, _, rfl⟩ ⟨_, rfl⟩ R hm q
  | take n a => exact next_of T (ok_taken T ok hk hp) T.taken.F.kp T.taken.b (sd (wd := "take") (.tail _ (.tail _ (.tail _ (.tail _ (.head _)))))) hr cr hl ⟨_, _, rfl⟩ ⟨_, rfl⟩ R hm q
  | skip n a => exact next_of T (ok_behind_skipped T ok hk hp) T.behind_skipped.F.kp T.behind_skipped.b (sd (wd := "skip") (.tail _ (.tail _ (.tail _ (.tail _ (.tail _ (.head _))))))) hr cr hl ⟨_, _, rfl⟩ ⟨_, rfl⟩ R hm q
  | group n a => exact next_of T (ok_grouped T ok hk hp) T.grouped.F.kp T.grouped.b (sd (wd := "group") (.tail _ (.tail _ (.tail _ (.tail _ (.tail _ (.tail _ (.head _)))))))) hr cr hl ⟨_, _, rfl⟩ ⟨_, rfl⟩ R hm q
  | window n a => exact next_of T (ok_windowed T ok hk hp) T.windowed.F.kp T.windowed.b (sd (wd := "window") (.tail _ (.tail _ (.tail _ (.tail _ (.tail _ (.tail _ (.tail _ (.head _))))))))) hr cr hl ⟨_, _, rfl⟩ ⟨_, rfl⟩ R hm q
  | fold f n a => exact next_of T (ok_folded_on T ok hk hp) T.folded_on.F.kp T.folded_on.b (sd (wd := "fold") (.tail _ (.tail _ (.tail _ (.tail _ (.tail _ (.tail _ (.tail _ (.tail _ (.head _)))))))))) hr cr hl ⟨_, _, _, rfl⟩ ⟨_, rfl⟩ R hm q
  | chain a b => exact next_of T (ok_chained T ok hk hp) T.chained.F.kp T.chained.b (sd (wd := "chain") (.tail _ (.tail _ (.tail _ (.tail _ (.tail _ (.tail _ (.tail _ (.tail _ (.tail _ (.head _))))))))))) hr cr hl ⟨_, _, rfl⟩ ⟨_, rfl⟩ R hm q
  | pair a b => exact next_of T (ok_paired T ok hk hp) T.paired.F.kp T.paired.b (sd (wd := "pair") (.tail _ (.tail _ (.tail _ (.tail _ (.tail _ (.tail _ (.tail _ (.tail _ (.tail _ (.tail _ (.head _)))))))))))) hr cr hl ⟨_, _, rfl⟩ ⟨_, rfl⟩ R hm q
  | merge a b => exact next_of T (ok_merged T ok hk hp) T.merged.F.kp T.merged.b (sd (wd := "merge") (.tail _ (.tail _ (.tail _ (.tail _ (.tail _ (.tail _ (.tail _ (.tail _ (.tail _ (.tail _ (.tail _ (.head _))))))))))))) hr cr hl ⟨_, _, rfl⟩ ⟨_, rfl⟩ R hm q

theorem ok_Walk_make (T : Tx P K w mg) {C : Ct} {pl : Pull} {L F k : Nat} (ok : CtOk C) (hk : 20 ≤ k) (hf : 2 * F + 5 ≤ k) (hp : FnOk P w K mg base CX0 k T.Place_pull.f T.Place_pull.fd ["self"] (spPull K T.cs C pl)) : FnOk P w K mg base CX0 (k + 5) T.Walk_make.f T.Walk_make.fd ["self"] (spMake K T.cs C (makeM C pl L F)) := by
  refine T.Walk_make.F.ok sc_Walk_make (fun vs H Q E h => ?_) (fun cdv A outer s H vs Q E hr h => ?_)
  · obtain ⟨a, rfl, _⟩ := h
    rfl
  obtain ⟨v, rfl, h⟩ := h
  obtain ⟨B, has, y, S, i, S', rfl, cr, hi, R, hm, q⟩ := h.out
  have hw := R.wk (cr.w i hi).1
  have hls : C.ls[i]? = some C.ls[i] := List.getElem?_eq_getElem hi
  generalize C.ls[i] = l at hls
  refine ⟨_, (pss_cons (ps_if (pt_val (pe_fld (pv 0) rfl)) (pss_one ps_retN) pss_nil)
      (pss_cons (ps_set (i := 1) sc_Walk_make.nd rfl (by first | exact Or.inl rfl | exact Or.inr rfl) (pe_call (ok_next_item T (L := L) ok hk hp) (hr.mono (by omega)) (by rfl) T.next_item.g T.next_item.F.kp T.next_item.b .nil pass0 (pa_cons (pv 0) pa_nil)))
      (pss_one (ps_if (pt_cmpR op_isN (pv 1) pe_non (nomark _)) (pss_cons (ps_fld (pv 0) pe_bl rfl)
      (pss_one (ps_expr (pe_meth0 (pv 0) T.k_Walk.cl T.Walk_let_go.h (ok_let_go T ok F) (hr.mono (by omega)) T.Walk_let_go.b .nil pass0)))) (pss_one (ps_expr (pe_bm PySem.F.plainAttrs_list PySem.F.slot_list_append PySem.F.type_list_append mt_appA (pe_fld (pv 0) rfl) (pa_cons (pv 1) pa_nil)))))))), ?_⟩
  unfold makeM stepM at hm
  walk_at "go"
  walk_at "f"
  walk_at "go"
  cases c : S.over i with
  | true =>
    rw [c, if_pos rfl] at hm
    cases hm
    refine ite_t rfl ?_
    walk_at "go"
    exact q _ _ Mv.refl R
  | false =>
    rw [c, if_neg (by decide), hls] at hm
    dsimp only at hm
    cases e : stepL C pl L i S l with
    | none => rw [e] at hm; cases hm
    | some r =>
      obtain ⟨x, S1⟩ := r
      rw [e] at hm
      dsimp only at hm
      refine ite_f rfl ?_
      walk_at "go"
      refine .mk ⟨B, has, y, S, i, l, x, S1, rfl, cr, hls, trivial, R, e, fun u y1 H1 m1 R1 iu => ?_⟩
      have hw1 := R1.wk (cr.w i hi).1
      have hwm1 := R1.wm (cr.w i hi).2.2.1
      walk_at "go"
      by_cases cx : x = .none
      · rw [if_pos cx] at hm
        subst cx
        cases iu
        walk_at "go"
        walk_at "fs"
        refine put (fun H2 b2 e2 => ?_)
        have R2 := R1.setOver (cr.w i hi).1 b2 e2
        have m2 := m1.trans (R1.mvw (K := K) (cr.w i hi).1 b2)
        have hw2 := R2.wk (cr.w i hi).1
        walk_at "go"
        refine ⟨_, _, _, rfl, hw2, rfl, ?_⟩
        walk_at "go"
        exact .mk ⟨B, has, y1, _, i, S', rfl, cr, hi, R2, hm, fun y4 H4 m4 R4 => q _ _ (m2.trans m4) R4⟩
      · rw [if_neg cx] at hm
        obtain ⟨hlen, hm⟩ := gd_some hm
        cases hm
        refine ite_f (decide_eq_false (im_ne iu cx)) ?_
        walk_at "go"
        walk_at "f"
        walk_at "go"
        refine ⟨_, _, _, _, rfl, rfl, hwm1, iu, by omega, fun H2 b2 t2 a2 => ?_⟩
        exact q _ _ (m1.trans (R1.mvw (K := K) (l := .wm i) (cr.w i hi).2.2.1 b2)) (R1.push (cr.w i hi).2.2.1 b2 a2)

theorem pull_of (T : Tx P K w mg) {C : Ct} {mk : Nat → Ms → Option Ms} {k : Nat} (hg : FnOk P w K mg base CX0 k T.Walk_make.f T.Walk_make.fd ["self"] (spMake K T.cs C mk)) : FnOk P w K mg base CX0 (k + 1) T.Place_pull.f T.Place_pull.fd ["self"] (spPull K T.cs C (pullW C mk)) := by
  refine T.Place_pull.F.ok sc_Place_pull (fun vs H Q E h => ?_) (fun cdv A outer s H vs Q E hr h => ?_)
  · obtain ⟨a, rfl, _⟩ := h
    rfl
  obtain ⟨v, rfl, h⟩ := h
  obtain ⟨B, has, y, S, p, d, S', rfl, cr, hh, ht, R, hm, q⟩ := h.out
  have hpl := R.pl hh
  have hw := R.wk (cr.w _ ht).1
  have hwm := R.wm (cr.w _ ht).2.2.1
  refine ⟨_, (pss_cons (ps_set (i := 1) sc_Place_pull.nd rfl (by first | exact Or.inl rfl | exact Or.inr rfl) (pe_fld (pv 0) rfl))
      (pss_cons (ps_cut (ps_if (pt_cmpR op_eq (pe_fld (pv 0) rfl) (pe_callB call_lenA (by rfl) T.z_len PySem.boot_len (pa_cons (pe_fld (pv 1) rfl) pa_nil)) (nomark _)) (pss_one (ps_expr (pe_meth0 (pv 1) T.k_Walk.cl T.Walk_make.h hg (hr.mono (by omega)) T.Walk_make.b .nil pass0))) pss_nil))
      (pss_cons (ps_cut (ps_if (pt_cmpR op_eq (pe_fld (pv 0) rfl) (pe_callB call_lenA (by rfl) T.z_len PySem.boot_len (pa_cons (pe_fld (pv 1) rfl) pa_nil)) (nomark _)) (pss_one (ps_ret pe_non)) pss_nil))
      (pss_cons (ps_fldaug (pv 0) pe_int in_add)
      (pss_one (ps_ret (pe_ix ix_listA (pe_fld (pv 1) rfl) (pe_op op_sub (pe_fld (pv 0) rfl) pe_int) (fun _ _ => rfl)))))))), ?_⟩
  unfold pullW at hm
  have rest : ∀ (y1 : Dy) (S1 : Ms) (H1 : Hp), Mv K B has y H y1 H1 → Rep K T.cs C B has y1 S1 H1 →
      (if S1.pos p = (S1.made (C.tgt p)).length then some (.none, S1) else gd (S1.pos p < (S1.made (C.tgt p)).length) (some ((S1.made (C.tgt p)).getD (S1.pos p) .none, S1.setPos p (S1.pos p + 1)))) = some (d, S') →
      (S1.pos p = (S1.made (C.tgt p)).length ∧ Q .non H1) ∨ (¬ S1.pos p = (S1.made (C.tgt p)).length ∧ S1.pos p < (S1.made (C.tgt p)).length ∧ ∀ H2, But (B.ad (.pl p)) H1 H2 → H2 (B.ad (.pl p)) = some (.ins T.cs.p (B.dx (.pl p)) (pf (.ref (B.ad (.wk (C.tgt p)))) (.int ((S1.pos p + 1 : Nat) : Int)))) →
        Mv K B has y H y1 H2 ∧ Rep K T.cs C B has y1 (S1.setPos p (S1.pos p + 1)) H2 ∧ ∀ u, Im K H2 u ((S1.made (C.tgt p)).getD (S1.pos p) .none) → Q u H2) := fun y1 S1 H1 m1 R1 e => by
    by_cases c : S1.pos p = (S1.made (C.tgt p)).length
    · rw [if_pos c] at e
      cases e
      exact .inl ⟨c, q _ _ _ m1 R1 .non⟩
    · rw [if_neg c] at e
      obtain ⟨hlt, e⟩ := gd_some e
      cases e
      refine .inr ⟨c, hlt, fun H2 b2 e2 => ?_⟩
      have R2 := R1.setPos (n := S1.pos p + 1) hh b2 e2
      have m2 := m1.trans (R1.mvw (K := K) hh b2)
      exact ⟨m2, R2, fun u iu => q _ _ _ m2 R2 iu⟩
  have r2 : ∀ (y1 : Dy) (S1 : Ms) (H1 : Hp), Rep K T.cs C B has y1 S1 H1 → H1 (B.ad (.pl p)) = some (.ins T.cs.p (B.dx (.pl p)) (pf (.ref (B.ad (.wk (C.tgt p)))) (.int (S1.pos p)))) := fun y1 S1 H1 R1 => R1.pl hh
  walk_at "go"
  walk_at "f"
  walk_at "go"
  refine ⟨fun σ H1 => Hold (∃ (y1 : Dy) (S1 : Ms), σ = [some (.ref (B.ad (.pl p))), some (.ref (B.ad (.wk (C.tgt p))))] ∧ Mv K B has y H y1 H1 ∧ Rep K T.cs C B has y1 S1 H1 ∧ (if S1.pos p = (S1.made (C.tgt p)).length then some (.none, S1) else gd (S1.pos p < (S1.made (C.tgt p)).length) (some ((S1.made (C.tgt p)).getD (S1.pos p) .none, S1.setPos p (S1.pos p + 1)))) = some (d, S')), ?_, ?_⟩
  · walk_at "go"
    walk_at "f"
    walk_at "go"
    walk_at "f"
    refine ⟨_, _, rfl, hwm, ?_⟩
    walk_at "go"
    by_cases c : S.pos p = (S.made (C.tgt p)).length
    · rw [if_pos c] at hm
      refine ite_t (dv_t (by omega)) ?_
      cases e : mk (C.tgt p) S with
      | none => rw [e] at hm; cases hm
      | some S1 =>
        rw [e] at hm
        dsimp only at hm
        walk_at "go"
        refine ⟨_, _, _, rfl, hw, rfl, ?_⟩
        walk_at "go"
        exact .mk ⟨B, has, y, S, _, S1, rfl, cr, ht, R, e, fun y1 H1 m1 R1 => .mk ⟨y1, S1, rfl, m1, R1, hm⟩⟩
    · rw [if_neg c] at hm
      dsimp only at hm
      refine ite_f (dv_f (by omega)) ?_
      walk_at "go"
      exact .mk ⟨y, S, rfl, Mv.refl, R, hm⟩
  intro σ H1 h
  obtain ⟨y1, S1, rfl, m1, R1, e1⟩ := h.out
  have hpl1 := R1.pl hh
  have hw1 := R1.wk (cr.w _ ht).1
  have hwm1 := R1.wm (cr.w _ ht).2.2.1
  walk_at "go"
  refine ⟨_, ?_, fun σ' H' h => h⟩
  walk_at "go"
  walk_at "f"
  walk_at "go"
  walk_at "f"
  refine ⟨_, _, rfl, hwm1, ?_⟩
  walk_at "go"
  rcases rest y1 S1 H1 m1 R1 e1 with ⟨c, q1⟩ | ⟨c, hlt, k1⟩
  · refine ite_t (dv_t (by omega)) ?_
    walk_at "go"
    exact q1
  · refine ite_f (dv_f (by omega)) ?_
    walk_at "go"
    walk_at "f"
    walk_at "go"
    refine ⟨_, _, hpl1, (by exact (by decide : (2 : Nat) < 1000)), ?_⟩
    refine put (fun H2 b2 e2 => ?_)
    obtain ⟨m2, R2, q2⟩ := k1 H2 b2 e2
    have hpl2 := R2.pl hh
    have hw2 := R2.wk (cr.w _ ht).1
    have hwm2 := R2.wm (cr.w _ ht).2.2.1
    have hz : (S1.setPos p (S1.pos p + 1)).pos p = S1.pos p + 1 := fset_self
    rw [hz] at hpl2
    walk_at "go"
    walk_at "f"
    walk_at "go"
    walk_at "f"
    walk_at "go"
    refine ⟨_, _, _, S1.pos p, (S1.made (C.tgt p)).getD (S1.pos p) .none, rfl, hwm2, rfl, by omega, ?_, fun u iu => q2 u iu⟩
    show (S1.made (C.tgt p))[S1.pos p]? = _
    rw [List.getD_eq_getElem?_getD, List.getElem?_eq_getElem hlt]
    rfl
theorem ok_pull (T : Tx P K w mg) {C : Ct} (ok : CtOk C) (L F : Nat) : ∀ d : Nat, FnOk P w K mg base CX0 (6 * d + (2 * F + 20)) T.Place_pull.f T.Place_pull.fd ["self"] (spPull K T.cs C (pullM C L F d))
  | 0 => ⟨fun vs H Q E h => by obtain ⟨v, rfl, _⟩ := h; rfl, fun A outer s H args us vs Q E _ _ _ _ h => by
      obtain ⟨v, rfl, h⟩ := h
      obtain ⟨B, has, y, S, p, x, S', _, _, _, _, _, hm, _⟩ := h.out
      cases hm⟩
  | d + 1 => (pull_of T (ok_Walk_make T ok (by omega) (by omega) (ok_pull T ok L F d))).mono (by omega)

theorem ok_Outlets_place (T : Tx P K w mg) : FnOk P w K mg base CX0 1 T.Outlets_place.f T.Outlets_place.fd ["self", "j"] (spOutPlace K T.cs) := by
  refine T.Outlets_place.F.ok sc_Outlets_place (fun vs H Q E h => ?_) (fun cdv A outer s H vs Q E hr h => ?_)
  · obtain ⟨a, b, rfl, _⟩ := h
    rfl
  obtain ⟨v1, v2, rfl, h⟩ := h
  obtain ⟨C, B, y, S, j, rfl, rfl, hj, hg, R, q⟩ := h.out
  have hoo := R.oo trivial
  have hol := R.ol trivial
  have at1 : ((List.range C.outs.length).map fun j => if S.gone j = true then V.non else .ref (B.ad (.pl (.out j))))[j]? = some (.ref (B.ad (.pl (.out j)))) := by
    rw [List.getElem?_map, List.getElem?_range hj]
    show some (if S.gone j = true then V.non else .ref (B.ad (.pl (.out j)))) = _
    rw [hg]
    rfl
  refine ⟨_, (pss_cons (ps_if (pt_not (pt_chain op_le op_lt pe_int (pv 1) (pe_callB call_len_seq (by rfl) T.z_len PySem.boot_len (pa_cons (pe_fld (pv 0) rfl) pa_nil)))) (pss_one ps_never) pss_nil)
      (pss_cons (ps_if (pt_cmpR op_isN (pe_ix ix_list (pe_fld (pv 0) rfl) (pv 1) (fun _ _ => rfl)) pe_non (nomark _)) (pss_one ps_never) pss_nil)
      (pss_one (ps_ret (pe_ix ix_list (pe_fld (pv 0) rfl) (pv 1) (fun _ _ => rfl)))))), ?_⟩
  walk_at "go"
  walk_at "f"
  walk_at "go"
  rw [List.length_map, List.length_range]
  refine ite_f (by rw [decide_eq_true (by omega)]; rfl) ?_
  walk_at "go"
  walk_at "f"
  walk_at "go"
  refine ⟨_, _, _, _, rfl, rfl, SqL.of hol, atI_nat at1, ?_⟩
  walk_at "go"
  walk_at "f"
  walk_at "go"
  refine ⟨_, _, _, _, rfl, rfl, SqL.of hol, atI_nat at1, ?_⟩
  exact q

theorem ok_Run_pull (T : Tx P K w mg) : FnOk P w K mg base CX0 221 T.Run_pull.f T.Run_pull.fd ["self", "j"] (spRunPull K T.cs) := by
  refine T.Run_pull.F.ok sc_Run_pull (fun vs H Q E h => ?_) (fun cdv A outer s H vs Q E hr h => ?_)
  · obtain ⟨a, b, rfl, _⟩ := h
    rfl
  obtain ⟨v1, v2, rfl, h⟩ := h
  obtain ⟨C, B, y, S, j, L, d, S', rfl, rfl, ok, hj, hg, R, hm, q⟩ := h.out
  have hru := R.ru trivial
  have hoo := R.oo trivial
  have hpl := R.pl (p := .out j) hj
  refine ⟨_, (pss_one (ps_ret (pe_meth0 (pe_meth (pe_fld (pv 0) rfl) T.k_Outlets.cl T.Outlets_place.h (ok_Outlets_place T) (hr.mono (by decide)) T.Outlets_place.b .nil pass0 (pa_cons (pv 1) pa_nil)) T.k_Place.cl T.Place_pull.h (ok_pull T ok.ct L 25 25) (hr.mono (by decide)) T.Place_pull.b .nil pass0))), ?_⟩
  walk_at "go"
  walk_at "f"
  walk_at "go"
  refine ⟨_, _, _, rfl, hoo, rfl, ?_⟩
  walk_at "go"
  refine .mk ⟨C, B, y, S, j, rfl, rfl, hj, hg, R, ?_⟩
  refine ⟨_, _, _, rfl, hpl, rfl, ?_⟩
  walk_at "go"
  exact .mk ⟨B, Full C, y, S, .out j, d, S', rfl, core_full C, hj, ok.out j hj, R, hm, q⟩

def twoN : Ln → Bool
  | .chain _ _ => true
  | .pair _ _ => true
  | .merge _ _ => true
  | _ => false
theorem foldP_a {g : Nat → Ms → Option Ms} (h : ∀ s S S', g s S = some S' → S'.asks = S.asks) : ∀ (ss : List Nat) (S S' : Ms), foldP g ss S = some S' → S'.asks = S.asks
  | [], S, S', e => by cases e; rfl
  | s :: ss, S, S', e => by
    unfold foldP at e
    cases e1 : g s S with
    | none => rw [e1] at e; cases e
    | some S1 =>
      rw [e1] at e
      exact (foldP_a h ss S1 S' e).trans (h s S S1 e1)
theorem letGo_a (C : Ct) : ∀ (f i : Nat) (S S' : Ms), letGo C f i S = some S' → S'.asks = S.asks
  | 0, _, _, _, e => by cases e
  | f + 1, i, S, S', e => by
    have e : letGoW C (leaveW C (letGo C f)) i S = some S' := e
    unfold letGoW at e
    split at e
    · cases e; rfl
    · cases hl : C.ls[i]? with
      | none => rw [hl] at e; cases e
      | some l =>
        rw [hl] at e
        dsimp only at e
        cases e1 : foldP (fun s => leaveW C (letGo C f) (.at i s)) (List.range l.names.length) (S.setLoose i) with
        | none => rw [e1] at e; cases e
        | some S1 =>
          rw [e1] at e
          have h1 := foldP_a (fun s S S' e => by
            unfold leaveW at e
            dsimp only at e
            split at e
            · have q := letGo_a C f _ _ _ e
              exact q
            · cases e; rfl) _ _ _ e1
          cases hs : l.src with
          | none => rw [hs] at e; cases e; exact h1
          | some k =>
            rw [hs] at e
            have e := (gd_some e).2
            cases e
            exact h1
theorem make_asks {C : Ct} {pl : Pull} {L F i : Nat} {S S' : Ms} (e : makeM C pl L F i S = some S') : S' = S ∨ ∃ x S1, stepM C pl L i S = some (x, S1) ∧ S'.asks = S1.asks := by
  unfold makeM at e
  split at e
  · cases e; exact .inl rfl
  · cases e1 : stepM C pl L i S with
    | none => rw [e1] at e; cases e
    | some r =>
      obtain ⟨x, S1⟩ := r
      rw [e1] at e
      dsimp only at e
      refine .inr ⟨x, S1, rfl, ?_⟩
      split at e
      · have q := letGo_a C _ _ _ _ e
        exact q
      · have e := (gd_some e).2
        cases e
        rfl
theorem pull_asks {C : Ct} {mk : Nat → Ms → Option Ms} {p : Pl} {S S' : Ms} {x : PyData} (e : pullW C mk p S = some (x, S')) : S'.asks = S.asks ∨ ∃ S1, mk (C.tgt p) S = some S1 ∧ S'.asks = S1.asks := by
  unfold pullW at e
  by_cases c : S.pos p = (S.made (C.tgt p)).length
  · rw [if_pos c] at e
    cases e1 : mk (C.tgt p) S with
    | none => rw [e1] at e; cases e
    | some S1 =>
      rw [e1] at e
      dsimp only at e
      refine .inr ⟨S1, rfl, ?_⟩
      split at e
      · cases e; rfl
      · have e := (gd_some e).2
        cases e
        rfl
  · rw [if_neg c] at e
    dsimp only at e
    split at e
    · cases e; exact .inl rfl
    · have e := (gd_some e).2
      cases e
      exact .inl rfl
theorem src_asks {C : Ct} {L F d : Nat} {p : Pl} {S S' : Ms} {x : PyData} {k : Int} (hl : C.ls[C.tgt p]? = some (.source k)) (e : pullM C L F d p S = some (x, S')) : ∃ m, S'.asks = S.asks ++ List.replicate m k := by
  cases d with
  | zero => cases e
  | succ d =>
    rcases pull_asks (mk := makeM C (pullM C L F d) L F) e with h | ⟨S1, h1, h2⟩
    · exact ⟨0, by rw [h]; exact (List.append_nil _).symm⟩
    · rcases make_asks h1 with rfl | ⟨y, S2, h3, h4⟩
      · exact ⟨0, by rw [h2]; exact (List.append_nil _).symm⟩
      · unfold stepM at h3
        rw [hl] at h3
        have h3 : askM C k S = some (y, S2) := h3
        have h3 := (gd_some h3).2
        refine ⟨1, ?_⟩
        rw [h2, h4]
        split at h3
        · cases h3; rfl
        · cases h3; rfl
/-- what is asked: first the one, then the other -/
def Aft (a b : Int) (S S' : Ms) : Prop := ∃ m n, S'.asks = S.asks ++ (List.replicate m a ++ List.replicate n b)
theorem Aft.refl (a b : Int) (S : Ms) : Aft a b S S := ⟨0, 0, (List.append_nil _).symm⟩
theorem Aft.fst {a b : Int} {S S1 : Ms} (h : ∃ m, S1.asks = S.asks ++ List.replicate m a) : Aft a b S S1 := by
  obtain ⟨m, h⟩ := h
  exact ⟨m, 0, by rw [h]; show _ = _ ++ (_ ++ []); rw [List.append_nil]⟩
theorem Aft.both {a b : Int} {S S1 S2 : Ms} (h : ∃ m, S1.asks = S.asks ++ List.replicate m a) (g : ∃ n, S2.asks = S1.asks ++ List.replicate n b) : Aft a b S S2 := by
  obtain ⟨m, h⟩ := h
  obtain ⟨n, g⟩ := g
  exact ⟨m, n, by rw [g, h, List.append_assoc]⟩
theorem hold_asks {C : Ct} {pl : Pull} {i s : Nat} {S S' : Ms} {x : PyData} {k : Int} (h : ∀ {x S S'}, pl (.at i s) S = some (x, S') → ∃ m, S'.asks = S.asks ++ List.replicate m k) (e : holdM pl i s S = some (x, S')) : ∃ m, S'.asks = S.asks ++ List.replicate m k := by
  unfold holdM at e
  split at e
  · cases e1 : pl (.at i s) S with
    | none => rw [e1] at e; cases e
    | some r =>
      obtain ⟨y, S1⟩ := r
      rw [e1] at e
      cases e
      obtain ⟨m, h⟩ := h e1
      refine ⟨m, ?_⟩
      rw [← h]
      unfold Ms.setH
      split <;> rfl
  · cases e
    exact ⟨0, (List.append_nil _).symm⟩
theorem two_asks {C : Ct} {pl : Pull} {L i : Nat} {S S' : Ms} {x : PyData} {a b : Int} {l : Ln} (hl : C.ls[i]? = some l) (h2 : twoN l = true)
    (p0 : ∀ {x S S'}, pl (.at i 0) S = some (x, S') → ∃ m, S'.asks = S.asks ++ List.replicate m a) (p1 : ∀ {x S S'}, pl (.at i 1) S = some (x, S') → ∃ m, S'.asks = S.asks ++ List.replicate m b)
    (e : stepM C pl L i S = some (x, S')) : Aft a b S S' := by
  unfold stepM at e
  rw [hl] at e
  dsimp only at e
  cases l with
  | chain u v =>
    unfold stepL at e
    cases e1 : pl (.at i 0) S with
    | none => rw [e1] at e; cases e
    | some r =>
      obtain ⟨y, S1⟩ := r
      rw [e1] at e
      dsimp only at e
      split at e
      · exact .both (p0 e1) (p1 e)
      · cases e; exact .fst (p0 e1)
  | pair u v =>
    unfold stepL at e
    cases e1 : holdM pl i 0 S with
    | none => rw [e1] at e; cases e
    | some r =>
      obtain ⟨y, S1⟩ := r
      rw [e1] at e
      dsimp only at e
      have q0 := hold_asks (C := C) (fun h => p0 h) e1
      split at e
      · cases e; exact .fst q0
      · cases e2 : holdM pl i 1 S1 with
        | none => rw [e2] at e; cases e
        | some r =>
          obtain ⟨z, S2⟩ := r
          rw [e2] at e
          dsimp only at e
          have q1 := hold_asks (C := C) (fun h => p1 h) e2
          split at e
          · cases e; exact .both q0 q1
          · cases e; exact .both (S2 := S2) q0 q1
  | merge u v =>
    unfold stepL at e
    cases e1 : holdM pl i 0 S with
    | none => rw [e1] at e; cases e
    | some r =>
      obtain ⟨y, S1⟩ := r
      rw [e1] at e
      dsimp only at e
      have q0 := hold_asks (C := C) (fun h => p0 h) e1
      cases e2 : holdM pl i 1 S1 with
      | none => rw [e2] at e; cases e
      | some r =>
        obtain ⟨z, S2⟩ := r
        rw [e2] at e
        dsimp only at e
        have q1 := hold_asks (C := C) (fun h => p1 h) e2
        have q := Aft.both q0 q1
        have e := (gd_some e).2
        split at e
        · cases e; exact q
        · cases e; exact q
  | _ => cases h2
theorem out_asks {C : Ct} {L j i : Nat} {S S' : Ms} {x : PyData} {a b : Int} {l : Ln} (ht : C.tgt (.out j) = i) (hl : C.ls[i]? = some l) (h2 : twoN l = true) (h0 : C.ls[C.tgt (.at i 0)]? = some (.source a)) (h1 : C.ls[C.tgt (.at i 1)]? = some (.source b))
    (e : PL C L (.out j) S = some (x, S')) : Aft a b S S' := by
  have e : pullW C (makeM C (pullM C L 25 24) L 25) (.out j) S = some (x, S') := e
  rcases pull_asks e with h | ⟨S1, e1, h⟩
  · obtain ⟨m, n, r⟩ := Aft.refl a b S
    exact ⟨m, n, by rw [h]; exact r⟩
  · rw [ht] at e1
    rcases make_asks e1 with rfl | ⟨y, S2, e2, g⟩
    · obtain ⟨m, n, r⟩ := Aft.refl a b S1
      exact ⟨m, n, by rw [h]; exact r⟩
    · obtain ⟨m, n, r⟩ := two_asks hl h2 (fun h => src_asks h0 h) (fun h => src_asks h1 h) e2
      exact ⟨m, n, by rw [h, g]; exact r⟩
/-- how often the one and the other are asked for m items -/
def cA (l : Ln) (A B : List Int) (m : Nat) : Nat :=
  match l with
  | .chain _ _ => min m (A.length + 1)
  | .pair _ _ => min m (min A.length B.length + 1)
  | _ => if m = 0 then 0 else (posN A B (min m (A.length + B.length + 1) - 1)).1 + 1
def cB (l : Ln) (A B : List Int) (m : Nat) : Nat :=
  match l with
  | .chain _ _ => min (m - A.length) (B.length + 1)
  | .pair _ _ => min m (min A.length B.length + 1) - (if A.length < min m (min A.length B.length + 1) then 1 else 0)
  | _ => if m = 0 then 0 else (posN A B (min m (A.length + B.length + 1) - 1)).2 + 1
theorem toI_back (A : List Int) : (A.map PyData.int).map toI = A := by
  rw [List.map_map]
  exact (List.map_congr_left fun _ _ => rfl).trans (List.map_id _)
theorem two_cap {l : Ln} {a b : Int} {A B : List Int} {made : List (List PyData)} {lists : List (List Int)} (h2 : twoN l = true) (hn : l.names = [a, b]) (hA : made.getD a.toNat [] = A.map PyData.int) (hB : made.getD b.toNat [] = B.map PyData.int) {m : Nat} (hm : 1 ≤ m) :
    min (max 0 (twoNeed l (A.map PyData.int) (B.map PyData.int) (min (m : Int) ((listD l made lists).length + 1))).1) ((A.length : Int) + 1) = (cA l A B m : Nat) ∧
    min (max 0 (twoNeed l (A.map PyData.int) (B.map PyData.int) (min (m : Int) ((listD l made lists).length + 1))).2) ((B.length : Int) + 1) = (cB l A B m : Nat) := by
  cases l with
  | chain u v =>
    cases hn
    have e : (listD (.chain a b) made lists).length = A.length + B.length := by
      show (made.getD a.toNat [] ++ made.getD b.toNat []).length = _
      rw [hA, hB, List.length_append, List.length_map, List.length_map]
    rw [e]
    unfold cA cB
    show min (max 0 (min (min (m : Int) _) (((A.map PyData.int).length : Int) + 1))) _ = _ ∧ min (max 0 (max 0 (min (m : Int) _ - ((A.map PyData.int).length : Int)))) _ = _
    rw [List.length_map]
    dsimp only
    omega
  | pair u v =>
    cases hn
    have e : (listD (.pair a b) made lists).length = min A.length B.length := by
      show (List.zipWith _ (made.getD a.toNat []) (made.getD b.toNat [])).length = _
      rw [hA, hB, List.length_zipWith, List.length_map, List.length_map]
    rw [e]
    unfold cA cB
    show min (max 0 (min (m : Int) _)) _ = _ ∧ min (max 0 (min (m : Int) _ - if min (m : Int) _ > ((A.map PyData.int).length : Int) then 1 else 0)) _ = _
    rw [List.length_map]
    dsimp only
    split <;> split <;> omega
  | merge u v =>
    cases hn
    have e : (listD (.merge a b) made lists).length = A.length + B.length := by
      show ((mergeI ((made.getD a.toNat []).map toI) ((made.getD b.toNat []).map toI)).map PyData.int).length = _
      rw [hA, hB, toI_back, toI_back, List.length_map, merge_len]
    rw [e]
    unfold cA cB
    show min (max 0 (((posN ((A.map PyData.int).map toI) ((B.map PyData.int).map toI) (min (m : Int) _ - 1).toNat).1 : Int) + 1)) _ = _ ∧ min (max 0 (((posN ((A.map PyData.int).map toI) ((B.map PyData.int).map toI) (min (m : Int) _ - 1).toNat).2 : Int) + 1)) _ = _
    rw [toI_back, toI_back]
    dsimp only
    rw [if_neg (by omega), if_neg (by omega)]
    have e2 : (min (m : Int) (((A.length + B.length : Nat) : Int) + 1) - 1).toNat = min m (A.length + B.length + 1) - 1 := by omega
    rw [e2]
    obtain ⟨h1, h2, h3⟩ := posN_ok A B (min m (A.length + B.length + 1) - 1) (by omega)
    omega
  | _ => cases h2
theorem back_two {l : Ln} {a b : Int} {X Y : List PyData} {M : List PyData} {m : Int} (h2 : twoN l = true) (hn : l.names = [a, b]) (hm : 1 ≤ m) :
    backS [.source 0, .source 1, l] [X, Y, M] ([0, 0, m], [0, 0]) 2 =
      (wantS (wantS [0, 0, m] a (twoNeed l ([X, Y, M].getD a.toNat []) ([X, Y, M].getD b.toNat []) (min m (M.length + 1))).1) b (twoNeed l ([X, Y, M].getD a.toNat []) ([X, Y, M].getD b.toNat []) (min m (M.length + 1))).2, [0, 0]) := by
  have p : 0 < min m ((M.length : Int) + 1) := by omega
  cases l with
  | chain u v => cases hn; exact if_pos p
  | pair u v => cases hn; exact if_pos p
  | merge u v => cases hn; exact if_pos p
  | _ => cases h2
theorem needs_three {l : Ln} {a b : Int} {X Y : List Int} {m : Int} (h2 : twoN l = true) (hn : l.names = [a, b]) (hm : 1 ≤ m) {w0 w1 w2 : Int}
    (hw : wantS (wantS [0, 0, m] a (twoNeed l ([X.map PyData.int, Y.map PyData.int].getD a.toNat []) ([X.map PyData.int, Y.map PyData.int].getD b.toNat []) (min m ((listD l [X.map PyData.int, Y.map PyData.int] [X, Y]).length + 1))).1) b
      (twoNeed l ([X.map PyData.int, Y.map PyData.int].getD a.toNat []) ([X.map PyData.int, Y.map PyData.int].getD b.toNat []) (min m ((listD l [X.map PyData.int, Y.map PyData.int] [X, Y]).length + 1))).2 = [w0, w1, w2])
    (ha : a = 0 ∨ a = 1) (hb : b = 0 ∨ b = 1) :
    needsD [.source 0, .source 1, l] [X, Y] [2] [m] = [min w0 ((X.length : Int) + 1), min w1 ((Y.length : Int) + 1)] := by
  have ep : plainD [.source 0, .source 1, l] [X, Y] = [X.map PyData.int, Y.map PyData.int, listD l [X.map PyData.int, Y.map PyData.int] [X, Y]] := rfl
  unfold needsD
  rw [ep]
  have b0 : startN [2] [m] [Ln.source 0, .source 1, l].length [(2 : Int)].length = [0, 0, m] := by
    show ([0, 0, max 0 m] : List Int) = _
    rw [Int.max_eq_right (by omega)]
  rw [b0]
  generalize eM : listD l [X.map PyData.int, Y.map PyData.int] [X, Y] = M at hw ⊢
  have g : ∀ c : Int, c = 0 ∨ c = 1 → [X.map PyData.int, Y.map PyData.int, M].getD c.toNat [] = [X.map PyData.int, Y.map PyData.int].getD c.toNat [] := fun c h => by
    rcases h with rfl | rfl <;> rfl
  have b1 := back_two (X := X.map PyData.int) (Y := Y.map PyData.int) (M := M) h2 hn hm
  rw [g a ha, g b hb, hw] at b1
  show (backS [.source 0, .source 1, l] _ (backS [.source 0, .source 1, l] _ (backS [.source 0, .source 1, l] _ ([0, 0, m], [0, 0]) 2) 1) 0).2 = _
  rw [b1]
  show [min w0 ((((X.map PyData.int)).length : Int) + 1), min w1 ((((Y.map PyData.int)).length : Int) + 1)] = _
  rw [List.length_map, List.length_map]
theorem needs_ab {l : Ln} {X Y : List Int} {m : Nat} (h2 : twoN l = true) (hm : 1 ≤ m) (hn : l.names = [0, 1]) : needsD [.source 0, .source 1, l] [X, Y] [2] [(m : Int)] = [(cA l X Y m : Int), (cB l X Y m : Int)] := by
  obtain ⟨h3, h4⟩ := two_cap (A := X) (B := Y) (made := [X.map PyData.int, Y.map PyData.int]) (lists := [X, Y]) h2 hn rfl rfl hm
  rw [needs_three (a := 0) (b := 1) h2 hn (by omega) rfl (.inl rfl) (.inr rfl)]
  rw [← h3, ← h4]
  rfl
theorem needs_ba {l : Ln} {X Y : List Int} {m : Nat} (h2 : twoN l = true) (hm : 1 ≤ m) (hn : l.names = [1, 0]) : needsD [.source 0, .source 1, l] [X, Y] [2] [(m : Int)] = [(cB l Y X m : Int), (cA l Y X m : Int)] := by
  obtain ⟨h3, h4⟩ := two_cap (A := Y) (B := X) (made := [X.map PyData.int, Y.map PyData.int]) (lists := [X, Y]) h2 hn rfl rfl hm
  rw [needs_three (a := 1) (b := 0) h2 hn (by omega) rfl (.inr rfl) (.inl rfl)]
  rw [← h3, ← h4]
  rfl
theorem min_max3 (x y c : Int) : min (max (max 0 x) y) c = max (min (max 0 x) c) (min (max 0 y) c) ∨ c < 0 := by omega
theorem needs_00 {l : Ln} {X Y : List Int} {m : Nat} (h2 : twoN l = true) (hm : 1 ≤ m) (hn : l.names = [0, 0]) : needsD [.source 0, .source 1, l] [X, Y] [2] [(m : Int)] = [max (cA l X X m : Int) (cB l X X m : Int), 0] := by
  obtain ⟨h3, h4⟩ := two_cap (A := X) (B := X) (made := [X.map PyData.int, Y.map PyData.int]) (lists := [X, Y]) h2 hn rfl rfl hm
  rw [needs_three (a := 0) (b := 0) h2 hn (by omega) rfl (.inl rfl) (.inl rfl)]
  rw [← h3, ← h4]
  have e : min 0 ((Y.length : Int) + 1) = 0 := by omega
  rw [e]
  rcases min_max3 (twoNeed l (X.map PyData.int) (X.map PyData.int) (min (m : Int) ((listD l [X.map PyData.int, Y.map PyData.int] [X, Y]).length + 1))).1 (twoNeed l (X.map PyData.int) (X.map PyData.int) (min (m : Int) ((listD l [X.map PyData.int, Y.map PyData.int] [X, Y]).length + 1))).2 ((X.length : Int) + 1) with h | h
  · rw [← h]
    rfl
  · omega
theorem needs_11 {l : Ln} {X Y : List Int} {m : Nat} (h2 : twoN l = true) (hm : 1 ≤ m) (hn : l.names = [1, 1]) : needsD [.source 0, .source 1, l] [X, Y] [2] [(m : Int)] = [0, max (cA l Y Y m : Int) (cB l Y Y m : Int)] := by
  obtain ⟨h3, h4⟩ := two_cap (A := Y) (B := Y) (made := [X.map PyData.int, Y.map PyData.int]) (lists := [X, Y]) h2 hn rfl rfl hm
  rw [needs_three (a := 1) (b := 1) h2 hn (by omega) rfl (.inr rfl) (.inr rfl)]
  rw [← h3, ← h4]
  have e : min 0 ((X.length : Int) + 1) = 0 := by omega
  rw [e]
  rcases min_max3 (twoNeed l (Y.map PyData.int) (Y.map PyData.int) (min (m : Int) ((listD l [X.map PyData.int, Y.map PyData.int] [X, Y]).length + 1))).1 (twoNeed l (Y.map PyData.int) (Y.map PyData.int) (min (m : Int) ((listD l [X.map PyData.int, Y.map PyData.int] [X, Y]).length + 1))).2 ((Y.length : Int) + 1) with h | h
  · rw [← h]
    rfl
  · omega
/-- behind more pulls than there are items the one source is at its end -/
theorem cap_same {l : Ln} {a : Int} {X : List Int} {made : List (List PyData)} {lists : List (List Int)} (h2 : twoN l = true) (hn : l.names = [a, a]) (hX : made.getD a.toNat [] = X.map PyData.int) :
    max (cA l X X ((listD l made lists).length + 3) : Int) (cB l X X ((listD l made lists).length + 3) : Int) = (X.length : Int) + 1 := by
  cases l with
  | chain u v =>
    cases hn
    have e : (listD (.chain a a) made lists).length = X.length + X.length := by
      show (made.getD a.toNat [] ++ made.getD a.toNat []).length = _
      rw [hX, List.length_append, List.length_map]
    rw [e]
    unfold cA cB
    dsimp only
    omega
  | pair u v =>
    cases hn
    have e : (listD (.pair a a) made lists).length = X.length := by
      show (List.zipWith _ (made.getD a.toNat []) (made.getD a.toNat [])).length = _
      rw [hX, List.length_zipWith, List.length_map, Nat.min_self]
    rw [e]
    unfold cA cB
    dsimp only
    split <;> omega
  | merge u v =>
    cases hn
    have e : (listD (.merge a a) made lists).length = X.length + X.length := by
      show ((mergeI ((made.getD a.toNat []).map toI) ((made.getD a.toNat []).map toI)).map PyData.int).length = _
      rw [hX, toI_back, List.length_map, merge_len]
    rw [e]
    unfold cA cB
    dsimp only
    rw [if_neg (by omega), if_neg (by omega)]
    have e2 : min (X.length + X.length + 3) (X.length + X.length + 1) - 1 = X.length + X.length := by omega
    rw [e2]
    obtain ⟨h1, h2, h3⟩ := posN_ok X X (X.length + X.length) (by omega)
    omega
  | _ => cases h2
/-! the order -/
def fstB (A B : List Int) (k : Nat) : Prop := (posN A B k).2 = B.length ∨ ((posN A B k).1 < A.length ∧ A.getD (posN A B k).1 0 ≤ B.getD (posN A B k).2 0)
instance (A B : List Int) (k : Nat) : Decidable (fstB A B k) := by unfold fstB; infer_instance
def givenN (A B : List Int) (a b : Int) (n : Nat) : List Int := (List.range n).map fun k => if fstB A B k then a else b
def pairT (A : List Int) (a b : Int) : Nat → List Int
  | 0 => []
  | k + 1 => pairT A a b k ++ (a :: if k < A.length then [b] else [])
def askT (l : Ln) (A B : List Int) (a b : Int) (m : Nat) : List Int :=
  match l with
  | .chain _ _ => (List.replicate (A.length + 1) a ++ List.replicate (B.length + 1) b).take (m + if A.length < m then 1 else 0)
  | .pair _ _ => pairT A a b (min m (min A.length B.length + 1))
  | _ => ([a, b] ++ givenN A B a b (A.length + B.length)).take (m + 1)
def Tr (l : Ln) (A B : List Int) (a b : Int) (m : Nat) : List Int := if m = 0 then [] else askT l A B a b m
theorem posN_succ (A B : List Int) (k : Nat) : posN A B (k + 1) = if fstB A B k then ((posN A B k).1 + 1, (posN A B k).2) else ((posN A B k).1, (posN A B k).2 + 1) := by
  by_cases c : fstB A B k
  · rw [if_pos c]
    exact if_pos c
  · rw [if_neg c]
    exact if_neg c
theorem chain_T {A B : List Int} {a b : Int} {u v : Int} {m : Nat} : askT (.chain u v) A B a b m = List.replicate (cA (.chain u v) A B m) a ++ List.replicate (cB (.chain u v) A B m) b := by
  unfold askT cA cB
  dsimp only
  rw [List.take_append, List.length_replicate, List.take_replicate, List.take_replicate]
  split
  · rw [show min (m + 1) (A.length + 1) = min m (A.length + 1) by omega, show m + 1 - (A.length + 1) = m - A.length by omega]
  · rw [show m + 0 - (A.length + 1) = 0 by omega, show m - A.length = 0 by omega, Nat.zero_min, Nat.add_zero]
theorem tr_step {l : Ln} {A B : List Int} {a b : Int} (h2 : twoN l = true) (m : Nat) : ∃ u v, Tr l A B a b (m + 1) = Tr l A B a b m ++ (List.replicate u a ++ List.replicate v b) ∧
    cA l A B (m + 1) = (if m = 0 then 0 else cA l A B m) + u ∧ cB l A B (m + 1) = (if m = 0 then 0 else cB l A B m) + v := by
  unfold Tr
  rw [if_neg (Nat.succ_ne_zero m)]
  cases l with
  | chain x y =>
    by_cases c : m = 0
    · rw [if_pos c, if_pos c, if_pos c, chain_T]
      exact ⟨_, _, rfl, (Nat.zero_add _).symm, (Nat.zero_add _).symm⟩
    · rw [if_neg c, if_neg c, if_neg c, chain_T, chain_T]
      by_cases d : m ≤ A.length
      · have e1 : cB (.chain x y) A B m = 0 := by unfold cB; dsimp only; omega
        have e2 : cA (.chain x y) A B (m + 1) = cA (.chain x y) A B m + 1 := by unfold cA; dsimp only; omega
        refine ⟨1, cB (.chain x y) A B (m + 1), ?_, e2, by rw [e1, Nat.zero_add]⟩
        rw [e1, e2, ← List.replicate_append_replicate, List.append_assoc, List.append_assoc]
        rfl
      · have e2 : cA (.chain x y) A B (m + 1) = cA (.chain x y) A B m := by unfold cA; dsimp only; omega
        obtain ⟨v, e1⟩ : ∃ v, cB (.chain x y) A B (m + 1) = cB (.chain x y) A B m + v := ⟨cB (.chain x y) A B (m + 1) - cB (.chain x y) A B m, by unfold cB; dsimp only; omega⟩
        refine ⟨0, v, ?_, by rw [e2, Nat.add_zero], e1⟩
        rw [e2, e1, ← List.replicate_append_replicate, List.append_assoc]
        rfl
  | pair x y =>
    have key : ∃ u v, askT (.pair x y) A B a b (m + 1) = askT (.pair x y) A B a b m ++ (List.replicate u a ++ List.replicate v b) ∧ cA (.pair x y) A B (m + 1) = cA (.pair x y) A B m + u ∧ cB (.pair x y) A B (m + 1) = cB (.pair x y) A B m + v := by
      unfold askT cA cB
      dsimp only
      by_cases c : m < min A.length B.length + 1
      · rw [show min (m + 1) (min A.length B.length + 1) = m + 1 by omega, show min m (min A.length B.length + 1) = m by omega]
        by_cases d : m < A.length
        · refine ⟨1, 1, ?_, rfl, by split <;> split <;> omega⟩
          show pairT A a b m ++ (a :: if m < A.length then [b] else []) = _
          rw [if_pos d]
          rfl
        · refine ⟨1, 0, ?_, rfl, by split <;> split <;> omega⟩
          show pairT A a b m ++ (a :: if m < A.length then [b] else []) = _
          rw [if_neg d]
          rfl
      · rw [show min (m + 1) (min A.length B.length + 1) = min A.length B.length + 1 by omega, show min m (min A.length B.length + 1) = min A.length B.length + 1 by omega]
        exact ⟨0, 0, (List.append_nil _).symm, rfl, rfl⟩
    by_cases c : m = 0
    · subst c
      exact key
    · rw [if_neg c, if_neg c, if_neg c]
      exact key
  | merge x y =>
    by_cases c : m = 0
    · subst c
      refine ⟨1, 1, rfl, ?_, ?_⟩
      · unfold cA
        dsimp only
        rw [if_neg (by omega), show min (0 + 1) (A.length + B.length + 1) - 1 = 0 by omega]
        rfl
      · unfold cB
        dsimp only
        rw [if_neg (by omega), show min (0 + 1) (A.length + B.length + 1) - 1 = 0 by omega]
        rfl
    · rw [if_neg c, if_neg c, if_neg c]
      unfold askT cA cB
      dsimp only
      rw [if_neg (Nat.succ_ne_zero m), if_neg (Nat.succ_ne_zero m), if_neg c, if_neg c]
      by_cases d : m ≤ A.length + B.length
      · rw [show min (m + 1) (A.length + B.length + 1) - 1 = (m - 1) + 1 by omega, show min m (A.length + B.length + 1) - 1 = m - 1 by omega, posN_succ]
        have hg : (givenN A B a b (A.length + B.length))[m - 1]? = some (if fstB A B (m - 1) then a else b) := by
          unfold givenN
          rw [List.getElem?_map, List.getElem?_range (by omega)]
          rfl
        have ht : ([a, b] ++ givenN A B a b (A.length + B.length)).take (m + 1 + 1) = ([a, b] ++ givenN A B a b (A.length + B.length)).take (m + 1) ++ [if fstB A B (m - 1) then a else b] := by
          rw [List.take_add_one, List.getElem?_append_right (by show 2 ≤ m + 1; omega)]
          show _ ++ ((givenN A B a b (A.length + B.length))[m + 1 - 2]?).toList = _
          rw [show m + 1 - 2 = m - 1 by omega, hg]
          rfl
        rw [ht]
        by_cases f : fstB A B (m - 1)
        · rw [if_pos f, if_pos f]
          exact ⟨1, 0, rfl, rfl, rfl⟩
        · rw [if_neg f, if_neg f]
          exact ⟨0, 1, rfl, rfl, rfl⟩
      · have hl : ([a, b] ++ givenN A B a b (A.length + B.length)).length = A.length + B.length + 2 := by
          unfold givenN
          rw [List.length_append, List.length_map, List.length_range]
          show 2 + _ = _
          omega
        rw [List.take_of_length_le (by omega), List.take_of_length_le (by omega), show min (m + 1) (A.length + B.length + 1) - 1 = A.length + B.length by omega, show min m (A.length + B.length + 1) - 1 = A.length + B.length by omega]
        exact ⟨0, 0, (List.append_nil _).symm, rfl, rfl⟩
  | _ => cases h2
theorem tr_next {l : Ln} {A B : List Int} {a b : Int} {S S' : Ms} {m : Nat} (h2 : twoN l = true) (hab : a ≠ b) (haft : Aft a b S S') (h : S.asks = Tr l A B a b m)
    (ha : S.asks.count a = if m = 0 then 0 else cA l A B m) (hb : S.asks.count b = if m = 0 then 0 else cB l A B m) (ha' : S'.asks.count a = cA l A B (m + 1)) (hb' : S'.asks.count b = cB l A B (m + 1)) : S'.asks = Tr l A B a b (m + 1) := by
  obtain ⟨u, v, e⟩ := haft
  obtain ⟨u', v', e', ea, eb⟩ := tr_step (A := A) (B := B) (a := a) (b := b) h2 m
  have c1 : (List.replicate v b).count a = 0 := List.count_eq_zero.mpr fun h => hab (List.eq_of_mem_replicate h)
  have c2 : (List.replicate u a).count b = 0 := List.count_eq_zero.mpr fun h => hab (List.eq_of_mem_replicate h).symm
  rw [e, List.count_append, List.count_append, ha, List.count_replicate_self, c1, ea] at ha'
  rw [e, List.count_append, List.count_append, hb, List.count_replicate_self, c2, eb] at hb'
  have hu : u = u' := by omega
  have hv : v = v' := by omega
  rw [e, e', h, hu, hv]
theorem ord6 {a b : Int} {A B X Y : List Int} (hc : (a = 0 ∧ b = 1 ∧ A = X ∧ B = Y) ∨ (a = 1 ∧ b = 0 ∧ A = Y ∧ B = X)) {l : Ln} (h2 : twoN l = true) (hn : l.names = [a, b]) {ks : List Kd} {S S' : Ms} {q q' : Nat → Nat} {m L : Nat} {x : PyData}
    (gd : Gd (ctOf [.source 0, .source 1, l] [2] [X, Y]) ks) (g : Glob (ctOf [.source 0, .source 1, l] [2] [X, Y]) S) (g' : Glob (ctOf [.source 0, .source 1, l] [2] [X, Y]) S') (D : Dem (ctOf [.source 0, .source 1, l] [2] [X, Y]) q S) (D' : Dem (ctOf [.source 0, .source 1, l] [2] [X, Y]) q' S')
    (hq : q 0 = m) (hq' : q' 0 = m + 1) (h : S.asks = Tr l A B a b m) (e : PL (ctOf [.source 0, .source 1, l] [2] [X, Y]) L (.out 0) S = some (x, S')) : S'.asks = Tr l A B a b (m + 1) := by
  have cnt : ∀ {S : Ms} {q : Nat → Nat} {m : Nat}, Glob (ctOf [.source 0, .source 1, l] [2] [X, Y]) S → Dem (ctOf [.source 0, .source 1, l] [2] [X, Y]) q S → q 0 = m → 1 ≤ m → S.asks.count a = cA l A B m ∧ S.asks.count b = cB l A B m := fun {S q m} g D hq hm => by
    have h1 := needs_asks gd g D (outs := [2]) (counts := [(m : Int)]) rfl fun o ho => by
      have : o = 0 := by simpa using ho
      subst this
      show (m : Int) = (q 0 : Int)
      rw [hq]
    have h1 : needsD [.source 0, .source 1, l] [X, Y] [2] [(m : Int)] = [(S.asks.count 0 : Int), (S.asks.count 1 : Int)] := h1
    rcases hc with ⟨rfl, rfl, rfl, rfl⟩ | ⟨rfl, rfl, rfl, rfl⟩
    · rw [needs_ab h2 hm hn] at h1
      injection h1 with e1 e2
      injection e2 with e2
      omega
    · rw [needs_ba h2 hm hn] at h1
      injection h1 with e1 e2
      injection e2 with e2
      omega
  have hab : a ≠ b := by rcases hc with ⟨rfl, rfl, _⟩ | ⟨rfl, rfl, _⟩ <;> decide
  have aft : Aft a b S S' := by
    refine out_asks (i := 2) (l := l) rfl rfl h2 ?_ ?_ e
    · rw [tgt_at (l := l) (i := 2) rfl (s := 0) (a := a) (by rw [hn]; rfl)]
      rcases hc with ⟨rfl, rfl, _⟩ | ⟨rfl, rfl, _⟩ <;> rfl
    · rw [tgt_at (l := l) (i := 2) rfl (s := 1) (a := b) (by rw [hn]; rfl)]
      rcases hc with ⟨rfl, rfl, _⟩ | ⟨rfl, rfl, _⟩ <;> rfl
  obtain ⟨ha', hb'⟩ := cnt g' D' hq' (by omega)
  by_cases c : m = 0
  · subst c
    have h0 : S.asks = [] := h
    exact tr_next h2 hab aft h (by rw [h0]; rfl) (by rw [h0]; rfl) ha' hb'
  · obtain ⟨ha, hb⟩ := cnt g D hq (by omega)
    exact tr_next h2 hab aft h (by rw [if_neg c]; exact ha) (by rw [if_neg c]; exact hb) ha' hb'
theorem end6 {a : Int} {A X Y : List Int} (hc : (a = 0 ∧ A = X) ∨ (a = 1 ∧ A = Y)) {l : Ln} (h2 : twoN l = true) (hn : l.names = [a, a]) {ks : List Kd} {S : Ms} {q : Nat → Nat}
    (gd : Gd (ctOf [.source 0, .source 1, l] [2] [X, Y]) ks) (g : Glob (ctOf [.source 0, .source 1, l] [2] [X, Y]) S) (D : Dem (ctOf [.source 0, .source 1, l] [2] [X, Y]) q S) (hq : q 0 = (listD l [X.map PyData.int, Y.map PyData.int] [X, Y]).length + 3) : S.asks.length = A.length + 1 := by
  generalize hm : (listD l [X.map PyData.int, Y.map PyData.int] [X, Y]).length + 3 = m at hq
  have h1 := needs_asks gd g D (outs := [2]) (counts := [(m : Int)]) rfl fun o ho => by
    have : o = 0 := by simpa using ho
    subst this
    show (m : Int) = (q 0 : Int)
    rw [hq]
  have h1 : needsD [.source 0, .source 1, l] [X, Y] [2] [(m : Int)] = [(S.asks.count 0 : Int), (S.asks.count 1 : Int)] := h1
  have h3 := counts_sum (n := 2) (xs := S.asks) (asks_in gd D)
  have h3 : (S.asks.count 0 : Int) + ((S.asks.count 1 : Int) + 0) = (S.asks.length : Int) := h3
  rcases hc with ⟨rfl, rfl⟩ | ⟨rfl, rfl⟩
  · rw [needs_00 h2 (by omega) hn] at h1
    have h5 := cap_same (made := [A.map PyData.int, Y.map PyData.int]) (lists := [A, Y]) h2 hn (X := A) rfl
    rw [hm] at h5
    injection h1 with e1 e2
    injection e2 with e2
    omega
  · rw [needs_11 h2 (by omega) hn] at h1
    have h5 := cap_same (made := [X.map PyData.int, A.map PyData.int]) (lists := [X, A]) h2 hn (X := A) rfl
    rw [hm] at h5
    injection h1 with e1 e2
    injection e2 with e2
    omega
theorem givenN_succ (A B : List Int) (a b : Int) (k : Nat) : givenN A B a b (k + 1) = givenN A B a b k ++ [if fstB A B k then a else b] := by
  unfold givenN
  rw [List.range_succ, List.map_append]
  rfl
def spGiven (K : PySem.W.Frag) : Sp := fun vs H Q _ => ∃ (v1 v2 v3 : V), vs = [v1, v2, v3] ∧ Hold (∃ (a b : Int) (pa pb : Addr) (A B : List Int), v2 = .ref pa ∧ v3 = .ref pb ∧ Im K H v1 (Ln.merge a b).d ∧ Acc K H pa (A.map PyData.int) ∧ Acc K H pb (B.map PyData.int) ∧ A.length ≤ 1000 ∧ B.length ≤ 1000 ∧
  ∀ p H', H p = none → Same H H' → Acc K H' p ((givenN A B a b (A.length + B.length)).map PyData.int) → Q (.ref p) H')
theorem ok__law_given (T : Tx P K w mg) : FnOk P w K mg base CX0 1 T._law_given.f T._law_given.fd ["_law_line", "_law_ones", "_law_others"] (spGiven K) := by
  refine T._law_given.F.ok sc__law_given (fun vs H Q E h => ?_) (fun cdv A outer s H vs Q E hr h => ?_)
  · obtain ⟨a, b, c, rfl, _⟩ := h
    rfl
  obtain ⟨v1, v2, v3, rfl, h⟩ := h
  obtain ⟨a, b, pa, pb, As, Bs, rfl, rfl, iv, aA, aB, lA, lB, q⟩ := h.out
  refine ⟨_, (pss_cons (ps_set (i := 3) sc__law_given.nd rfl (by first | exact Or.inl rfl | exact Or.inr rfl) (pe_ld pa_nil))
      (pss_cons (ps_set (i := 4) sc__law_given.nd rfl (by first | exact Or.inl rfl | exact Or.inr rfl) pe_int)
      (pss_cons (ps_set (i := 5) sc__law_given.nd rfl (by first | exact Or.inl rfl | exact Or.inr rfl) pe_int)
      (pss_cons (ps_while PassesOwn.never (PW.pt (pw_or (pt_cmpR op_lt (pv 4) (pe_callB call_lenA (by rfl) T.z_len PySem.boot_len (pa_cons (pv 1) pa_nil)) (nomark _)) (pw_or1 (pt_cmpR op_lt (pv 5) (pe_callB call_lenA (by rfl) T.z_len PySem.boot_len (pa_cons (pv 2) pa_nil)) (nomark _))))) (pss_one (ps_if (PW.pt (pw_or (pt_cmpR op_eq (pv 5) (pe_callB call_lenA (by rfl) T.z_len PySem.boot_len (pa_cons (pv 2) pa_nil)) (nomark _)) (pw_or1 (PW.pt (pw_and (pt_cmpR op_lt (pv 4) (pe_callB call_lenA (by rfl) T.z_len PySem.boot_len (pa_cons (pv 1) pa_nil)) (nomark _)) (pw_and1 (pt_cmpR op_le (pe_ix ix_listA (pv 1) (pv 4) (fun _ _ => rfl)) (pe_ix ix_listA (pv 2) (pv 5) (fun _ _ => rfl)) (nomark _)))))))) (pss_cons (ps_expr (pe_bm PySem.F.plainAttrs_list PySem.F.slot_list_append PySem.F.type_list_append mt_appA (pv 3) (pa_cons (pe_ix ix_tupD (pv 0) pe_int (fun _ _ => rfl)) pa_nil)))
      (pss_one (ps_set (i := 4) sc__law_given.nd rfl (by first | exact Or.inl rfl | exact Or.inr rfl) (pe_op op_add (pv 4) pe_int)))) (pss_cons (ps_expr (pe_bm PySem.F.plainAttrs_list PySem.F.slot_list_append PySem.F.type_list_append mt_appA (pv 3) (pa_cons (pe_ix ix_tupD (pv 0) pe_int (fun _ _ => rfl)) pa_nil)))
      (pss_one (ps_set (i := 5) sc__law_given.nd rfl (by first | exact Or.inl rfl | exact Or.inr rfl) (pe_op op_add (pv 5) pe_int)))))))
      (pss_one (ps_ret (pv 3))))))), ?_⟩
  walk_at "go"
  refine ⟨[], .nil, by simp, fun pf H1 nf s1 t1 af => ?_⟩
  walk_at "go"
  refine ⟨fun m σ H4 => Hold (∃ k : Nat, σ = [some v1, some (.ref pa), some (.ref pb), some (.ref pf), some (.int ((posN As Bs k).1 : Int)), some (.int ((posN As Bs k).2 : Int))] ∧ m + k = As.length + Bs.length ∧ Acc K H4 pf ((givenN As Bs a b k).map PyData.int) ∧ Same H H4),
    ⟨As.length + Bs.length, .mk ⟨0, rfl, rfl, af, s1⟩⟩, ?_⟩
  intro m σ H4 h
  obtain ⟨k, rfl, hm, af4, s4⟩ := h.out
  have aA4 := aA.same s4
  have aB4 := aB.same s4
  have iv4 := iv.u (same_tk s4)
  obtain ⟨p1, p2, p3⟩ := posN_ok As Bs k (by omega)
  have st := posN_succ As Bs k
  have gs := givenN_succ As Bs a b k
  have gl : (givenN As Bs a b k).length = k := by unfold givenN; rw [List.length_map, List.length_range]
  have fB : fstB As Bs k ↔ ((posN As Bs k).2 = Bs.length ∨ ((posN As Bs k).1 < As.length ∧ As.getD (posN As Bs k).1 0 ≤ Bs.getD (posN As Bs k).2 0)) := Iff.rfl
  walk_at "go"
  refine ⟨_, _, rfl, aA4, ?_⟩
  walk_at "go"
  by_cases c : (posN As Bs k).1 < As.length
  · rw [List.length_map]
    refine ite_t (decide_eq_true (by omega)) ?_
    walk_at "go"
    refine ⟨fun σ H4 => Hold (∃ k : Nat, σ = [some v1, some (.ref pa), some (.ref pb), some (.ref pf), some (.int ((posN As Bs k).1 : Int)), some (.int ((posN As Bs k).2 : Int))] ∧ m - 1 + k = As.length + Bs.length ∧ Acc K H4 pf ((givenN As Bs a b k).map PyData.int) ∧ Same H H4),
      fun σ' H' h => ⟨m - 1, by omega, h⟩, ?_⟩
    walk_at "go"
    refine ⟨_, _, rfl, aB4, ?_⟩
    rw [List.length_map]
    walk_at "go"
    by_cases c2 : (posN As Bs k).2 = Bs.length
    · have hf : fstB As Bs k := fB.mpr (.inl c2)
      refine ite_t (dv_t (by omega)) ?_
      walk_at "go"
      refine ⟨_, 1, 1, _, iv4, rfl, rfl, rfl, fun u iu => ?_⟩
      obtain rfl := iu.i
      refine ⟨pf, _, _, _, rfl, rfl, af4, .int _, by rw [List.length_map, gl]; omega, fun H5 b5 t5 a5 => ?_⟩
      walk_at "go"
      refine .mk ⟨k + 1, ?_, by omega, ?_, fun b u e => b5 _ _ (ne_of_none e nf) (s4 _ _ e)⟩
      · rw [st, if_pos hf]; rfl
      · rw [gs, if_pos hf, List.map_append]; exact a5
    · refine ite_f (dv_f (by omega)) ?_
      walk_at "go"
      refine ⟨_, _, rfl, aA4, ?_⟩
      rw [List.length_map]
      walk_at "go"
      refine ite_t (decide_eq_true (by omega)) ?_
      walk_at "go"
      have hA1 : (As.map PyData.int)[(posN As Bs k).1]? = some (.int (As.getD (posN As Bs k).1 0)) := by
        rw [List.getElem?_map, List.getD_eq_getElem?_getD, List.getElem?_eq_getElem c]; rfl
      have hB1 : (Bs.map PyData.int)[(posN As Bs k).2]? = some (.int (Bs.getD (posN As Bs k).2 0)) := by
        rw [List.getElem?_map, List.getD_eq_getElem?_getD, List.getElem?_eq_getElem (by omega)]; rfl
      refine ⟨_, _, _, (posN As Bs k).1, _, rfl, aA4, rfl, rfl, hA1, fun v iw => ?_⟩
      obtain rfl := iw.i
      walk_at "go"
      refine ⟨_, _, _, (posN As Bs k).2, _, rfl, aB4, rfl, rfl, hB1, fun v iw => ?_⟩
      obtain rfl := iw.i
      walk_at "go"
      by_cases c3 : As.getD (posN As Bs k).1 0 ≤ Bs.getD (posN As Bs k).2 0
      · have hf : fstB As Bs k := fB.mpr (.inr ⟨c, c3⟩)
        refine ite_t (decide_eq_true c3) ?_
        walk_at "go"
        refine ⟨_, 1, 1, _, iv4, rfl, rfl, rfl, fun u iu => ?_⟩
        obtain rfl := iu.i
        refine ⟨pf, _, _, _, rfl, rfl, af4, .int _, by rw [List.length_map, gl]; omega, fun H5 b5 t5 a5 => ?_⟩
        walk_at "go"
        refine .mk ⟨k + 1, ?_, by omega, ?_, fun b u e => b5 _ _ (ne_of_none e nf) (s4 _ _ e)⟩
        · rw [st, if_pos hf]; rfl
        · rw [gs, if_pos hf, List.map_append]; exact a5
      · have hf : ¬ fstB As Bs k := fun z => (fB.mp z).elim c2 fun z => c3 z.2
        refine ite_f (decide_eq_false c3) ?_
        walk_at "go"
        refine ⟨_, 2, 2, _, iv4, rfl, rfl, rfl, fun u iu => ?_⟩
        obtain rfl := iu.i
        refine ⟨pf, _, _, _, rfl, rfl, af4, .int _, by rw [List.length_map, gl]; omega, fun H5 b5 t5 a5 => ?_⟩
        walk_at "go"
        refine .mk ⟨k + 1, ?_, by omega, ?_, fun b u e => b5 _ _ (ne_of_none e nf) (s4 _ _ e)⟩
        · rw [st, if_neg hf]; rfl
        · rw [gs, if_neg hf, List.map_append]; exact a5
  · rw [List.length_map]
    refine ite_f (decide_eq_false (by omega)) ?_
    walk_at "go"
    refine ⟨_, _, rfl, aB4, ?_⟩
    rw [List.length_map]
    walk_at "go"
    by_cases d : (posN As Bs k).2 < Bs.length
    · refine ite_t (decide_eq_true (by omega)) ?_
      walk_at "go"
      refine ⟨fun σ H4 => Hold (∃ k : Nat, σ = [some v1, some (.ref pa), some (.ref pb), some (.ref pf), some (.int ((posN As Bs k).1 : Int)), some (.int ((posN As Bs k).2 : Int))] ∧ m - 1 + k = As.length + Bs.length ∧ Acc K H4 pf ((givenN As Bs a b k).map PyData.int) ∧ Same H H4),
        fun σ' H' h => ⟨m - 1, by omega, h⟩, ?_⟩
      walk_at "go"
      refine ⟨_, _, rfl, aB4, ?_⟩
      rw [List.length_map]
      walk_at "go"
      refine ite_f (dv_f (by omega)) ?_
      walk_at "go"
      refine ⟨_, _, rfl, aA4, ?_⟩
      rw [List.length_map]
      walk_at "go"
      refine ite_f (decide_eq_false (by omega)) ?_
      have hf : ¬ fstB As Bs k := fun z => (fB.mp z).elim (fun z => by omega) fun z => c z.1
      refine ite_f rfl ?_
      walk_at "go"
      refine ⟨_, 2, 2, _, iv4, rfl, rfl, rfl, fun u iu => ?_⟩
      obtain rfl := iu.i
      refine ⟨pf, _, _, _, rfl, rfl, af4, .int _, by rw [List.length_map, gl]; omega, fun H5 b5 t5 a5 => ?_⟩
      walk_at "go"
      refine .mk ⟨k + 1, ?_, by omega, ?_, fun b u e => b5 _ _ (ne_of_none e nf) (s4 _ _ e)⟩
      · rw [st, if_neg hf]; rfl
      · rw [gs, if_neg hf, List.map_append]; exact a5
    · refine ite_f (decide_eq_false (by omega)) ?_
      walk_at "go"
      have ek : k = As.length + Bs.length := by omega
      rw [ek] at af4
      exact q pf H4 nf s4 af4

theorem rep_snoc (n : Nat) (a : Int) : List.replicate (n + 1) a = List.replicate n a ++ [a] := List.replicate_succ'
def spAsks (K : PySem.W.Frag) : Sp := fun vs H Q _ => ∃ (v1 v2 v3 : V), vs = [v1, v2, v3] ∧ Hold (∃ (l : Ln) (a b : Int) (pl : Addr) (al : List Addr) (X Y A B : List Int) (m : Int), v2 = .ref pl ∧ v3 = .int m ∧ Im K H v1 l.d ∧ twoN l = true ∧ l.names = [a, b] ∧ LL K H pl al (intsD [X, Y]) ∧
  ((a = 0 ∧ b = 1 ∧ A = X ∧ B = Y) ∨ (a = 1 ∧ b = 0 ∧ A = Y ∧ B = X)) ∧ 1 ≤ m ∧ m ≤ 100000 ∧ A.length ≤ 1000 ∧ B.length ≤ 1000 ∧
  ∀ p H', H p = none → Same H H' → Acc K H' p ((askT l A B a b m.toNat).map PyData.int) → Q (.ref p) H')
theorem ok__law_asks (T : Tx P K w mg) : FnOk P w K mg base CX0 2 T._law_asks.f T._law_asks.fd ["_law_line", "_law_lists", "_law_many"] (spAsks K) := by
  refine T._law_asks.F.ok sc__law_asks (fun vs H Q E h => ?_) (fun cdv A outer s H vs Q E hr h => ?_)
  · obtain ⟨a, b, c, rfl, _⟩ := h
    rfl
  obtain ⟨v1, v2, v3, rfl, h⟩ := h
  obtain ⟨l, a, b, pl, al, X, Y, As, Bs, m, rfl, rfl, iv, h2, hn, ll, hc, m1, mM, lA, lB, q⟩ := h.out
  obtain ⟨pa, pb, hpa, hpb, aA, aB, b0, b1, bb0, bb1⟩ : ∃ pa pb, al[a.toNat]? = some pa ∧ al[b.toNat]? = some pb ∧ Acc K H pa (As.map PyData.int) ∧ Acc K H pb (Bs.map PyData.int) ∧ 0 ≤ a ∧ a < 2 ∧ 0 ≤ b ∧ b < 2 := by
    rcases hc with ⟨rfl, rfl, rfl, rfl⟩ | ⟨rfl, rfl, rfl, rfl⟩
    · obtain ⟨pa, h1, h3⟩ := ll.2.get (i := 0) rfl
      obtain ⟨pb, h4, h5⟩ := ll.2.get (i := 1) rfl
      exact ⟨pa, pb, h1, h4, h3, h5, by decide, by decide, by decide, by decide⟩
    · obtain ⟨pa, h1, h3⟩ := ll.2.get (i := 1) rfl
      obtain ⟨pb, h4, h5⟩ := ll.2.get (i := 0) rfl
      exact ⟨pa, pb, h1, h4, h3, h5, by decide, by decide, by decide, by decide⟩
  refine ⟨_, (pss_cons (ps_set (i := 3) sc__law_asks.nd rfl (by first | exact Or.inl rfl | exact Or.inr rfl) (pe_ix ix_LL (pv 1) (pe_ix ix_tupD (pv 0) pe_int (fun _ _ => rfl)) (fun _ _ => rfl)))
      (pss_cons (ps_set (i := 4) sc__law_asks.nd rfl (by first | exact Or.inl rfl | exact Or.inr rfl) (pe_ix ix_LL (pv 1) (pe_ix ix_tupD (pv 0) pe_int (fun _ _ => rfl)) (fun _ _ => rfl)))
      (pss_cons (ps_if (pt_cmpR op_eq (pe_ix ix_tupD (pv 0) pe_int (fun _ _ => rfl)) pe_str (nomark _)) (pss_cons (ps_set (i := 5) sc__law_asks.nd rfl (by first | exact Or.inl rfl | exact Or.inr rfl) (pe_op op_catL (pe_lc (own := [("_law_k", 6)]) (g := gName 6) (tt := tYes) rfl sc__law_asks.nd (pi_range1 (by rfl) T.z_range (pa_cons (pe_op op_add (pe_callB call_lenA (by rfl) T.z_len PySem.boot_len (pa_cons (pv 3) pa_nil)) pe_int) pa_nil)) (blkOk_by (own := [("_law_k", 6)]) (N := ["_law_line", "_law_lists", "_law_many", "_law_ones", "_law_others", "_law_asks_here", "_law_k"]) (sc := defScope s__law_asks) (by decide +kernel)) (fun _ _ _ _ _ => pg_name (i := 6) sc__law_asks.nd rfl (Or.inl rfl)) (fun _ _ _ _ _ => pts_nil) (fun _ _ _ _ _ => (pe_ix (show IxR _ (rIxD K) from ix_tupD) (pv 0) pe_int (fun _ _ => rfl)))) (pe_lc (own := [("_law_k", 6)]) (g := gName 6) (tt := tYes) rfl sc__law_asks.nd (pi_range1 (by rfl) T.z_range (pa_cons (pe_op op_add (pe_callB call_lenA (by rfl) T.z_len PySem.boot_len (pa_cons (pv 4) pa_nil)) pe_int) pa_nil)) (blkOk_by (own := [("_law_k", 6)]) (N := ["_law_line", "_law_lists", "_law_many", "_law_ones", "_law_others", "_law_asks_here", "_law_k"]) (sc := defScope s__law_asks) (by decide +kernel)) (fun _ _ _ _ _ => pg_name (i := 6) sc__law_asks.nd rfl (Or.inl rfl)) (fun _ _ _ _ _ => pts_nil) (fun _ _ _ _ _ => (pe_ix (show IxR _ (rIxD K) from ix_tupD) (pv 0) pe_int (fun _ _ => rfl))))))
      (pss_one (ps_ret (pe_slice sl_listD (pv 5) po_none (po_some (pe_op op_add (pv 2) (pe_callTy call_int1 (by rfl) T.z_int (by decide +kernel) (pa_cons (pe_cmpR op_gt (pv 2) (pe_callB call_lenA (by rfl) T.z_len PySem.boot_len (pa_cons (pv 3) pa_nil)) (nomark _)) pa_nil)))))))) pss_nil)
      (pss_cons (ps_if (pt_cmpR op_eq (pe_ix ix_tupD (pv 0) pe_int (fun _ _ => rfl)) pe_str (nomark _)) (pss_one (ps_ret (pe_slice sl_listD (pe_op op_catL (pe_ld (pa_cons (pe_ix ix_tupD (pv 0) pe_int (fun _ _ => rfl)) (pa_cons (pe_ix ix_tupD (pv 0) pe_int (fun _ _ => rfl)) pa_nil))) (pe_call (ok__law_given T) hr (by rfl) T._law_given.g T._law_given.F.kp T._law_given.b .nil pass0 (pa_cons (pv 0) (pa_cons (pv 3) (pa_cons (pv 4) pa_nil))))) po_none (po_some (pe_op op_add (pv 2) pe_int))))) pss_nil)
      (pss_cons (ps_set (i := 5) sc__law_asks.nd rfl (by first | exact Or.inl rfl | exact Or.inr rfl) (pe_ld pa_nil))
      (pss_cons (ps_for PassesOwn.never rfl (pi_range1 (by rfl) T.z_range (pa_cons (pe_callB (call_min2N rfl) (by rfl) T.z_min (by decide +kernel) (pa_cons (pv 2) (pa_cons (pe_op op_add (pe_callB (call_min2N rfl) (by rfl) T.z_min (by decide +kernel) (pa_cons (pe_callB call_lenA (by rfl) T.z_len PySem.boot_len (pa_cons (pv 3) pa_nil)) (pa_cons (pe_callB call_lenA (by rfl) T.z_len PySem.boot_len (pa_cons (pv 4) pa_nil)) pa_nil))) pe_int) pa_nil))) pa_nil)) (pg_name (i := 6) sc__law_asks.nd rfl (by first | exact Or.inl rfl | exact Or.inr rfl)) (pss_cons (ps_expr (pe_bm PySem.F.plainAttrs_list PySem.F.slot_list_append PySem.F.type_list_append mt_appA (pv 5) (pa_cons (pe_ix ix_tupD (pv 0) pe_int (fun _ _ => rfl)) pa_nil)))
      (pss_one (ps_if (pt_cmpR op_lt (pv 6) (pe_callB call_lenA (by rfl) T.z_len PySem.boot_len (pa_cons (pv 3) pa_nil)) (nomark _)) (pss_one (ps_expr (pe_bm PySem.F.plainAttrs_list PySem.F.slot_list_append PySem.F.type_list_append mt_appA (pv 5) (pa_cons (pe_ix ix_tupD (pv 0) pe_int (fun _ _ => rfl)) pa_nil)))) pss_nil))))
      (pss_one (ps_ret (pv 5))))))))), ?_⟩
  walk_at "go"
  cases l with
  | chain u v =>
    cases hn
    refine ⟨_, 1, 1, _, iv, rfl, rfl, rfl, fun u iu => ?_⟩
    obtain rfl := iu.i
    refine ⟨_, _, _, a.toNat, pa, rfl, ll.1, rfl, by omega, hpa, ?_⟩
    walk_at "go"
    refine ⟨_, 2, 2, _, iv, rfl, rfl, rfl, fun u iu => ?_⟩
    obtain rfl := iu.i
    refine ⟨_, _, _, b.toNat, pb, rfl, ll.1, rfl, by omega, hpb, ?_⟩
    walk_at "wds"
    refine ⟨_, _, rfl, aA, ?_⟩
    rw [List.length_map]
    walk_at "go"
    intro L1 nL1
    refine loop_rng (lo := 0) (n := ((As.length : Int) + 1).toNat) (fun j H2 => Hold (Same H H2 ∧ Acc K H2 L1 ((List.replicate j a).map PyData.int)))
      (.mk ⟨same_new nL1, acc_nil upd_same⟩) ?_ ?_
    · intro j H6 hj h
      obtain ⟨s6, a6⟩ := h.out
      walk_at "go"
      refine ⟨_, 1, 1, _, iv.u (same_tk s6), rfl, rfl, rfl, fun u iu => ?_⟩
      obtain rfl := iu.i
      obtain ⟨acc, ea, hla, b4, t4, a4⟩ := a6.push (.int a) (by rw [List.length_map, List.length_replicate]; omega)
      refine ⟨acc, ea, hla, .mk ⟨same_put s6 nL1, ?_⟩⟩
      rw [rep_snoc, List.map_append]
      exact a4
    intro H2 h
    obtain ⟨s2, a2⟩ := h.out
    walk_at "go"
    refine ⟨_, _, rfl, aB.same s2, ?_⟩
    rw [List.length_map]
    walk_at "go"
    intro L2 nL2
    refine loop_rng (lo := 0) (n := ((Bs.length : Int) + 1).toNat) (fun j H3 => Hold (Same H2 H3 ∧ Acc K H3 L2 ((List.replicate j b).map PyData.int)))
      (.mk ⟨same_new nL2, acc_nil upd_same⟩) ?_ ?_
    · intro j H6 hj h
      obtain ⟨s6, a6⟩ := h.out
      walk_at "go"
      refine ⟨_, 2, 2, _, iv.u (same_tk (s2.trans s6)), rfl, rfl, rfl, fun u iu => ?_⟩
      obtain rfl := iu.i
      obtain ⟨acc, ea, hla, b4, t4, a4⟩ := a6.push (.int b) (by rw [List.length_map, List.length_replicate]; omega)
      refine ⟨acc, ea, hla, .mk ⟨same_put s6 nL2, ?_⟩⟩
      rw [rep_snoc, List.map_append]
      exact a4
    intro H3 h
    obtain ⟨s3, a3⟩ := h.out
    walk_at "go"
    refine ⟨_, _, _, _, rfl, rfl, a2.same s3, a3, (by rw [List.length_map, List.length_replicate, List.length_map, List.length_replicate]; omega), fun p4 H4 n4 s4 t4 a4 => ?_⟩
    walk_at "go"
    refine ⟨_, _, rfl, ((aA.same s2).same s3).same s4, ?_⟩
    rw [List.length_map]
    walk_at "go"
    refine ⟨_, _, rfl, a4, fun p5 H5 n5 s5 t5 a5 => ?_⟩
    rw [cut_take _ _ (by split <;> omega)] at a5
    have S4 := s2.trans (s3.trans s4)
    refine q p5 H5 (S4.free n5) (S4.trans s5) ?_
    show Acc K H5 p5 (((List.replicate (As.length + 1) a ++ List.replicate (Bs.length + 1) b).take (m.toNat + if As.length < m.toNat then 1 else 0)).map PyData.int)
    have e : (m + if decide ((As.length : Int) < m) = true then 1 else 0).toNat = m.toNat + if As.length < m.toNat then 1 else 0 := by
      by_cases c : (As.length : Int) < m
      · rw [decide_eq_true c, if_pos rfl, if_pos (by omega)]; omega
      · rw [decide_eq_false c, if_neg (by decide), if_neg (by omega)]; omega
    rw [List.map_take, List.map_append, ← e]
    exact a5
  | pair u v =>
    cases hn
    refine ⟨_, 1, 1, _, iv, rfl, rfl, rfl, fun u iu => ?_⟩
    obtain rfl := iu.i
    refine ⟨_, _, _, a.toNat, pa, rfl, ll.1, rfl, by omega, hpa, ?_⟩
    walk_at "go"
    refine ⟨_, 2, 2, _, iv, rfl, rfl, rfl, fun u iu => ?_⟩
    obtain rfl := iu.i
    refine ⟨_, _, _, b.toNat, pb, rfl, ll.1, rfl, by omega, hpb, ?_⟩
    walk_at "wds"
    refine ⟨[], .nil, by simp, fun pf H1 nf s1 t1 af => ?_⟩
    walk_at "go"
    refine ⟨_, _, rfl, aA.same s1, ?_⟩
    rw [List.length_map]
    walk_at "go"
    refine ⟨_, _, rfl, aB.same s1, ?_⟩
    rw [List.length_map]
    walk_at "go"
    refine for_range (lo := 0) (n := (min m (min (As.length : Int) (Bs.length : Int) + 1)).toNat) (fun i σ H2 => Hold (∃ (o6 : Option V), σ = [some v1, some (.ref pl), some (.int m), some (.ref pa), some (.ref pb), some (.ref pf), o6] ∧ Same H H2 ∧ Acc K H2 pf ((pairT As a b i).map PyData.int) ∧ (pairT As a b i).length ≤ 2 * i))
      (.mk ⟨none, rfl, s1, af, Nat.le_refl _⟩) ?_ ?_
    · intro i σ H2 hi h
      obtain ⟨o6, rfl, s2, a2, l2⟩ := h.out
      have iv2 := iv.u (same_tk s2)
      walk_at "go"
      refine ⟨_, 1, 1, _, iv2, rfl, rfl, rfl, fun u iu => ?_⟩
      obtain rfl := iu.i
      refine ⟨pf, _, _, _, rfl, rfl, a2, .int _, by rw [List.length_map]; omega, fun H5 b5 t5 a5 => ?_⟩
      have s5 : Same H H5 := fun b u e => b5 _ _ (ne_of_none e nf) (s2 _ _ e)
      walk_at "go"
      refine ⟨_, _, rfl, aA.same s5, ?_⟩
      rw [List.length_map]
      walk_at "go"
      have ep : pairT As a b (i + 1) = pairT As a b i ++ (a :: if i < As.length then [b] else []) := rfl
      by_cases c : i < As.length
      · rw [if_pos c] at ep
        refine ite_t (decide_eq_true (by omega)) ?_
        walk_at "go"
        refine ⟨_, 2, 2, _, iv.u (same_tk s5), rfl, rfl, rfl, fun u iu => ?_⟩
        obtain rfl := iu.i
        refine ⟨pf, _, _, _, rfl, rfl, a5, .int _, by rw [List.length_append, List.length_map]; show _ + 1 < _; omega, fun H6 b6 t6 a6 => ?_⟩
        walk_at "go"
        refine .mk ⟨_, rfl, fun b u e => b6 _ _ (ne_of_none e nf) (s5 _ _ e), ?_, ?_⟩
        · rw [ep, List.map_append]
          rw [List.append_assoc] at a6
          exact a6
        · rw [ep, List.length_append]
          show _ + 2 ≤ _
          omega
      · rw [if_neg c] at ep
        refine ite_f (decide_eq_false (by omega)) ?_
        walk_at "go"
        refine .mk ⟨_, rfl, s5, ?_, ?_⟩
        · rw [ep, List.map_append]
          exact a5
        · rw [ep, List.length_append]
          show _ + 1 ≤ _
          omega
    · intro σ H2 h
      obtain ⟨o6, rfl, s2, a2, l2⟩ := h.out
      walk_at "go"
      refine q pf H2 nf s2 ?_
      have e : askT (.pair a b) As Bs a b m.toNat = pairT As a b (min m (min (As.length : Int) (Bs.length : Int) + 1)).toNat := by
        show pairT As a b (min m.toNat (min As.length Bs.length + 1)) = _
        rw [show min m.toNat (min As.length Bs.length + 1) = (min m (min (As.length : Int) (Bs.length : Int) + 1)).toNat by omega]
      rw [e]
      exact a2
  | merge u v =>
    cases hn
    refine ⟨_, 1, 1, _, iv, rfl, rfl, rfl, fun u iu => ?_⟩
    obtain rfl := iu.i
    refine ⟨_, _, _, a.toNat, pa, rfl, ll.1, rfl, by omega, hpa, ?_⟩
    walk_at "go"
    refine ⟨_, 2, 2, _, iv, rfl, rfl, rfl, fun u iu => ?_⟩
    obtain rfl := iu.i
    refine ⟨_, _, _, b.toNat, pb, rfl, ll.1, rfl, by omega, hpb, ?_⟩
    walk_at "wds"
    refine ⟨_, 1, 1, _, iv, rfl, rfl, rfl, fun u iu => ?_⟩
    obtain rfl := iu.i
    walk_at "go"
    refine ⟨_, 2, 2, _, iv, rfl, rfl, rfl, fun u iu => ?_⟩
    obtain rfl := iu.i
    refine ⟨[.int a, .int b], .cons (.int _) (.cons (.int _) .nil), by simp, fun p2 H2 n2 s2 t2 a2 => ?_⟩
    walk_at "go"
    refine .mk ⟨a, b, pa, pb, As, Bs, rfl, rfl, iv.u (same_tk s2), aA.same s2, aB.same s2, lA, lB, fun p3 H3 n3 s3 a3 => ?_⟩
    have gl : (givenN As Bs a b (As.length + Bs.length)).length = As.length + Bs.length := by unfold givenN; rw [List.length_map, List.length_range]
    walk_at "go"
    refine ⟨_, _, _, _, rfl, rfl, a2.same s3, a3, (by rw [List.length_map, gl]; show 2 + _ ≤ _; omega), fun p4 H4 n4 s4 t4 a4 => ?_⟩
    walk_at "go"
    refine ⟨_, _, rfl, a4, fun p5 H5 n5 s5 t5 a5 => ?_⟩
    rw [cut_take _ _ (by omega)] at a5
    have S4 := s2.trans (s3.trans s4)
    refine q p5 H5 (S4.free n5) (S4.trans s5) ?_
    show Acc K H5 p5 ((([a, b] ++ givenN As Bs a b (As.length + Bs.length)).take (m.toNat + 1)).map PyData.int)
    rw [List.map_take, List.map_append, show m.toNat + 1 = (m + 1).toNat by omega]
    exact a5
  | _ => cases h2

def mkL : Nat → Int → Int → Ln
  | 0, a, b => .chain a b
  | 1, a, b => .pair a b
  | _, a, b => .merge a b
def mkW : Nat → Str
  | 0 => "chain"
  | 1 => "pair"
  | _ => "merge"
def mkK : Nat → Kd
  | 1 => .pair .num .num
  | _ => .num
theorem mkL_d : ∀ (r : Nat) (a b : Int), (mkL r a b).d = .tuple [.str (mkW r), .int a, .int b]
  | 0, _, _ => rfl
  | 1, _, _ => rfl
  | _ + 2, _, _ => rfl
theorem mkL_two : ∀ (r : Nat) (a b : Int), twoN (mkL r a b) = true
  | 0, _, _ => rfl
  | 1, _, _ => rfl
  | _ + 2, _, _ => rfl
theorem mkL_names : ∀ (r : Nat) (a b : Int), (mkL r a b).names = [a, b]
  | 0, _, _ => rfl
  | 1, _, _ => rfl
  | _ + 2, _, _ => rfl
theorem mkL_drawn (r : Nat) {a b : Int} (ha : a = 0 ∨ a = 1) (hb : b = 0 ∨ b = 1) : DrawnL [.num, .num] (mkL r a b) (mkK r) := by
  have h : ∀ c : Int, c = 0 ∨ c = 1 → 0 ≤ c ∧ [Kd.num, .num][c.toNat]? = some .num := fun c h => by rcases h with rfl | rfl <;> exact ⟨by decide, rfl⟩
  obtain ⟨a0, a1⟩ := h a ha
  obtain ⟨b0, b1⟩ := h b hb
  match r with
  | 0 => exact .two rfl rfl a0 a1 b0 b1 rfl rfl (by decide) (mid_no fun _ _ z => nomatch z)
  | 1 => exact .two rfl rfl a0 a1 b0 b1 rfl rfl (by decide) (mid_no fun _ _ z => nomatch z)
  | _ + 2 => exact .two rfl rfl a0 a1 b0 b1 rfl rfl (show Kd.num.dp ≤ 2 by decide) (mid_no fun _ _ z => nomatch z)
def csK (lw ap pl : Addr) (al : List Addr) (ls : List Ln) (Bl : List PyData) (lists : List (List Int)) : Addr → Cell → Prop := fun a c => (a = lw ∧ c = .acc (ls.map Ln.d)) ∨ (a = ap ∧ c = .acc Bl) ∨ Rw pl al (intsD lists) a c
def spLaw (K : PySem.W.Frag) : Sp := fun vs H Q _ => ∃ (a : Addr) (ns : List Int), vs = [.ref a] ∧ Fz K H a (ns.map V.int) ∧ ns.length ≤ 63 ∧ ∀ H', Q (.bl true) H'
theorem ok_law (T : Tx P K w mg) : FnOk P w K mg base CX0 222 T.law.f T.law.fd ["_law_script"] (spLaw K) := by
  refine T.law.F.ok sc_law (fun vs H Q E h => ?_) (fun cdv A outer s H vs Q E hr h => ?_)
  · obtain ⟨a, ns, rfl, _⟩ := h
    rfl
  obtain ⟨a, ns, rfl, hF, h63, q⟩ := h
  refine ⟨_, (pss_cons (ps_set (i := 1) sc_law.nd rfl (by first | exact Or.inl rfl | exact Or.inr rfl) (pe_call (ok__law_dice T) (hr.mono (by decide)) (by rfl) T._law_dice.g T._law_dice.F.kp T._law_dice.b .nil pass0 (pa_cons (pv 0) pa_nil)))
      (pss_cons (ps_setLc (i := 2) (own := [("_law_j", 11)]) (g := gName 11) (tt := tYes) rfl sc_law.nd rfl rfl (sw_true rfl rfl rfl (by decide +kernel)) (pi_range1 (by rfl) T.z_range (pa_cons pe_int pa_nil)) (blkOk_by (own := [("_law_j", 11)]) (N := ["_law_script", "_law_d", "_law_lists", "_law_word", "_law_turn", "_law_weave", "_law_made", "_law_run", "_law_k", "_law_many", "_law_due", "_law_j"]) (sc := defScope s_law) (by decide +kernel)) (fun _ _ _ _ _ => pg_name (i := 11) sc_law.nd rfl (Or.inl rfl)) (fun _ _ _ _ _ => pts_nil) (fun _ _ _ _ _ => (pe_lc (own := [("_law_k", 8)]) (g := gName 8) (tt := tYes) rfl sc_law.nd (pi_range1 (by rfl) T.z_range (pa_cons (pe_call (ok__law_next T) (hr.mono (by decide)) (by rfl) T._law_next.g T._law_next.F.kp T._law_next.b .nil pass0 (pa_cons (pv 1) (pa_cons pe_int pa_nil))) pa_nil)) (blkOk_by (own := [("_law_k", 8)]) (N := ["_law_script", "_law_d", "_law_lists", "_law_word", "_law_turn", "_law_weave", "_law_made", "_law_run", "_law_k", "_law_many", "_law_due", "_law_j"]) (by rfl)) (fun _ _ _ _ _ => pg_name (i := 8) sc_law.nd rfl (Or.inl rfl)) (fun _ _ _ _ _ => pts_nil) (fun _ _ _ _ _ => (pe_call (ok__law_number T) (hr.mono (by decide)) (by rfl) T._law_number.g T._law_number.F.kp T._law_number.b .nil pass0 (pa_cons (pv 1) pa_nil))))))
      (pss_cons (ps_set (i := 3) sc_law.nd rfl (by first | exact Or.inl rfl | exact Or.inr rfl) (pe_ix ix_listA (pe_ld (pa_cons pe_str (pa_cons pe_str (pa_cons pe_str pa_nil)))) (pe_call (ok__law_next T) (hr.mono (by decide)) (by rfl) T._law_next.g T._law_next.F.kp T._law_next.b .nil pass0 (pa_cons (pv 1) (pa_cons pe_int pa_nil))) (fun _ _ => rfl)))
      (pss_cons (ps_set (i := 4) sc_law.nd rfl (by first | exact Or.inl rfl | exact Or.inr rfl) (pe_call (ok__law_next T) (hr.mono (by decide)) (by rfl) T._law_next.g T._law_next.F.kp T._law_next.b .nil pass0 (pa_cons (pv 1) (pa_cons pe_int pa_nil))))
      (pss_cons (ps_set (i := 5) sc_law.nd rfl (by first | exact Or.inl rfl | exact Or.inr rfl) (pe_ld (pa_cons (pe_td (pa_cons pe_str (pa_cons pe_int pa_nil))) (pa_cons (pe_td (pa_cons pe_str (pa_cons pe_int pa_nil))) (pa_cons (pe_td (pa_cons (pv 3) (pa_cons (pv 4) (pa_cons (pe_op op_sub pe_int (pv 4)) pa_nil)))) pa_nil)))))
      (pss_cons (ps_cut (ps_if (pt_cmpR op_eq (pe_call (ok__law_next T) (hr.mono (by decide)) (by rfl) T._law_next.g T._law_next.F.kp T._law_next.b .nil pass0 (pa_cons (pv 1) (pa_cons pe_int pa_nil))) pe_int (nomark _)) (pss_one (ps_set (i := 5) sc_law.nd rfl (by first | exact Or.inl rfl | exact Or.inr rfl) (pe_ld (pa_cons (pe_td (pa_cons pe_str (pa_cons pe_int pa_nil))) (pa_cons (pe_td (pa_cons pe_str (pa_cons pe_int pa_nil))) (pa_cons (pe_td (pa_cons (pv 3) (pa_cons (pv 4) (pa_cons (pv 4) pa_nil)))) pa_nil)))))) pss_nil))
      (pss_cons (ps_set (i := 6) sc_law.nd rfl (by first | exact Or.inl rfl | exact Or.inr rfl) (pe_ix ix_LL (pe_call (ok__law_plain T) (hr.mono (by decide)) (by rfl) T._law_plain.g T._law_plain.F.kp T._law_plain.b .nil pass0 (pa_cons (pv 5) (pa_cons (pv 2) pa_nil))) pe_int (fun _ _ => rfl)))
      (pss_cons (ps_set (i := 7) sc_law.nd rfl (by first | exact Or.inl rfl | exact Or.inr rfl) (pe_make T.Run___init__.mk' (ok_Run___init__ T) (hr.mono (by decide)) (by rfl) T.k_Run.g T.Run___init__.b .nil pass0 (pa_cons (pv 5) (pa_cons (pe_ld (pa_cons pe_int pa_nil)) (pa_cons (pv 2) pa_nil)))))
      (pss_cons (ps_for PassesOwn.never rfl (pi_range1 (by rfl) T.z_range (pa_cons (pe_op op_add (pe_callB call_lenA (by rfl) T.z_len PySem.boot_len (pa_cons (pv 6) pa_nil)) pe_int) pa_nil)) (pg_name (i := 8) sc_law.nd rfl (by first | exact Or.inl rfl | exact Or.inr rfl)) (pss_cons (ps_set (i := 10) sc_law.nd rfl (by first | exact Or.inl rfl | exact Or.inr rfl) pe_non)
      (pss_cons (ps_cut (ps_if (pt_cmpR op_lt (pv 8) (pe_callB call_lenA (by rfl) T.z_len PySem.boot_len (pa_cons (pv 6) pa_nil)) (nomark _)) (pss_one (ps_set (i := 10) sc_law.nd rfl (by first | exact Or.inl rfl | exact Or.inr rfl) (pe_ix ix_listA (pv 6) (pv 8) (fun _ _ => rfl)))) pss_nil))
      (pss_cons (ps_if (pt_not (pt_val (pe_call (ok__law_like T) (hr.mono (by decide)) (by rfl) T._law_like.g T._law_like.F.kp T._law_like.b .nil pass0 (pa_cons (pe_meth (pv 7) T.k_Run.cl T.Run_pull.h (ok_Run_pull T) hr T.Run_pull.b .nil pass0 (pa_cons pe_int pa_nil)) (pa_cons (pv 10) pa_nil))))) (pss_one (ps_ret pe_bl)) pss_nil)
      (pss_one (ps_if (PW.pt (pw_and (pt_cmpR op_ne (pe_ix ix_tupD (pe_ix ix_listA (pv 5) pe_int (fun _ _ => rfl)) pe_int (fun _ _ => rfl)) (pe_ix ix_tupD (pe_ix ix_listA (pv 5) pe_int (fun _ _ => rfl)) pe_int (fun _ _ => rfl)) (nomark _)) (pw_and1 (pt_not (pt_val (pe_call (ok__law_like T) (hr.mono (by decide)) (by rfl) T._law_like.g T._law_like.F.kp T._law_like.b .nil pass0 (pa_cons (pe_meth0 (pv 7) T.k_Run.cl T.Run_asked.h (ok_Run_asked T) (hr.mono (by decide)) T.Run_asked.b .nil pass0) (pa_cons (pe_call (ok__law_asks T) (hr.mono (by decide)) (by rfl) T._law_asks.g T._law_asks.F.kp T._law_asks.b .nil pass0 (pa_cons (pe_ix ix_listA (pv 5) pe_int (fun _ _ => rfl)) (pa_cons (pv 2) (pa_cons (pe_op op_add (pv 8) pe_int) pa_nil)))) pa_nil)))))))) (pss_one (ps_ret pe_bl)) pss_nil))))))
      (pss_cons (ps_set (i := 9) sc_law.nd rfl (by first | exact Or.inl rfl | exact Or.inr rfl) (pe_callB call_lenA (by rfl) T.z_len PySem.boot_len (pa_cons (pe_meth0 (pv 7) T.k_Run.cl T.Run_asked.h (ok_Run_asked T) (hr.mono (by decide)) T.Run_asked.b .nil pass0) pa_nil)))
      (pss_one (ps_ret (pe_or (pe_cmpR op_ne (pe_ix ix_tupD (pe_ix ix_listA (pv 5) pe_int (fun _ _ => rfl)) pe_int (fun _ _ => rfl)) (pe_ix ix_tupD (pe_ix ix_listA (pv 5) pe_int (fun _ _ => rfl)) pe_int (fun _ _ => rfl)) (nomark _)) (pe_one (pe_cmpR op_eq (pv 9) (pe_op op_add (pe_callB call_lenA (by rfl) T.z_len PySem.boot_len (pa_cons (pe_ix ix_LL (pv 2) (pv 4) (fun _ _ => rfl)) pa_nil)) pe_int) (nomark _)))))))))))))))), ?_⟩
  walk_at "go"
  refine ⟨a, ns, rfl, hF, h63, fun D H1 nD s1 d1 => ?_⟩
  walk_at "go"
  intro p np
  have Dp := d1.ne_new np
  clear hF s1
  refine loop_rng (lo := 0) (n := 2) (fun i H3 => Hold (∃ (as : List Addr) (lists : List (List Int)), LL K H3 p as (intsD lists) ∧ lists.length = i ∧ (∀ l ∈ lists, l.length ≤ 6 ∧ ∀ n ∈ l, Num n) ∧ p ∉ as ∧ D ∉ as ∧ IsDice K H3 D))
    (.mk ⟨[], [], ⟨upd_same, .nil⟩, rfl, (fun _ h => by cases h), (fun h => by cases h), (fun h => by cases h), d1.same (same_new np)⟩) ?_ ?_
  · intro i H3 hi h
    obtain ⟨as, lists, ll3, rfl, ok3, pa3, Da3, d3⟩ := h.out
    walk_at "go"
    intro z H4 z0 z1 d4 b4
    have ll4 := ll3.but b4 (b4.dtk d3) Dp.symm Da3
    walk_at "go"
    intro l nl
    have Dl := d4.ne_new nl
    have pl : p ≠ l := ne_of_none ll4.1 nl
    have lna := ll4.2.fresh nl
    refine loop_rng (lo := 0) (n := z.toNat) (fun j H5 => Hold (∃ ms : List Int, Acc K H5 l (ms.map PyData.int) ∧ ms.length = j ∧ (∀ n ∈ ms, Num n) ∧ LL K H5 p as (intsD lists) ∧ IsDice K H5 D))
      (.mk ⟨[], acc_nil upd_same, rfl, (fun _ h => by cases h), ll4.same (same_new nl), d4.same (same_new nl)⟩) ?_ ?_
    · intro j H5 hj h
      obtain ⟨ms, a5, rfl, n5, ll5, d5⟩ := h.out
      walk_at "go"
      intro y H6 hy d6 b6
      have t6 := b6.dtk d5
      have a6 := a5.but b6 t6 Dl.symm
      obtain ⟨acc, ea, hla, b7, t7, a7⟩ := a6.push (.int y) (by rw [List.length_map]; omega)
      refine ⟨acc, ea, hla, .mk ⟨ms ++ [y], by rw [List.map_append]; exact a7, by rw [List.length_append]; rfl, fun n hn => ?_, (ll5.but b6 t6 Dp.symm Da3).but b7 t7 pl lna, d6.keep t7 fun xs e => b7 _ _ Dl e⟩⟩
      rcases List.mem_append.mp hn with hn | hn
      · exact n5 n hn
      · rw [List.mem_singleton.mp hn]; exact hy
    intro H5 h
    obtain ⟨ms, a5, l5, n5, ll5, d5⟩ := h.out
    have b5 : But p H5 (upd H5 p (.lst (as.map V.ref ++ [.ref l]))) := fun b u hb z => by rw [upd_ne hb]; exact z
    have t5 : TK K H5 _ := b5.tk ll5.1
    refine ⟨_, ll5.1, ?_, .mk ⟨as ++ [l], lists ++ [ms], ⟨by rw [upd_same, List.map_append]; rfl, ?_⟩, by rw [List.length_append]; rfl, ?_, ?_, ?_, d5.keep t5 fun xs e => b5 _ _ Dp e⟩⟩
    · rw [List.length_map, ll5.2.len]
      unfold intsD
      rw [List.length_map]
      exact small1000 (by omega)
    · unfold intsD
      rw [List.map_append]
      exact (ll5.2.but b5 t5 pa3).snoc (a5.but b5 t5 pl.symm)
    · intro l' hl'
      rcases List.mem_append.mp hl' with hl' | hl'
      · exact ok3 l' hl'
      · rw [List.mem_singleton.mp hl']; exact ⟨by omega, n5⟩
    · intro ha
      rcases List.mem_append.mp ha with ha | ha
      · exact pa3 ha
      · exact pl (List.mem_singleton.mp ha)
    · intro ha
      rcases List.mem_append.mp ha with ha | ha
      · exact Da3 ha
      · exact Dl (List.mem_singleton.mp ha)
  intro H3 h
  obtain ⟨al, lists, ll3, l3, ok3, pal, Da3, d3⟩ := h.out
  obtain ⟨X, Y, rfl⟩ : ∃ X Y, lists = [X, Y] := by
    match lists, l3 with
    | [X, Y], _ => exact ⟨X, Y, rfl⟩
  clear h l3 d1 nD np
  walk_at "go"
  refine ⟨[.str "chain", .str "pair", .str "merge"], .cons (.str _) (.cons (.str _) (.cons (.str _) .nil)), by simp, fun l6 H6 n6 s6 t6 a6 => ?_⟩
  have d6 := d3.same s6
  have ne6 := d3.ne_new n6
  have ll6 := ll3.same s6
  walk_at "go"
  intro r7 H7 e1 e2 d7 b7
  have a7 := a6.but b7 (b7.dtk d6) ne6.symm
  have ll7 := ll6.but b7 (b7.dtk d6) Dp.symm Da3
  have hf : [PyData.str "chain", .str "pair", .str "merge"][r7.toNat]? = some (.str (mkW r7.toNat)) := by
    have : r7 = 0 ∨ r7 = 1 ∨ r7 = 2 := by omega
    rcases this with rfl | rfl | rfl <;> rfl
  walk_at "go"
  refine ⟨_, _, _, r7.toNat, _, rfl, a7, rfl, by omega, hf, fun v iv => ?_⟩
  obtain rfl := iv.s
  walk_at "go"
  intro t8 H8 e3 e4 d8 b8
  have ll8 := ll7.but b8 (b8.dtk d7) Dp.symm Da3
  clear ll3 ll6 ll7 a6 a7 d6 d3 d7 ne6 s6 t6 b7 b8 hf n6 iv
  generalize r7.toNat = r
  walk_at "go"
  have ht : t8 = 0 ∨ t8 = 1 := by omega
  refine ⟨[.str "source", .int 0], .cons (.str _) (.cons (.int _) .nil), by simp, fun pa1 Ha1 sa1 ta1 ia1 => ?_⟩
  walk_at "go"
  refine ⟨[.str "source", .int 1], .cons (.str _) (.cons (.int _) .nil), by simp, fun pa2 Ha2 sa2 ta2 ia2 => ?_⟩
  walk_at "go"
  refine ⟨[.str (mkW r), .int t8, .int (1 - t8)], .cons (.str _) (.cons (.int _) (.cons (.int _) .nil)), by simp, fun pa3 Ha3 sa3 ta3 ia3 => ?_⟩
  walk_at "go"
  refine ⟨[(Ln.source 0).d, (Ln.source 1).d, (mkL r t8 (1 - t8)).d], .cons ((ia1.u (same_tk sa2)).u (same_tk sa3)) (.cons (ia2.u (same_tk sa3)) (.cons (by rw [mkL_d]; exact ia3) .nil)), by simp, fun wa Ha na sa ta aa => ?_⟩
  have Sa := sa1.trans (sa2.trans (sa3.trans sa))
  have lla := ll8.same Sa
  have dda := d8.same Sa
  have nea := (((d8.same sa1).same sa2).same sa3).ne_new na
  walk_at "go"
  clear ia1 ia2 ia3 sa sa1 sa2 sa3 ta ta1 ta2 ta3 Sa ll8 d8 na
  refine ⟨fun σ H' => Hold (∃ (lw : Addr) (u : Int), σ = [some (.ref a), some (.ref D), some (.ref p), some (.str (mkW r)), some (.int t8), some (.ref lw), none, none, none, none, none, none] ∧ (u = 1 - t8 ∨ u = t8) ∧ Acc K H' lw ([Ln.source 0, .source 1, mkL r t8 u].map Ln.d) ∧
    LL K H' p al (intsD [X, Y]) ∧ IsDice K H' D ∧ D ≠ lw), ?_, ?_⟩
  · walk_at "go"
    intro r9 H9 e5 e6 d9 b9
    have ll9 := lla.but b9 (b9.dtk dda) Dp.symm Da3
    have a9 := aa.but b9 (b9.dtk dda) nea.symm
    walk_at "go"
    by_cases c : r9 = 4
    · refine ite_t (dv_t c) ?_
      walk_at "go"
      refine ⟨[.str "source", .int 0], .cons (.str _) (.cons (.int _) .nil), by simp, fun pb1 Hb1 sb1 tb1 ib1 => ?_⟩
      walk_at "go"
      refine ⟨[.str "source", .int 1], .cons (.str _) (.cons (.int _) .nil), by simp, fun pb2 Hb2 sb2 tb2 ib2 => ?_⟩
      walk_at "go"
      refine ⟨[.str (mkW r), .int t8, .int (t8)], .cons (.str _) (.cons (.int _) (.cons (.int _) .nil)), by simp, fun pb3 Hb3 sb3 tb3 ib3 => ?_⟩
      walk_at "go"
      refine ⟨[(Ln.source 0).d, (Ln.source 1).d, (mkL r t8 (t8)).d], .cons ((ib1.u (same_tk sb2)).u (same_tk sb3)) (.cons (ib2.u (same_tk sb3)) (.cons (by rw [mkL_d]; exact ib3) .nil)), by simp, fun wb Hb nb sb tb ab => ?_⟩
      have Sb := sb1.trans (sb2.trans (sb3.trans sb))
      have llb := ll9.same Sb
      have ddb := d9.same Sb
      have neb := (((d9.same sb1).same sb2).same sb3).ne_new nb
      walk_at "go"
      exact .mk ⟨wb, t8, rfl, .inr rfl, ab, llb, ddb, neb⟩
    · refine ite_f (dv_f c) ?_
      walk_at "go"
      exact .mk ⟨wa, 1 - t8, rfl, .inl rfl, a9, ll9, d9, nea⟩
  intro σ H9 h
  obtain ⟨lw, u, rfl, hu, aw, ll, d, Dlw⟩ := h.out
  clear h lla dda aa nea
  have hu2 : u = 0 ∨ u = 1 := by omega
  have okl : OkLists [X, Y] := ⟨fun l h => (ok3 l h).2, fun l h => by have := (ok3 l h).1; omega⟩
  have lX : X.length ≤ 6 := (ok3 X (by simp)).1
  have lY : Y.length ≤ 6 := (ok3 Y (by simp)).1
  have h2 := mkL_two r t8 u
  have hn := mkL_names r t8 u
  have dl := mkL_drawn r ht hu2
  have hd := mkL_d r t8 u
  generalize mkL r t8 u = l at aw h2 hn dl hd
  generalize mkK r = k at dl
  have dw : DrawnW [.source 0, .source 1, l] [.num, .num, k] 2 := by
    have g1 : GoodW 2 [.source 0] [.num] := .snoc .nil rfl rfl rfl (by decide) (mid_no fun _ _ z => nomatch z)
    have g2 : GoodW 2 [.source 0, .source 1] [.num, .num] := .snoc g1 rfl rfl rfl (by decide) (mid_no fun _ _ z => nomatch z)
    refine ⟨g2.more dl, by show 1 ≤ (3 : Nat); decide, by show (3 : Nat) ≤ 24; decide, by decide, by decide, fun k' hk => ?_, ?_⟩
    · rcases List.mem_cons.mp hk with rfl | hk
      · decide
      rcases List.mem_cons.mp hk with rfl | hk
      · decide
      · rw [List.mem_singleton.mp hk]; exact dl.dp
    · show (List.filter _ [Ln.source 0, .source 1, l]).length ≤ 7
      exact Nat.le_trans (List.length_filter_le _ _) (by show 3 ≤ 7; decide)
  have hg : (l.d : PyData) = .tuple [.str (mkW r), .int t8, .int u] := hd
  walk_at "go"
  refine .mk ⟨lw, p, al, [.source 0, .source 1, l], [.num, .num, k], [X, Y], 2, rfl, rfl, aw, ll, dw, rfl, okl, fun pm H11 am n11 fr11 pam ndm s11 lm11 => ?_⟩
  have epl : plainD [.source 0, .source 1, l] [X, Y] = [X.map PyData.int, Y.map PyData.int, listD l [X.map PyData.int, Y.map PyData.int] [X, Y]] := rfl
  rw [epl] at lm11
  obtain ⟨ap, hap, amB⟩ := lm11.2.get (i := 2) rfl
  walk_at "go"
  refine ⟨_, _, _, 2, _, rfl, lm11.1, rfl, rfl, hap, ?_⟩
  have aw11 := aw.same s11
  have ll11 := ll.same s11
  have d11 := d.same s11
  have Dap : D ≠ ap := d.ne_new (fr11 _ (List.mem_of_getElem? hap))
  clear fr11 pam ndm lm11 hap s11 n11 aw ll d
  walk_at "go"
  refine ⟨[.int 2], .cons (.int _) .nil, by simp, fun po H10 npo s10 t10 ao => ?_⟩
  have aw10 := aw11.same s10
  have ll10 := ll11.same s10
  have amB10 := amB.same s10
  have d10 := d11.same s10
  have wD : lw ≠ D := Dlw.symm
  clear aw11 ll11 amB d11 s10 t10 npo epl hd
  have gd := gd_of (outs := [2]) dw (lists := [X, Y]) rfl okl (by decide) (fun o h => by rw [List.mem_singleton.mp h]; exact ⟨by decide, by show (2 : Int) < 3; decide⟩)
  obtain ⟨S0, hst, R0, D0, as0, gn0⟩ := start_dem gd
  walk_at "go"
  intro xr dxr nxr ndxr nexr
  clear nexr
  have sn : Same H10 (upd (upd H10 dxr (.own xr)) xr (.ins T.k_Run.C dxr [])) := fun b o e => by
    rw [upd_ne (ne_of_none e nxr), upd_ne (ne_of_none e ndxr)]
    exact e
  have awn := aw10.same sn
  obtain ⟨ws, ews, iws⟩ := awn
  walk_at "go"
  refine .mk ⟨xr, dxr, lw, po, p, al, ws, ctOf [.source 0, .source 1, l] [2] [X, Y], [.num, .num, k], S0, rfl, rfl, rfl, rfl, gd.run, upd_same, ews, iws, acc_raw (ns := [2]) (ao.same sn), ll10.same sn, gd.good, by show 1 ≤ 3; decide, by show 3 ≤ 24; decide, hst, fun B y H11 hru k11 t11 R11 => ⟨rfl, ?_⟩⟩
  have hnum := dl.nn
  have S11 : Same H10 H11 := fun b o e => (k11 b o (sn _ _ e) (ne_of_none e nxr)).1
  have o11 : ∀ b o, H10 b = some o → Out B (Full (ctOf [.source 0, .source 1, l] [2] [X, Y])) y b := fun b o e => (k11 b o (sn _ _ e) (ne_of_none e nxr)).2
  have hE6 : ∀ {S : Ms} {q : Nat → Nat}, u = t8 → Rest (ctOf [.source 0, .source 1, l] [2] [X, Y]) S → Dem (ctOf [.source 0, .source 1, l] [2] [X, Y]) q S → q 0 = (listD l [X.map PyData.int, Y.map PyData.int] [X, Y]).length + 3 → S.asks.length = (if t8 = 0 then X else Y).length + 1 := fun {S q} hu R Dm hq => by
    subst hu
    refine end6 (a := u) (A := if u = 0 then X else Y) ?_ h2 hn gd R.glob Dm hq
    rcases ht with rfl | rfl
    · exact .inl ⟨rfl, rfl⟩
    · exact .inr ⟨rfl, rfl⟩
  generalize hBl : listD l [X.map PyData.int, Y.map PyData.int] [X, Y] = Bl at amB10 hE6
  have hW : Wl (ctOf [.source 0, .source 1, l] [2] [X, Y]) ((ctOf [.source 0, .source 1, l] [2] [X, Y]).tgt (.out 0)) = Bl := hBl
  have lB : Bl.length ≤ 50000 := by
    have h1 := (plain_ok gd.good okl (Nat.le_trans gd.tw (by decide))).2 Bl (by
      show Bl ∈ [X.map PyData.int, Y.map PyData.int, listD l [X.map PyData.int, Y.map PyData.int] [X, Y]]
      rw [hBl]
      simp)
    have p7 : 2 ^ twos (ctOf [.source 0, .source 1, l] [2] [X, Y]).ls ≤ 2 ^ 7 := Nat.pow_le_pow_right (by decide) gd.tw
    omega
  have ell : al.length = (intsD [X, Y]).length := ll10.2.len
  have bg11 : Bg K T.cs (ctOf [.source 0, .source 1, l] [2] [X, Y]) B D (csK lw ap p al [.source 0, .source 1, l] Bl [X, Y]) y S0 H11 := by
    refine ⟨R11, fun a c h => ?_, d10.same S11, ?_⟩
    · rcases h with ⟨rfl, rfl⟩ | ⟨rfl, rfl⟩ | h
      · obtain ⟨xs, e⟩ := aw10.at
        exact ⟨aw10.same S11, o11 _ _ e, wD⟩
      · obtain ⟨xs, e⟩ := amB10.at
        exact ⟨amB10.same S11, o11 _ _ e, Dap.symm⟩
      · have hc := ll10.rw a c h
        obtain ⟨o, e⟩ := Cell.seen hc
        refine ⟨Cell.same hc S11, o11 _ _ e, ?_⟩
        rcases h with ⟨rfl, _⟩ | ⟨i, ds, hi, _⟩
        · exact Dp.symm
        · rintro rfl
          exact Da3 (List.mem_of_getElem? hi)
    · obtain ⟨xs, e⟩ := d10.at
      exact o11 _ _ e
  have lh : ∀ x ∈ Bl, Wv.lk x = true ∧ x.depth ≤ 2 := fun x hx => by
    have hk : 2 < [Kd.num, .num, k].length := by show 2 < 3; decide
    have hh := gd.has (i := 2) (List.getElem?_eq_getElem hk) x (by show x ∈ listD l [X.map PyData.int, Y.map PyData.int] [X, Y]; rw [hBl]; exact hx)
    exact ⟨Has_lk hh, Nat.le_trans (Has_depth hh) dl.dp⟩
  have lw_ : ∀ {y : Dy} {S : Ms} {H : Hp}, Bg K T.cs (ctOf [.source 0, .source 1, l] [2] [X, Y]) B D (csK lw ap p al [.source 0, .source 1, l] Bl [X, Y]) y S H → Acc K H lw ([Ln.source 0, .source 1, l].map Ln.d) := fun b => b.acc (.inl ⟨rfl, rfl⟩)
  have ap_ : ∀ {y : Dy} {S : Ms} {H : Hp}, Bg K T.cs (ctOf [.source 0, .source 1, l] [2] [X, Y]) B D (csK lw ap p al [.source 0, .source 1, l] Bl [X, Y]) y S H → Acc K H ap Bl := fun b => b.acc (.inr (.inl ⟨rfl, rfl⟩))
  have pl_ : ∀ {y : Dy} {S : Ms} {H : Hp}, Bg K T.cs (ctOf [.source 0, .source 1, l] [2] [X, Y]) B D (csK lw ap p al [.source 0, .source 1, l] Bl [X, Y]) y S H → LL K H p al (intsD [X, Y]) := fun b => b.ll ell fun d c h => .inr (.inr h)
  have hT : ∀ {S S' : Ms} {q q' : Nat → Nat} {m : Nat} {x : PyData}, u ≠ t8 → Rest (ctOf [.source 0, .source 1, l] [2] [X, Y]) S → Rest (ctOf [.source 0, .source 1, l] [2] [X, Y]) S' → Dem (ctOf [.source 0, .source 1, l] [2] [X, Y]) q S → Dem (ctOf [.source 0, .source 1, l] [2] [X, Y]) q' S' → q 0 = m → q' 0 = m + 1 →
      S.asks = Tr l (if t8 = 0 then X else Y) (if t8 = 0 then Y else X) t8 u m → PL (ctOf [.source 0, .source 1, l] [2] [X, Y]) 60000 (.out 0) S = some (x, S') → S'.asks = Tr l (if t8 = 0 then X else Y) (if t8 = 0 then Y else X) t8 u (m + 1) := fun {S S' q q' m x} hne R R' Dm Dm' hq hq' h e => by
    refine ord6 (a := t8) (b := u) ?_ h2 hn gd R.glob R'.glob Dm Dm' hq hq' h e
    rcases ht with rfl | rfl
    · exact .inl ⟨rfl, by omega, rfl, rfl⟩
    · exact .inr ⟨rfl, by omega, rfl, rfl⟩
  clear S11 sn ews iws k11 o11 aw10 amB10 d10 ll10 R11 hst nxr ndxr t11 ao
  walk_at "go"
  refine ⟨_, _, rfl, ap_ bg11, ?_⟩
  walk_at "go"
  refine for_range (lo := 0) (n := ((Bl.length : Int) + 3).toNat) (fun i σ H15 => Hold (∃ (o8 o9 o10 : Option V) (y : Dy) (S : Ms) (qf : Nat → Nat), σ = [some (.ref a), some (.ref D), some (.ref p), some (.str (mkW r)), some (.int t8), some (.ref lw), some (.ref ap), some (.ref xr), o8, o9, o10, none] ∧
      Bg K T.cs (ctOf [.source 0, .source 1, l] [2] [X, Y]) B D (csK lw ap p al [.source 0, .source 1, l] Bl [X, Y]) y S H15 ∧ Rest (ctOf [.source 0, .source 1, l] [2] [X, Y]) S ∧ Dem (ctOf [.source 0, .source 1, l] [2] [X, Y]) qf S ∧ qf 0 = i ∧ S.pos (.out 0) = min i Bl.length ∧ S.gone 0 = false ∧ (u ≠ t8 → S.asks = Tr l (if t8 = 0 then X else Y) (if t8 = 0 then Y else X) t8 u i)))
    (.mk ⟨none, none, none, y, S0, fun _ => 0, rfl, bg11, R0, D0, rfl, by rw [D0.pos 0 (by show 0 < 1; decide)]; show min 0 _ = min 0 _; omega, gn0 0, fun _ => as0⟩) ?_ ?_
  · clear bg11 R0 D0 gn0 as0
    intro i σ H15 hi h
    obtain ⟨o8, o9, o10, y, S, qf, rfl, bg, R, Dm, q0, ps, gn, tr⟩ := h.out
    walk_at "go"
    refine ⟨fun σ H' => Hold (∃ (vd : V), σ = [some (.ref a), some (.ref D), some (.ref p), some (.str (mkW r)), some (.int t8), some (.ref lw), some (.ref ap), some (.ref xr), some (.int (0 + (i : Int))), o9, some vd, none] ∧ H15 = H' ∧ Im K H15 vd (Bl.getD i .none)), ?_, ?_⟩
    · walk_at "go"
      refine ⟨_, _, rfl, ap_ bg, ?_⟩
      walk_at "go"
      by_cases c : i < Bl.length
      · refine ite_t (decide_eq_true (by omega)) ?_
        walk_at "go"
        refine ⟨_, _, _, i, _, rfl, ap_ bg, rfl, by omega, List.getElem?_eq_getElem c, fun v iv => ?_⟩
        walk_at "go"
        refine .mk ⟨v, rfl, rfl, ?_⟩
        rw [List.getD_eq_getElem?_getD, List.getElem?_eq_getElem c]
        exact iv
      · refine ite_f (decide_eq_false (by omega)) ?_
        walk_at "go"
        refine .mk ⟨.non, rfl, rfl, ?_⟩
        rw [List.getD_eq_getElem?_getD, List.getElem?_eq_none (by omega)]
        exact .non
    intro σ H' h
    obtain ⟨vd, rfl, rfl, ivd⟩ := h.out
    have hj : 0 < (ctOf [.source 0, .source 1, l] [2] [X, Y]).outs.length := by show 0 < 1; decide
    obtain ⟨x, S', ex, R', g', _, hit, miss⟩ := pull_out gd (L := 60000) (Nat.le_refl _) R hj
    have Dm' := Dm.pull gd (Nat.le_refl _) R hj ex
    rw [hW, ps] at hit miss
    have xe : x = Bl.getD i .none := by
      rw [List.getD_eq_getElem?_getD]
      by_cases c : i < Bl.length
      · have := (hit (by omega)).1
        rw [Nat.min_eq_left (by omega)] at this
        rw [this]
        rfl
      · rw [(miss (by omega)).1, List.getElem?_eq_none (by omega)]
        rfl
    have ps' : S'.pos (.out 0) = min (i + 1) Bl.length := by
      by_cases c : i < Bl.length
      · rw [(hit (by omega)).2]; omega
      · rw [(miss (by omega)).2]; omega
    have gdx : Wv.lk x = true ∧ x.depth ≤ 2 := by
      rw [xe, List.getD_eq_getElem?_getD]
      by_cases c : i < Bl.length
      · rw [List.getElem?_eq_getElem c]
        exact lh _ (List.getElem_mem c)
      · rw [List.getElem?_eq_none (by omega)]
        exact ⟨rfl, by decide⟩
    have eq' : fset qf 0 (qf 0 + 1) 0 = i + 1 := by rw [fset_self, q0]
    have tr' : u ≠ t8 → S'.asks = Tr l (if t8 = 0 then X else Y) (if t8 = 0 then Y else X) t8 u (i + 1) := fun hne => hT hne R R' Dm Dm' q0 eq' (tr hne) ex
    have eru := bg.rep.ru trivial
    rw [hru] at eru
    walk_at "go"
    refine ⟨_, _, _, rfl, eru, rfl, ?_⟩
    walk_at "go"
    refine .mk ⟨ctOf [.source 0, .source 1, l] [2] [X, Y], B, y, S, 0, 60000, x, S', by rw [hru], rfl, gd.run, hj, gn, bg.rep, ex, fun w y' H18 m18 R18 iu => ?_⟩
    have bg18 := bg.mv m18 R18
    rw [← xe] at ivd
    walk_at "go"
    refine .mk ⟨x, iu.p, (ivd.u m18.tk).p, gdx.1, Nat.lt_of_le_of_lt gdx.2 (by decide), ?_⟩
    have gn' : S'.gone 0 = false := by rw [g']; exact gn
    clear bg eru m18 R18 iu ivd hit miss
    walk_at "go"
    have hw2 : ([Ln.source 0, .source 1, l].map Ln.d)[2]? = some l.d := rfl
    refine ⟨_, _, _, 2, _, rfl, lw_ bg18, rfl, rfl, hw2, fun v iv => ?_⟩
    rw [hg] at iv
    walk_at "go"
    refine ⟨_, 1, 1, _, iv, rfl, rfl, rfl, fun z iz => ?_⟩
    obtain rfl := iz.i
    walk_at "go"
    refine ⟨_, _, _, 2, _, rfl, lw_ bg18, rfl, rfl, hw2, fun v iv => ?_⟩
    rw [hg] at iv
    walk_at "go"
    refine ⟨_, 2, 2, _, iv, rfl, rfl, rfl, fun z iz => ?_⟩
    obtain rfl := iz.i
    walk_at "go"
    by_cases c : t8 = u
    · refine ite_f (by rw [dv_t c]; rfl) ?_
      refine ite_f rfl ?_
      walk_at "go"
      exact .mk ⟨_, _, _, y', S', _, rfl, bg18, R', Dm', eq', ps', gn', tr'⟩
    · refine ite_t (by rw [dv_f c]; rfl) ?_
      have eru18 := bg18.rep.ru trivial
      rw [hru] at eru18
      walk_at "go"
      refine ⟨_, _, _, rfl, eru18, rfl, ?_⟩
      walk_at "go"
      refine .mk ⟨ctOf [.source 0, .source 1, l] [2] [X, Y], B, y', S', by rw [hru], bg18.rep, fun pa H19 n19 s19 a19 => ?_⟩
      have bg19 := bg18.same s19
      walk_at "go"
      refine ⟨_, _, _, 2, _, rfl, lw_ bg19, rfl, rfl, hw2, fun v iv => ?_⟩
      walk_at "go"
      refine .mk ⟨l, t8, u, p, al, X, Y, (if t8 = 0 then X else Y), (if t8 = 0 then Y else X), 0 + (i : Int) + 1, rfl, rfl, iv, h2, hn, pl_ bg19, ?_, by omega, by omega, by split <;> omega, by split <;> omega, fun pn H20 nn s20 an => ?_⟩
      · rcases ht with rfl | rfl
        · exact .inl ⟨rfl, by omega, rfl, rfl⟩
        · exact .inr ⟨rfl, by omega, rfl, rfl⟩
      have e1 : S'.asks = askT l (if t8 = 0 then X else Y) (if t8 = 0 then Y else X) t8 u (0 + (i : Int) + 1).toNat := by
        rw [show (0 + (i : Int) + 1).toNat = i + 1 by omega]
        exact tr' (fun z => c z.symm)
      rw [← e1] at an
      have sm := asks_small gd R'.glob
      walk_at "go"
      refine .mk ⟨_, (a19.same s20).dp, an.dp, lk_list (fun x hx => ?_) (by rw [List.length_map]; omega), ?_, ?_⟩
      · obtain ⟨n, _, rfl⟩ := List.mem_map.mp hx
        rfl
      · show PyData.depthAll _ + 1 < 15
        have := depth_all (n := 0) (xs := S'.asks.map PyData.int) fun x hx => by
          obtain ⟨n, _, rfl⟩ := List.mem_map.mp hx
          exact Nat.le_refl _
        omega
      walk_at "go"
      exact .mk ⟨_, _, _, y', S', _, rfl, bg19.same s20, R', Dm', eq', ps', gn', tr'⟩
  · intro σ H15 h
    obtain ⟨o8, o9, o10, y, S, qf, rfl, bg, R, Dm, q0, ps, gn, tr⟩ := h.out
    walk_at "go"
    have eru := bg.rep.ru trivial
    rw [hru] at eru
    refine ⟨_, _, _, rfl, eru, rfl, ?_⟩
    walk_at "go"
    refine .mk ⟨ctOf [.source 0, .source 1, l] [2] [X, Y], B, y, S, by rw [hru], bg.rep, fun pa H16 n16 s16 a16 => ?_⟩
    have bg16 := bg.same s16
    walk_at "go"
    refine ⟨pa, _, rfl, a16, ?_⟩
    rw [List.length_map]
    have hw2 : ([Ln.source 0, .source 1, l].map Ln.d)[2]? = some l.d := rfl
    walk_at "go"
    refine ⟨_, _, _, 2, _, rfl, lw_ bg16, rfl, rfl, hw2, fun v iv => ?_⟩
    rw [hg] at iv
    walk_at "go"
    refine ⟨_, 1, 1, _, iv, rfl, rfl, rfl, fun z iz => ?_⟩
    obtain rfl := iz.i
    walk_at "go"
    refine ⟨_, _, _, 2, _, rfl, lw_ bg16, rfl, rfl, hw2, fun v iv => ?_⟩
    rw [hg] at iv
    walk_at "go"
    refine ⟨_, 2, 2, _, iv, rfl, rfl, rfl, fun z iz => ?_⟩
    obtain rfl := iz.i
    walk_at "go"
    by_cases c : t8 = u
    · refine ite_f (by rw [dv_t c]; rfl) ?_
      have el := hE6 c.symm R Dm (by rw [q0]; omega)
      obtain ⟨pr, hpr, apr⟩ : ∃ pr, al[t8.toNat]? = some pr ∧ Acc K H16 pr ((if t8 = 0 then X else Y).map PyData.int) := by
        have ll := pl_ bg16
        rcases ht with rfl | rfl
        · exact ll.2.get (i := 0) rfl
        · exact ll.2.get (i := 1) rfl
      walk_at "go"
      refine ⟨_, _, _, t8.toNat, pr, rfl, (pl_ bg16).1, rfl, by omega, hpr, ?_⟩
      walk_at "go"
      refine ⟨_, _, rfl, apr, ?_⟩
      rw [List.length_map]
      walk_at "go"
      rw [dv_t (by omega)]
      exact q _
    · refine ite_t (by rw [dv_f c]; rfl) ?_
      exact q _

theorem tx_mk {P : Program} {K : PySem.W.Frag} {w : World} {h : Heap} {mg : Str → Option Value} (X : K.In h) (G : h.Ns mainGlobals mg)
    {C1 : Addr}
    {C2 : Addr}
    {C3 : Addr}
    {C4 : Addr}
    {C5 : Addr}
    {f1 : Addr} {od1 an1 : Option Addr} {sl1 : Array (Option Value)} {oc1 kV1 dc1 pm1 cd1 ct1 : Value}
    {f2 : Addr} {od2 an2 : Option Addr} {sl2 : Array (Option Value)} {oc2 kV2 dc2 pm2 cd2 ct2 : Value}
    {f3 : Addr} {od3 an3 : Option Addr} {sl3 : Array (Option Value)} {oc3 kV3 dc3 pm3 cd3 ct3 : Value}
    {f4 : Addr} {od4 an4 : Option Addr} {sl4 : Array (Option Value)} {oc4 kV4 dc4 pm4 cd4 ct4 : Value}
    {f5 : Addr} {od5 an5 : Option Addr} {sl5 : Array (Option Value)} {oc5 kV5 dc5 pm5 cd5 ct5 : Value}
    {f6 : Addr} {od6 an6 : Option Addr} {sl6 : Array (Option Value)} {oc6 kV6 dc6 pm6 cd6 ct6 : Value}
    {f7 : Addr} {od7 an7 : Option Addr} {sl7 : Array (Option Value)} {oc7 kV7 dc7 pm7 cd7 ct7 : Value}
    {f8 : Addr} {od8 an8 : Option Addr} {sl8 : Array (Option Value)} {oc8 kV8 dc8 pm8 cd8 ct8 : Value}
    {f9 : Addr} {od9 an9 : Option Addr} {sl9 : Array (Option Value)} {oc9 kV9 dc9 pm9 cd9 ct9 : Value}
    {f10 : Addr} {od10 an10 : Option Addr} {sl10 : Array (Option Value)} {oc10 kV10 dc10 pm10 cd10 ct10 : Value}
    {f11 : Addr} {od11 an11 : Option Addr} {sl11 : Array (Option Value)} {oc11 kV11 dc11 pm11 cd11 ct11 : Value}
    {f12 : Addr} {od12 an12 : Option Addr} {sl12 : Array (Option Value)} {oc12 kV12 dc12 pm12 cd12 ct12 : Value}
    {f13 : Addr} {od13 an13 : Option Addr} {sl13 : Array (Option Value)} {oc13 kV13 dc13 pm13 cd13 ct13 : Value}
    {f14 : Addr} {od14 an14 : Option Addr} {sl14 : Array (Option Value)} {oc14 kV14 dc14 pm14 cd14 ct14 : Value}
    {f15 : Addr} {od15 an15 : Option Addr} {sl15 : Array (Option Value)} {oc15 kV15 dc15 pm15 ct15 : Value}
    {cq15 cw15 : Addr} {ta15 tb15 : Value} {tc15 td15 : Option Addr} {te15 tf15 : Array (Option Value)} {tg15 : Array Value} {th15 : Str} {ti15 : Tok}
    {f16 : Addr} {od16 an16 : Option Addr} {sl16 : Array (Option Value)} {oc16 kV16 dc16 pm16 cd16 ct16 : Value}
    {f17 : Addr} {od17 an17 : Option Addr} {sl17 : Array (Option Value)} {oc17 kV17 dc17 pm17 cd17 ct17 : Value}
    {f18 : Addr} {od18 an18 : Option Addr} {sl18 : Array (Option Value)} {oc18 kV18 dc18 pm18 cd18 ct18 : Value}
    {f19 : Addr} {od19 an19 : Option Addr} {sl19 : Array (Option Value)} {oc19 kV19 dc19 pm19 cd19 ct19 : Value}
    {f20 : Addr} {od20 an20 : Option Addr} {sl20 : Array (Option Value)} {oc20 kV20 dc20 pm20 cd20 ct20 : Value}
    {f21 : Addr} {od21 an21 : Option Addr} {sl21 : Array (Option Value)} {oc21 kV21 dc21 pm21 cd21 ct21 : Value}
    {f22 : Addr} {od22 an22 : Option Addr} {sl22 : Array (Option Value)} {oc22 kV22 dc22 pm22 cd22 ct22 : Value}
    {f23 : Addr} {od23 an23 : Option Addr} {sl23 : Array (Option Value)} {oc23 kV23 dc23 pm23 cd23 ct23 : Value}
    {f24 : Addr} {od24 an24 : Option Addr} {sl24 : Array (Option Value)} {oc24 kV24 dc24 pm24 cd24 ct24 : Value}
    {f25 : Addr} {od25 an25 : Option Addr} {sl25 : Array (Option Value)} {oc25 kV25 dc25 pm25 cd25 ct25 : Value}
    {f26 : Addr} {od26 an26 : Option Addr} {sl26 : Array (Option Value)} {oc26 kV26 dc26 pm26 cd26 ct26 : Value}
    {f27 : Addr} {od27 an27 : Option Addr} {sl27 : Array (Option Value)} {oc27 kV27 dc27 pm27 cd27 ct27 : Value}
    {f28 : Addr} {od28 an28 : Option Addr} {sl28 : Array (Option Value)} {oc28 kV28 dc28 pm28 cd28 ct28 : Value}
    {f29 : Addr} {od29 an29 : Option Addr} {sl29 : Array (Option Value)} {oc29 kV29 dc29 pm29 cd29 ct29 : Value}
    {f30 : Addr} {od30 an30 : Option Addr} {sl30 : Array (Option Value)} {oc30 kV30 dc30 pm30 cd30 ct30 : Value}
    {f31 : Addr} {od31 an31 : Option Addr} {sl31 : Array (Option Value)} {oc31 kV31 dc31 pm31 cd31 ct31 : Value}
    {f32 : Addr} {od32 an32 : Option Addr} {sl32 : Array (Option Value)} {oc32 kV32 dc32 pm32 cd32 ct32 : Value}
    {f33 : Addr} {od33 an33 : Option Addr} {sl33 : Array (Option Value)} {oc33 kV33 dc33 pm33 cd33 ct33 : Value}
    {f34 : Addr} {od34 an34 : Option Addr} {sl34 : Array (Option Value)} {oc34 kV34 dc34 pm34 cd34 ct34 : Value}
    {f35 : Addr} {od35 an35 : Option Addr} {sl35 : Array (Option Value)} {oc35 kV35 dc35 pm35 cd35 ct35 : Value}
    {f36 : Addr} {od36 an36 : Option Addr} {sl36 : Array (Option Value)} {oc36 kV36 dc36 pm36 cd36 ct36 : Value}
    {f37 : Addr} {od37 an37 : Option Addr} {sl37 : Array (Option Value)} {oc37 kV37 dc37 pm37 cd37 ct37 : Value}
    {f38 : Addr} {od38 an38 : Option Addr} {sl38 : Array (Option Value)} {oc38 kV38 dc38 pm38 cd38 ct38 : Value}
    {f39 : Addr} {od39 an39 : Option Addr} {sl39 : Array (Option Value)} {oc39 kV39 dc39 pm39 cd39 ct39 : Value}
    {f40 : Addr} {od40 an40 : Option Addr} {sl40 : Array (Option Value)} {oc40 kV40 dc40 pm40 cd40 ct40 : Value}
    {f41 : Addr} {od41 an41 : Option Addr} {sl41 : Array (Option Value)} {oc41 kV41 dc41 pm41 cd41 ct41 : Value}
    {f42 : Addr} {od42 an42 : Option Addr} {sl42 : Array (Option Value)} {oc42 kV42 dc42 pm42 cd42 ct42 : Value}
    {f43 : Addr} {od43 an43 : Option Addr} {sl43 : Array (Option Value)} {oc43 kV43 dc43 pm43 cd43 ct43 : Value}
    {f44 : Addr} {od44 an44 : Option Addr} {sl44 : Array (Option Value)} {oc44 kV44 dc44 pm44 cd44 ct44 : Value}
    {f45 : Addr} {od45 an45 : Option Addr} {sl45 : Array (Option Value)} {oc45 kV45 dc45 pm45 cd45 ct45 : Value}
    {f46 : Addr} {od46 an46 : Option Addr} {sl46 : Array (Option Value)} {oc46 kV46 dc46 pm46 cd46 ct46 : Value}
    {f47 : Addr} {od47 an47 : Option Addr} {sl47 : Array (Option Value)} {oc47 kV47 dc47 pm47 cd47 ct47 : Value}
    {f48 : Addr} {od48 an48 : Option Addr} {sl48 : Array (Option Value)} {oc48 kV48 dc48 pm48 cd48 ct48 : Value}
    {f49 : Addr} {od49 an49 : Option Addr} {sl49 : Array (Option Value)} {oc49 kV49 dc49 pm49 cd49 ct49 : Value}
    {f50 : Addr} {od50 an50 : Option Addr} {sl50 : Array (Option Value)} {oc50 kV50 dc50 pm50 cd50 ct50 : Value}
    {f51 : Addr} {od51 an51 : Option Addr} {sl51 : Array (Option Value)} {oc51 kV51 dc51 pm51 cd51 ct51 : Value}
    {f52 : Addr} {od52 an52 : Option Addr} {sl52 : Array (Option Value)} {oc52 kV52 dc52 pm52 cd52 ct52 : Value}
    {f53 : Addr} {od53 an53 : Option Addr} {sl53 : Array (Option Value)} {oc53 kV53 dc53 pm53 cd53 ct53 : Value}
    {f54 : Addr} {od54 an54 : Option Addr} {sl54 : Array (Option Value)} {oc54 kV54 dc54 pm54 cd54 ct54 : Value}
    {f55 : Addr} {od55 an55 : Option Addr} {sl55 : Array (Option Value)} {oc55 kV55 dc55 pm55 cd55 ct55 : Value}
    {f56 : Addr} {od56 an56 : Option Addr} {sl56 : Array (Option Value)} {oc56 kV56 dc56 pm56 cd56 ct56 : Value}
    {f57 : Addr} {od57 an57 : Option Addr} {sl57 : Array (Option Value)} {oc57 kV57 dc57 pm57 cd57 ct57 : Value}
    {f58 : Addr} {od58 an58 : Option Addr} {sl58 : Array (Option Value)} {oc58 kV58 dc58 pm58 cd58 ct58 : Value}
    {f59 : Addr} {od59 an59 : Option Addr} {sl59 : Array (Option Value)} {oc59 kV59 dc59 pm59 cd59 ct59 : Value}
    {f60 : Addr} {od60 an60 : Option Addr} {sl60 : Array (Option Value)} {oc60 kV60 dc60 pm60 cd60 ct60 : Value}
    {f61 : Addr} {od61 an61 : Option Addr} {sl61 : Array (Option Value)} {oc61 kV61 dc61 pm61 cd61 ct61 : Value}
    {f62 : Addr} {od62 an62 : Option Addr} {sl62 : Array (Option Value)} {oc62 kV62 dc62 pm62 cd62 ct62 : Value}
    {f63 : Addr} {od63 an63 : Option Addr} {sl63 : Array (Option Value)} {oc63 kV63 dc63 pm63 cd63 ct63 : Value}
    {da1 : Addr} {es1 : Array DictEntry} {dn1 : Nat}
    {t1 : Tok}
    {t2 : Tok}
    {t3 : Tok}
    {t4 : Tok}
    {t5 : Tok}
    {ts1 : Tok}
    (ca1 : PySem.W.nsIn K mainGlobals "Walk" = some (some (.ref C1))) (cb1 : PySem.W.plainGet K C1 Str.empty = true) (cc1 : PySem.W.hasDictIn K C1 = true) (cp1 : PySem.W.plainOver K C1 = true) (cs1 : PySem.W.findIn K (.ref C1) "__setattr__" = some (some (.builtin "object.__setattr__"))) (cm1 : PySem.W.makesIn K C1 = true) (ck1 : PySem.W.keepIn K (.ref C1) = true)
    (cn1_1 : PySem.W.findIn K (.ref C1) "line" = some none)
    (cn1_2 : PySem.W.findIn K (.ref C1) "places" = some none)
    (cn1_3 : PySem.W.findIn K (.ref C1) "sources" = some none)
    (cn1_4 : PySem.W.findIn K (.ref C1) "made" = some none)
    (cn1_5 : PySem.W.findIn K (.ref C1) "holders" = some none)
    (cn1_6 : PySem.W.findIn K (.ref C1) "over" = some none)
    (cn1_7 : PySem.W.findIn K (.ref C1) "loose" = some none)
    (cn1_8 : PySem.W.findIn K (.ref C1) "stretch" = some none)
    (cn1_9 : PySem.W.findIn K (.ref C1) "held" = some none)
    (ca2 : PySem.W.nsIn K mainGlobals "Place" = some (some (.ref C2))) (cb2 : PySem.W.plainGet K C2 Str.empty = true) (cc2 : PySem.W.hasDictIn K C2 = true) (cp2 : PySem.W.plainOver K C2 = true) (cs2 : PySem.W.findIn K (.ref C2) "__setattr__" = some (some (.builtin "object.__setattr__"))) (cm2 : PySem.W.makesIn K C2 = true) (ck2 : PySem.W.keepIn K (.ref C2) = true)
    (cn2_1 : PySem.W.findIn K (.ref C2) "walk" = some none)
    (cn2_2 : PySem.W.findIn K (.ref C2) "at" = some none)
    (ca3 : PySem.W.nsIn K mainGlobals "Outlets" = some (some (.ref C3))) (cb3 : PySem.W.plainGet K C3 Str.empty = true) (cc3 : PySem.W.hasDictIn K C3 = true) (cp3 : PySem.W.plainOver K C3 = true) (cs3 : PySem.W.findIn K (.ref C3) "__setattr__" = some (some (.builtin "object.__setattr__"))) (cm3 : PySem.W.makesIn K C3 = true) (ck3 : PySem.W.keepIn K (.ref C3) = true)
    (cn3_1 : PySem.W.findIn K (.ref C3) "outs" = some none)
    (ca4 : PySem.W.nsIn K mainGlobals "Run" = some (some (.ref C4))) (cb4 : PySem.W.plainGet K C4 Str.empty = true) (cc4 : PySem.W.hasDictIn K C4 = true) (cp4 : PySem.W.plainOver K C4 = true) (cs4 : PySem.W.findIn K (.ref C4) "__setattr__" = some (some (.builtin "object.__setattr__"))) (cm4 : PySem.W.makesIn K C4 = true) (ck4 : PySem.W.keepIn K (.ref C4) = true)
    (cn4_1 : PySem.W.findIn K (.ref C4) "sources" = some none)
    (cn4_2 : PySem.W.findIn K (.ref C4) "outlets" = some none)
    (ca5 : PySem.W.nsIn K mainGlobals "ListedSources" = some (some (.ref C5))) (cb5 : PySem.W.plainGet K C5 Str.empty = true) (cc5 : PySem.W.hasDictIn K C5 = true) (cp5 : PySem.W.plainOver K C5 = true) (cs5 : PySem.W.findIn K (.ref C5) "__setattr__" = some (some (.builtin "object.__setattr__"))) (cm5 : PySem.W.makesIn K C5 = true) (ck5 : PySem.W.keepIn K (.ref C5) = true)
    (cn5_1 : PySem.W.findIn K (.ref C5) "many" = some none)
    (cn5_2 : PySem.W.findIn K (.ref C5) "left" = some none)
    (cn5_3 : PySem.W.findIn K (.ref C5) "lists" = some none)
    (cn5_4 : PySem.W.findIn K (.ref C5) "nexts" = some none)
    (cn5_5 : PySem.W.findIn K (.ref C5) "asks" = some none)
    (a1 : PySem.W.nsIn K mainGlobals "_law_dice" = some (some (.ref f1))) (l1 : K.lookup f1 = some ⟨oc1, od1, .func (PySem.W.fnOf "_law_dice" "_law_dice" (defArgs s__law_dice) (defBody s__law_dice) (defScope s__law_dice) .none kV1 dc1 pm1 an1 cd1 ct1), sl1⟩) (c1 : PySem.W.codeIn K cd1 "_law_dice" = true) (k1 : PySem.W.keepIn K (.ref f1) = true)
    (a2 : PySem.W.nsIn K mainGlobals "_law_next" = some (some (.ref f2))) (l2 : K.lookup f2 = some ⟨oc2, od2, .func (PySem.W.fnOf "_law_next" "_law_next" (defArgs s__law_next) (defBody s__law_next) (defScope s__law_next) .none kV2 dc2 pm2 an2 cd2 ct2), sl2⟩) (c2 : PySem.W.codeIn K cd2 "_law_next" = true) (k2 : PySem.W.keepIn K (.ref f2) = true)
    (a3 : PySem.W.nsIn K mainGlobals "kind_done" = some (some (.ref f3))) (l3 : K.lookup f3 = some ⟨oc3, od3, .func (PySem.W.fnOf "kind_done" "kind_done" (defArgs s_kind_done) (defBody s_kind_done) (defScope s_kind_done) .none kV3 dc3 pm3 an3 cd3 ct3), sl3⟩) (c3 : PySem.W.codeIn K cd3 "kind_done" = true) (k3 : PySem.W.keepIn K (.ref f3) = true)
    (a4 : PySem.W.nsIn K mainGlobals "kind_made" = some (some (.ref f4))) (l4 : K.lookup f4 = some ⟨oc4, od4, .func (PySem.W.fnOf "kind_made" "kind_made" (defArgs s_kind_made) (defBody s_kind_made) (defScope s_kind_made) .none kV4 dc4 pm4 an4 cd4 ct4), sl4⟩) (c4 : PySem.W.codeIn K cd4 "kind_made" = true) (k4 : PySem.W.keepIn K (.ref f4) = true)
    (a5 : PySem.W.nsIn K mainGlobals "kind_of" = some (some (.ref f5))) (l5 : K.lookup f5 = some ⟨oc5, od5, .func (PySem.W.fnOf "kind_of" "kind_of" (defArgs s_kind_of) (defBody s_kind_of) (defScope s_kind_of) .none kV5 dc5 pm5 an5 cd5 ct5), sl5⟩) (c5 : PySem.W.codeIn K cd5 "kind_of" = true) (k5 : PySem.W.keepIn K (.ref f5) = true)
    (a6 : PySem.W.nsIn K mainGlobals "named" = some (some (.ref f6))) (l6 : K.lookup f6 = some ⟨oc6, od6, .func (PySem.W.fnOf "named" "named" (defArgs s_named) (defBody s_named) (defScope s_named) .none kV6 dc6 pm6 an6 cd6 ct6), sl6⟩) (c6 : PySem.W.codeIn K cd6 "named" = true) (k6 : PySem.W.keepIn K (.ref f6) = true)
    (a7 : PySem.W.nsIn K mainGlobals "place_can_be" = some (some (.ref f7))) (l7 : K.lookup f7 = some ⟨oc7, od7, .func (PySem.W.fnOf "place_can_be" "place_can_be" (defArgs s_place_can_be) (defBody s_place_can_be) (defScope s_place_can_be) .none kV7 dc7 pm7 an7 cd7 ct7), sl7⟩) (c7 : PySem.W.codeIn K cd7 "place_can_be" = true) (k7 : PySem.W.keepIn K (.ref f7) = true)
    (a8 : PySem.W.nsIn K mainGlobals "is_number" = some (some (.ref f8))) (l8 : K.lookup f8 = some ⟨oc8, od8, .func (PySem.W.fnOf "is_number" "is_number" (defArgs s_is_number) (defBody s_is_number) (defScope s_is_number) .none kV8 dc8 pm8 an8 cd8 ct8), sl8⟩) (c8 : PySem.W.codeIn K cd8 "is_number" = true) (k8 : PySem.W.keepIn K (.ref f8) = true)
    (a9 : PySem.W.nsIn K mainGlobals "deeds_can_be" = some (some (.ref f9))) (l9 : K.lookup f9 = some ⟨oc9, od9, .func (PySem.W.fnOf "deeds_can_be" "deeds_can_be" (defArgs s_deeds_can_be) (defBody s_deeds_can_be) (defScope s_deeds_can_be) .none kV9 dc9 pm9 an9 cd9 ct9), sl9⟩) (c9 : PySem.W.codeIn K cd9 "deeds_can_be" = true) (k9 : PySem.W.keepIn K (.ref f9) = true)
    (a10 : PySem.W.nsIn K mainGlobals "test_can_be" = some (some (.ref f10))) (l10 : K.lookup f10 = some ⟨oc10, od10, .func (PySem.W.fnOf "test_can_be" "test_can_be" (defArgs s_test_can_be) (defBody s_test_can_be) (defScope s_test_can_be) .none kV10 dc10 pm10 an10 cd10 ct10), sl10⟩) (c10 : PySem.W.codeIn K cd10 "test_can_be" = true) (k10 : PySem.W.keepIn K (.ref f10) = true)
    (a11 : PySem.W.nsIn K mainGlobals "tests_can_be" = some (some (.ref f11))) (l11 : K.lookup f11 = some ⟨oc11, od11, .func (PySem.W.fnOf "tests_can_be" "tests_can_be" (defArgs s_tests_can_be) (defBody s_tests_can_be) (defScope s_tests_can_be) .none kV11 dc11 pm11 an11 cd11 ct11), sl11⟩) (c11 : PySem.W.codeIn K cd11 "tests_can_be" = true) (k11 : PySem.W.keepIn K (.ref f11) = true)
    (a12 : PySem.W.nsIn K mainGlobals "numbers_can_be" = some (some (.ref f12))) (l12 : K.lookup f12 = some ⟨oc12, od12, .func (PySem.W.fnOf "numbers_can_be" "numbers_can_be" (defArgs s_numbers_can_be) (defBody s_numbers_can_be) (defScope s_numbers_can_be) .none kV12 dc12 pm12 an12 cd12 ct12), sl12⟩) (c12 : PySem.W.codeIn K cd12 "numbers_can_be" = true) (k12 : PySem.W.keepIn K (.ref f12) = true)
    (a13 : PySem.W.nsIn K mainGlobals "looked" = some (some (.ref f13))) (l13 : K.lookup f13 = some ⟨oc13, od13, .func (PySem.W.fnOf "looked" "looked" (defArgs s_looked) (defBody s_looked) (defScope s_looked) .none kV13 dc13 pm13 an13 cd13 ct13), sl13⟩) (c13 : PySem.W.codeIn K cd13 "looked" = true) (k13 : PySem.W.keepIn K (.ref f13) = true)
    (l14 : K.lookup f14 = some ⟨oc14, od14, .func (PySem.W.fnOf "__init__" "Sources.__init__" (defArgs s_Sources___init__) (defBody s_Sources___init__) (defScope s_Sources___init__) .none kV14 dc14 pm14 an14 cd14 ct14), sl14⟩) (c14 : PySem.W.codeIn K cd14 "Sources.__init__" = true) (k14 : PySem.W.keepIn K (.ref f14) = true)
    (a15 : PySem.W.findIn K (.ref C5) "__init__" = some (some (.ref f15))) (l15 : K.lookup f15 = some ⟨oc15, od15, .func (PySem.W.fnX "__init__" "ListedSources.__init__" (defArgs s_ListedSources___init__) (defBody s_ListedSources___init__) (defScope s_ListedSources___init__) [("__class__", cq15)] .none kV15 dc15 pm15 an15 (.ref cw15) ct15), sl15⟩) (c15 : PySem.W.codeIn K (.ref cw15) "ListedSources.__init__" = true) (k15 : PySem.W.keepIn K (.ref f15) = true) (i15_ : PySem.W.isFn K (.ref f15) = true)
    (q15a : K.lookup cq15 = some ⟨ta15, tc15, .cell (some (.ref C5)), te15⟩) (q15b : K.lookup cw15 = some ⟨tb15, td15, .fields tg15, tf15⟩) (q15c : tg15[2]? = some (.str th15 ti15)) (q15d : ((P.main.file : Str) == th15) = true) (q15e : (P.main.scope.names.lookup ("super" : Str)).isSome = false) (q15f : PySem.W.isClsIn K C5 = true) (q15g : PySem.W.mroIn K C5 (.ref C5) = some true) (q15h : PySem.W.nsIn K cStatics "thirdparty.any" = some none) (q15i : PySem.W.ks_superIn K C5 C5 "__init__" = some (some (.ref f14))) (q15j : PySem.W.typeIn K (.ref f14) = some (.type "function")) (q15k : PySem.W.fnIn K f14 = true)
    (a16 : PySem.W.nsIn K mainGlobals "outs_looked" = some (some (.ref f16))) (l16 : K.lookup f16 = some ⟨oc16, od16, .func (PySem.W.fnOf "outs_looked" "outs_looked" (defArgs s_outs_looked) (defBody s_outs_looked) (defScope s_outs_looked) .none kV16 dc16 pm16 an16 cd16 ct16), sl16⟩) (c16 : PySem.W.codeIn K cd16 "outs_looked" = true) (k16 : PySem.W.keepIn K (.ref f16) = true)
    (a17 : PySem.W.findIn K (.ref C2) "__init__" = some (some (.ref f17))) (l17 : K.lookup f17 = some ⟨oc17, od17, .func (PySem.W.fnOf "__init__" "Place.__init__" (defArgs s_Place___init__) (defBody s_Place___init__) (defScope s_Place___init__) .none kV17 dc17 pm17 an17 cd17 ct17), sl17⟩) (c17 : PySem.W.codeIn K cd17 "Place.__init__" = true) (k17 : PySem.W.keepIn K (.ref f17) = true) (i17_ : PySem.W.isFn K (.ref f17) = true)
    (a18 : PySem.W.findIn K (.ref C1) "__init__" = some (some (.ref f18))) (l18 : K.lookup f18 = some ⟨oc18, od18, .func (PySem.W.fnOf "__init__" "Walk.__init__" (defArgs s_Walk___init__) (defBody s_Walk___init__) (defScope s_Walk___init__) .none kV18 dc18 pm18 an18 cd18 ct18), sl18⟩) (c18 : PySem.W.codeIn K cd18 "Walk.__init__" = true) (k18 : PySem.W.keepIn K (.ref f18) = true) (i18_ : PySem.W.isFn K (.ref f18) = true)
    (a19 : PySem.W.nsIn K mainGlobals "walks_of" = some (some (.ref f19))) (l19 : K.lookup f19 = some ⟨oc19, od19, .func (PySem.W.fnOf "walks_of" "walks_of" (defArgs s_walks_of) (defBody s_walks_of) (defScope s_walks_of) .none kV19 dc19 pm19 an19 cd19 ct19), sl19⟩) (c19 : PySem.W.codeIn K cd19 "walks_of" = true) (k19 : PySem.W.keepIn K (.ref f19) = true)
    (a20 : PySem.W.findIn K (.ref C5) "leave_unnamed" = some (some (.ref f20))) (l20 : K.lookup f20 = some ⟨oc20, od20, .func (PySem.W.fnOf "leave_unnamed" "Sources.leave_unnamed" (defArgs s_Sources_leave_unnamed) (defBody s_Sources_leave_unnamed) (defScope s_Sources_leave_unnamed) .none kV20 dc20 pm20 an20 cd20 ct20), sl20⟩) (c20 : PySem.W.codeIn K cd20 "Sources.leave_unnamed" = true) (k20 : PySem.W.keepIn K (.ref f20) = true) (i20_ : PySem.W.isFn K (.ref f20) = true)
    (a21 : PySem.W.findIn K (.ref C2) "leave" = some (some (.ref f21))) (l21 : K.lookup f21 = some ⟨oc21, od21, .func (PySem.W.fnOf "leave" "Place.leave" (defArgs s_Place_leave) (defBody s_Place_leave) (defScope s_Place_leave) .none kV21 dc21 pm21 an21 cd21 ct21), sl21⟩) (c21 : PySem.W.codeIn K cd21 "Place.leave" = true) (k21 : PySem.W.keepIn K (.ref f21) = true) (i21_ : PySem.W.isFn K (.ref f21) = true)
    (a22 : PySem.W.findIn K (.ref C5) "leave" = some (some (.ref f22))) (l22 : K.lookup f22 = some ⟨oc22, od22, .func (PySem.W.fnOf "leave" "Sources.leave" (defArgs s_Sources_leave) (defBody s_Sources_leave) (defScope s_Sources_leave) .none kV22 dc22 pm22 an22 cd22 ct22), sl22⟩) (c22 : PySem.W.codeIn K cd22 "Sources.leave" = true) (k22 : PySem.W.keepIn K (.ref f22) = true) (i22_ : PySem.W.isFn K (.ref f22) = true)
    (a23 : PySem.W.findIn K (.ref C1) "let_go" = some (some (.ref f23))) (l23 : K.lookup f23 = some ⟨oc23, od23, .func (PySem.W.fnOf "let_go" "Walk.let_go" (defArgs s_Walk_let_go) (defBody s_Walk_let_go) (defScope s_Walk_let_go) .none kV23 dc23 pm23 an23 cd23 ct23), sl23⟩) (c23 : PySem.W.codeIn K cd23 "Walk.let_go" = true) (k23 : PySem.W.keepIn K (.ref f23) = true) (i23_ : PySem.W.isFn K (.ref f23) = true)
    (a24 : PySem.W.findIn K (.ref C3) "__init__" = some (some (.ref f24))) (l24 : K.lookup f24 = some ⟨oc24, od24, .func (PySem.W.fnOf "__init__" "Outlets.__init__" (defArgs s_Outlets___init__) (defBody s_Outlets___init__) (defScope s_Outlets___init__) .none kV24 dc24 pm24 an24 cd24 ct24), sl24⟩) (c24 : PySem.W.codeIn K cd24 "Outlets.__init__" = true) (k24 : PySem.W.keepIn K (.ref f24) = true) (i24_ : PySem.W.isFn K (.ref f24) = true)
    (a25 : PySem.W.findIn K (.ref C4) "__init__" = some (some (.ref f25))) (l25 : K.lookup f25 = some ⟨oc25, od25, .func (PySem.W.fnOf "__init__" "Run.__init__" (defArgs s_Run___init__) (defBody s_Run___init__) (defScope s_Run___init__) .none kV25 dc25 pm25 an25 cd25 ct25), sl25⟩) (c25 : PySem.W.codeIn K cd25 "Run.__init__" = true) (k25 : PySem.W.keepIn K (.ref f25) = true) (i25_ : PySem.W.isFn K (.ref f25) = true)
    (a26 : PySem.W.nsIn K mainGlobals "_law_merged" = some (some (.ref f26))) (l26 : K.lookup f26 = some ⟨oc26, od26, .func (PySem.W.fnOf "_law_merged" "_law_merged" (defArgs s__law_merged) (defBody s__law_merged) (defScope s__law_merged) .none kV26 dc26 pm26 an26 cd26 ct26), sl26⟩) (c26 : PySem.W.codeIn K cd26 "_law_merged" = true) (k26 : PySem.W.keepIn K (.ref f26) = true)
    (a27 : PySem.W.nsIn K mainGlobals "_law_grouped" = some (some (.ref f27))) (l27 : K.lookup f27 = some ⟨oc27, od27, .func (PySem.W.fnOf "_law_grouped" "_law_grouped" (defArgs s__law_grouped) (defBody s__law_grouped) (defScope s__law_grouped) .none kV27 dc27 pm27 an27 cd27 ct27), sl27⟩) (c27 : PySem.W.codeIn K cd27 "_law_grouped" = true) (k27 : PySem.W.keepIn K (.ref f27) = true)
    (a28 : PySem.W.nsIn K mainGlobals "_law_all_done" = some (some (.ref f28))) (l28 : K.lookup f28 = some ⟨oc28, od28, .func (PySem.W.fnOf "_law_all_done" "_law_all_done" (defArgs s__law_all_done) (defBody s__law_all_done) (defScope s__law_all_done) .none kV28 dc28 pm28 an28 cd28 ct28), sl28⟩) (c28 : PySem.W.codeIn K cd28 "_law_all_done" = true) (k28 : PySem.W.keepIn K (.ref f28) = true)
    (a29 : PySem.W.nsIn K mainGlobals "_law_folded" = some (some (.ref f29))) (l29 : K.lookup f29 = some ⟨oc29, od29, .func (PySem.W.fnOf "_law_folded" "_law_folded" (defArgs s__law_folded) (defBody s__law_folded) (defScope s__law_folded) .none kV29 dc29 pm29 an29 cd29 ct29), sl29⟩) (c29 : PySem.W.codeIn K cd29 "_law_folded" = true) (k29 : PySem.W.keepIn K (.ref f29) = true)
    (a30 : PySem.W.nsIn K mainGlobals "_law_met" = some (some (.ref f30))) (l30 : K.lookup f30 = some ⟨oc30, od30, .func (PySem.W.fnOf "_law_met" "_law_met" (defArgs s__law_met) (defBody s__law_met) (defScope s__law_met) .none kV30 dc30 pm30 an30 cd30 ct30), sl30⟩) (c30 : PySem.W.codeIn K cd30 "_law_met" = true) (k30 : PySem.W.keepIn K (.ref f30) = true)
    (a31 : PySem.W.nsIn K mainGlobals "_law_list" = some (some (.ref f31))) (l31 : K.lookup f31 = some ⟨oc31, od31, .func (PySem.W.fnOf "_law_list" "_law_list" (defArgs s__law_list) (defBody s__law_list) (defScope s__law_list) .none kV31 dc31 pm31 an31 cd31 ct31), sl31⟩) (c31 : PySem.W.codeIn K cd31 "_law_list" = true) (k31 : PySem.W.keepIn K (.ref f31) = true)
    (a32 : PySem.W.nsIn K mainGlobals "_law_plain" = some (some (.ref f32))) (l32 : K.lookup f32 = some ⟨oc32, od32, .func (PySem.W.fnOf "_law_plain" "_law_plain" (defArgs s__law_plain) (defBody s__law_plain) (defScope s__law_plain) .none kV32 dc32 pm32 an32 cd32 ct32), sl32⟩) (c32 : PySem.W.codeIn K cd32 "_law_plain" = true) (k32 : PySem.W.keepIn K (.ref f32) = true)
    (a33 : PySem.W.findIn K (.ref C4) "asked" = some (some (.ref f33))) (l33 : K.lookup f33 = some ⟨oc33, od33, .func (PySem.W.fnOf "asked" "Run.asked" (defArgs s_Run_asked) (defBody s_Run_asked) (defScope s_Run_asked) .none kV33 dc33 pm33 an33 cd33 ct33), sl33⟩) (c33 : PySem.W.codeIn K cd33 "Run.asked" = true) (k33 : PySem.W.keepIn K (.ref f33) = true) (i33_ : PySem.W.isFn K (.ref f33) = true)
    (a34 : PySem.W.nsIn K mainGlobals "_law_number" = some (some (.ref f34))) (l34 : K.lookup f34 = some ⟨oc34, od34, .func (PySem.W.fnOf "_law_number" "_law_number" (defArgs s__law_number) (defBody s__law_number) (defScope s__law_number) .none kV34 dc34 pm34 an34 cd34 ct34), sl34⟩) (c34 : PySem.W.codeIn K cd34 "_law_number" = true) (k34 : PySem.W.keepIn K (.ref f34) = true)
    (a35 : PySem.W.nsIn K mainGlobals "_law_like" = some (some (.ref f35))) (l35 : K.lookup f35 = some ⟨oc35, od35, .func (PySem.W.fnOf "_law_like" "_law_like" (defArgs s__law_like) (defBody s__law_like) (defScope s__law_like) .none kV35 dc35 pm35 an35 cd35 ct35), sl35⟩) (c35 : PySem.W.codeIn K cd35 "_law_like" = true) (k35 : PySem.W.keepIn K (.ref f35) = true)
    (a36 : PySem.W.findIn K (.ref C5) "ask" = some (some (.ref f36))) (l36 : K.lookup f36 = some ⟨oc36, od36, .func (PySem.W.fnOf "ask" "ListedSources.ask" (defArgs s_ListedSources_ask) (defBody s_ListedSources_ask) (defScope s_ListedSources_ask) .none kV36 dc36 pm36 an36 cd36 ct36), sl36⟩) (c36 : PySem.W.codeIn K cd36 "ListedSources.ask" = true) (k36 : PySem.W.keepIn K (.ref f36) = true) (i36_ : PySem.W.isFn K (.ref f36) = true)
    (a37 : PySem.W.nsIn K mainGlobals "asked" = some (some (.ref f37))) (l37 : K.lookup f37 = some ⟨oc37, od37, .func (PySem.W.fnOf "asked" "asked" (defArgs s_asked) (defBody s_asked) (defScope s_asked) .none kV37 dc37 pm37 an37 cd37 ct37), sl37⟩) (c37 : PySem.W.codeIn K cd37 "asked" = true) (k37 : PySem.W.keepIn K (.ref f37) = true)
    (a38 : PySem.W.findIn K (.ref C1) "pulled" = some (some (.ref f38))) (l38 : K.lookup f38 = some ⟨oc38, od38, .func (PySem.W.fnOf "pulled" "Walk.pulled" (defArgs s_Walk_pulled) (defBody s_Walk_pulled) (defScope s_Walk_pulled) .none kV38 dc38 pm38 an38 cd38 ct38), sl38⟩) (c38 : PySem.W.codeIn K cd38 "Walk.pulled" = true) (k38 : PySem.W.keepIn K (.ref f38) = true) (i38_ : PySem.W.isFn K (.ref f38) = true)
    (a39 : PySem.W.nsIn K mainGlobals "done" = some (some (.ref f39))) (l39 : K.lookup f39 = some ⟨oc39, od39, .func (PySem.W.fnOf "done" "done" (defArgs s_done) (defBody s_done) (defScope s_done) .none kV39 dc39 pm39 an39 cd39 ct39), sl39⟩) (c39 : PySem.W.codeIn K cd39 "done" = true) (k39 : PySem.W.keepIn K (.ref f39) = true)
    (a40 : PySem.W.nsIn K mainGlobals "all_done" = some (some (.ref f40))) (l40 : K.lookup f40 = some ⟨oc40, od40, .func (PySem.W.fnOf "all_done" "all_done" (defArgs s_all_done) (defBody s_all_done) (defScope s_all_done) .none kV40 dc40 pm40 an40 cd40 ct40), sl40⟩) (c40 : PySem.W.codeIn K cd40 "all_done" = true) (k40 : PySem.W.keepIn K (.ref f40) = true)
    (a41 : PySem.W.nsIn K mainGlobals "mapped" = some (some (.ref f41))) (l41 : K.lookup f41 = some ⟨oc41, od41, .func (PySem.W.fnOf "mapped" "mapped" (defArgs s_mapped) (defBody s_mapped) (defScope s_mapped) .none kV41 dc41 pm41 an41 cd41 ct41), sl41⟩) (c41 : PySem.W.codeIn K cd41 "mapped" = true) (k41 : PySem.W.keepIn K (.ref f41) = true)
    (a42 : PySem.W.nsIn K mainGlobals "holds" = some (some (.ref f42))) (l42 : K.lookup f42 = some ⟨oc42, od42, .func (PySem.W.fnOf "holds" "holds" (defArgs s_holds) (defBody s_holds) (defScope s_holds) .none kV42 dc42 pm42 an42 cd42 ct42), sl42⟩) (c42 : PySem.W.codeIn K cd42 "holds" = true) (k42 : PySem.W.keepIn K (.ref f42) = true)
    (a43 : PySem.W.nsIn K mainGlobals "all_hold" = some (some (.ref f43))) (l43 : K.lookup f43 = some ⟨oc43, od43, .func (PySem.W.fnOf "all_hold" "all_hold" (defArgs s_all_hold) (defBody s_all_hold) (defScope s_all_hold) .none kV43 dc43 pm43 an43 cd43 ct43), sl43⟩) (c43 : PySem.W.codeIn K cd43 "all_hold" = true) (k43 : PySem.W.keepIn K (.ref f43) = true)
    (a44 : PySem.W.nsIn K mainGlobals "kept" = some (some (.ref f44))) (l44 : K.lookup f44 = some ⟨oc44, od44, .func (PySem.W.fnOf "kept" "kept" (defArgs s_kept) (defBody s_kept) (defScope s_kept) .none kV44 dc44 pm44 an44 cd44 ct44), sl44⟩) (c44 : PySem.W.codeIn K cd44 "kept" = true) (k44 : PySem.W.keepIn K (.ref f44) = true)
    (a45 : PySem.W.nsIn K mainGlobals "ahead_of_failing" = some (some (.ref f45))) (l45 : K.lookup f45 = some ⟨oc45, od45, .func (PySem.W.fnOf "ahead_of_failing" "ahead_of_failing" (defArgs s_ahead_of_failing) (defBody s_ahead_of_failing) (defScope s_ahead_of_failing) .none kV45 dc45 pm45 an45 cd45 ct45), sl45⟩) (c45 : PySem.W.codeIn K cd45 "ahead_of_failing" = true) (k45 : PySem.W.keepIn K (.ref f45) = true)
    (a46 : PySem.W.nsIn K mainGlobals "taken" = some (some (.ref f46))) (l46 : K.lookup f46 = some ⟨oc46, od46, .func (PySem.W.fnOf "taken" "taken" (defArgs s_taken) (defBody s_taken) (defScope s_taken) .none kV46 dc46 pm46 an46 cd46 ct46), sl46⟩) (c46 : PySem.W.codeIn K cd46 "taken" = true) (k46 : PySem.W.keepIn K (.ref f46) = true)
    (a47 : PySem.W.nsIn K mainGlobals "behind_skipped" = some (some (.ref f47))) (l47 : K.lookup f47 = some ⟨oc47, od47, .func (PySem.W.fnOf "behind_skipped" "behind_skipped" (defArgs s_behind_skipped) (defBody s_behind_skipped) (defScope s_behind_skipped) .none kV47 dc47 pm47 an47 cd47 ct47), sl47⟩) (c47 : PySem.W.codeIn K cd47 "behind_skipped" = true) (k47 : PySem.W.keepIn K (.ref f47) = true)
    (a48 : PySem.W.nsIn K mainGlobals "grouped" = some (some (.ref f48))) (l48 : K.lookup f48 = some ⟨oc48, od48, .func (PySem.W.fnOf "grouped" "grouped" (defArgs s_grouped) (defBody s_grouped) (defScope s_grouped) .none kV48 dc48 pm48 an48 cd48 ct48), sl48⟩) (c48 : PySem.W.codeIn K cd48 "grouped" = true) (k48 : PySem.W.keepIn K (.ref f48) = true)
    (a49 : PySem.W.nsIn K mainGlobals "windowed" = some (some (.ref f49))) (l49 : K.lookup f49 = some ⟨oc49, od49, .func (PySem.W.fnOf "windowed" "windowed" (defArgs s_windowed) (defBody s_windowed) (defScope s_windowed) .none kV49 dc49 pm49 an49 cd49 ct49), sl49⟩) (c49 : PySem.W.codeIn K cd49 "windowed" = true) (k49 : PySem.W.keepIn K (.ref f49) = true)
    (a50 : PySem.W.nsIn K mainGlobals "folded" = some (some (.ref f50))) (l50 : K.lookup f50 = some ⟨oc50, od50, .func (PySem.W.fnOf "folded" "folded" (defArgs s_folded) (defBody s_folded) (defScope s_folded) .none kV50 dc50 pm50 an50 cd50 ct50), sl50⟩) (c50 : PySem.W.codeIn K cd50 "folded" = true) (k50 : PySem.W.keepIn K (.ref f50) = true)
    (a51 : PySem.W.nsIn K mainGlobals "folded_on" = some (some (.ref f51))) (l51 : K.lookup f51 = some ⟨oc51, od51, .func (PySem.W.fnOf "folded_on" "folded_on" (defArgs s_folded_on) (defBody s_folded_on) (defScope s_folded_on) .none kV51 dc51 pm51 an51 cd51 ct51), sl51⟩) (c51 : PySem.W.codeIn K cd51 "folded_on" = true) (k51 : PySem.W.keepIn K (.ref f51) = true)
    (a52 : PySem.W.nsIn K mainGlobals "chained" = some (some (.ref f52))) (l52 : K.lookup f52 = some ⟨oc52, od52, .func (PySem.W.fnOf "chained" "chained" (defArgs s_chained) (defBody s_chained) (defScope s_chained) .none kV52 dc52 pm52 an52 cd52 ct52), sl52⟩) (c52 : PySem.W.codeIn K cd52 "chained" = true) (k52 : PySem.W.keepIn K (.ref f52) = true)
    (a53 : PySem.W.findIn K (.ref C1) "holding" = some (some (.ref f53))) (l53 : K.lookup f53 = some ⟨oc53, od53, .func (PySem.W.fnOf "holding" "Walk.holding" (defArgs s_Walk_holding) (defBody s_Walk_holding) (defScope s_Walk_holding) .none kV53 dc53 pm53 an53 cd53 ct53), sl53⟩) (c53 : PySem.W.codeIn K cd53 "Walk.holding" = true) (k53 : PySem.W.keepIn K (.ref f53) = true) (i53_ : PySem.W.isFn K (.ref f53) = true)
    (a54 : PySem.W.nsIn K mainGlobals "paired" = some (some (.ref f54))) (l54 : K.lookup f54 = some ⟨oc54, od54, .func (PySem.W.fnOf "paired" "paired" (defArgs s_paired) (defBody s_paired) (defScope s_paired) .none kV54 dc54 pm54 an54 cd54 ct54), sl54⟩) (c54 : PySem.W.codeIn K cd54 "paired" = true) (k54 : PySem.W.keepIn K (.ref f54) = true)
    (a55 : PySem.W.nsIn K mainGlobals "merged" = some (some (.ref f55))) (l55 : K.lookup f55 = some ⟨oc55, od55, .func (PySem.W.fnOf "merged" "merged" (defArgs s_merged) (defBody s_merged) (defScope s_merged) .none kV55 dc55 pm55 an55 cd55 ct55), sl55⟩) (c55 : PySem.W.codeIn K cd55 "merged" = true) (k55 : PySem.W.keepIn K (.ref f55) = true)
    (a56 : PySem.W.nsIn K mainGlobals "next_item" = some (some (.ref f56))) (l56 : K.lookup f56 = some ⟨oc56, od56, .func (PySem.W.fnOf "next_item" "next_item" (defArgs s_next_item) (defBody s_next_item) (defScope s_next_item) .none kV56 dc56 pm56 an56 cd56 ct56), sl56⟩) (c56 : PySem.W.codeIn K cd56 "next_item" = true) (k56 : PySem.W.keepIn K (.ref f56) = true)
    (a57 : PySem.W.findIn K (.ref C1) "make" = some (some (.ref f57))) (l57 : K.lookup f57 = some ⟨oc57, od57, .func (PySem.W.fnOf "make" "Walk.make" (defArgs s_Walk_make) (defBody s_Walk_make) (defScope s_Walk_make) .none kV57 dc57 pm57 an57 cd57 ct57), sl57⟩) (c57 : PySem.W.codeIn K cd57 "Walk.make" = true) (k57 : PySem.W.keepIn K (.ref f57) = true) (i57_ : PySem.W.isFn K (.ref f57) = true)
    (a58 : PySem.W.findIn K (.ref C2) "pull" = some (some (.ref f58))) (l58 : K.lookup f58 = some ⟨oc58, od58, .func (PySem.W.fnOf "pull" "Place.pull" (defArgs s_Place_pull) (defBody s_Place_pull) (defScope s_Place_pull) .none kV58 dc58 pm58 an58 cd58 ct58), sl58⟩) (c58 : PySem.W.codeIn K cd58 "Place.pull" = true) (k58 : PySem.W.keepIn K (.ref f58) = true) (i58_ : PySem.W.isFn K (.ref f58) = true)
    (a59 : PySem.W.findIn K (.ref C3) "place" = some (some (.ref f59))) (l59 : K.lookup f59 = some ⟨oc59, od59, .func (PySem.W.fnOf "place" "Outlets.place" (defArgs s_Outlets_place) (defBody s_Outlets_place) (defScope s_Outlets_place) .none kV59 dc59 pm59 an59 cd59 ct59), sl59⟩) (c59 : PySem.W.codeIn K cd59 "Outlets.place" = true) (k59 : PySem.W.keepIn K (.ref f59) = true) (i59_ : PySem.W.isFn K (.ref f59) = true)
    (a60 : PySem.W.findIn K (.ref C4) "pull" = some (some (.ref f60))) (l60 : K.lookup f60 = some ⟨oc60, od60, .func (PySem.W.fnOf "pull" "Run.pull" (defArgs s_Run_pull) (defBody s_Run_pull) (defScope s_Run_pull) .none kV60 dc60 pm60 an60 cd60 ct60), sl60⟩) (c60 : PySem.W.codeIn K cd60 "Run.pull" = true) (k60 : PySem.W.keepIn K (.ref f60) = true) (i60_ : PySem.W.isFn K (.ref f60) = true)
    (a61 : PySem.W.nsIn K mainGlobals "_law_given" = some (some (.ref f61))) (l61 : K.lookup f61 = some ⟨oc61, od61, .func (PySem.W.fnOf "_law_given" "_law_given" (defArgs s__law_given) (defBody s__law_given) (defScope s__law_given) .none kV61 dc61 pm61 an61 cd61 ct61), sl61⟩) (c61 : PySem.W.codeIn K cd61 "_law_given" = true) (k61 : PySem.W.keepIn K (.ref f61) = true)
    (a62 : PySem.W.nsIn K mainGlobals "_law_asks" = some (some (.ref f62))) (l62 : K.lookup f62 = some ⟨oc62, od62, .func (PySem.W.fnOf "_law_asks" "_law_asks" (defArgs s__law_asks) (defBody s__law_asks) (defScope s__law_asks) .none kV62 dc62 pm62 an62 cd62 ct62), sl62⟩) (c62 : PySem.W.codeIn K cd62 "_law_asks" = true) (k62 : PySem.W.keepIn K (.ref f62) = true)
    (a63 : PySem.W.nsIn K mainGlobals "law" = some (some (.ref f63))) (l63 : K.lookup f63 = some ⟨oc63, od63, .func (PySem.W.fnOf "law" "law" (defArgs s_law) (defBody s_law) (defScope s_law) .none kV63 dc63 pm63 an63 cd63 ct63), sl63⟩) (c63 : PySem.W.codeIn K cd63 "law" = true) (k63 : PySem.W.keepIn K (.ref f63) = true)
    (ds1 : PySem.W.nsIn K mainGlobals "STEPS" = some (some (.ref da1))) (dl1 : K.lookup da1 = some ⟨.type "dict", none, .dict es1 dn1, #[]⟩) (dk1 : PySem.W.KeysLit w.params es1.toList)
    (de1_1 : PySem.W.nsIn K da1 "source" = some (some (.ref f37)))
    (de1_2 : PySem.W.nsIn K da1 "map" = some (some (.ref f41)))
    (de1_3 : PySem.W.nsIn K da1 "keep" = some (some (.ref f44)))
    (de1_4 : PySem.W.nsIn K da1 "while" = some (some (.ref f45)))
    (de1_5 : PySem.W.nsIn K da1 "take" = some (some (.ref f46)))
    (de1_6 : PySem.W.nsIn K da1 "skip" = some (some (.ref f47)))
    (de1_7 : PySem.W.nsIn K da1 "group" = some (some (.ref f48)))
    (de1_8 : PySem.W.nsIn K da1 "window" = some (some (.ref f49)))
    (de1_9 : PySem.W.nsIn K da1 "fold" = some (some (.ref f51)))
    (de1_10 : PySem.W.nsIn K da1 "chain" = some (some (.ref f52)))
    (de1_11 : PySem.W.nsIn K da1 "pair" = some (some (.ref f54)))
    (de1_12 : PySem.W.nsIn K da1 "merge" = some (some (.ref f55)))
    (i1 : PySem.W.nsIn K mainGlobals "REST" = some (some (.int 1000003 t1)))
    (i2 : PySem.W.nsIn K mainGlobals "LONGEST" = some (some (.int 64 t2)))
    (i3 : PySem.W.nsIn K mainGlobals "MOST_LINES" = some (some (.int 24 t3)))
    (i4 : PySem.W.nsIn K mainGlobals "MOST_TAKEN" = some (some (.int 9999 t4)))
    (i5 : PySem.W.nsIn K mainGlobals "WIDEST" = some (some (.int 9 t5)))
    (s1 : PySem.W.nsIn K mainGlobals "NUMBER" = some (some (.str "number" ts1)))
    (z1 : PySem.W.nsIn K mainGlobals "all" = some none)
    (z2 : PySem.W.nsIn K mainGlobals "bool" = some none)
    (z3 : PySem.W.nsIn K mainGlobals "enumerate" = some none)
    (z4 : PySem.W.nsIn K mainGlobals "int" = some none)
    (z5 : PySem.W.nsIn K mainGlobals "isinstance" = some none)
    (z6 : PySem.W.nsIn K mainGlobals "len" = some none)
    (z7 : PySem.W.nsIn K mainGlobals "list" = some none)
    (z8 : PySem.W.nsIn K mainGlobals "max" = some none)
    (z9 : PySem.W.nsIn K mainGlobals "min" = some none)
    (z10 : PySem.W.nsIn K mainGlobals "range" = some none)
    (z11 : PySem.W.nsIn K mainGlobals "sorted" = some none)
    (z12 : PySem.W.nsIn K mainGlobals "str" = some none)
    (z13 : PySem.W.nsIn K mainGlobals "sum" = some none)
    (z14 : PySem.W.nsIn K mainGlobals "super" = some none)
    (z15 : PySem.W.nsIn K mainGlobals "tuple" = some none) :
    ∃ T : Tx P K w mg, T.law.f = f63 ∧ ∀ (s : Shared) (v : Value), BindsTo s T.law.fd ⟨[v], []⟩ [("_law_script", v)] := by
  have F1 := fun_mk (st := s__law_dice) l1 c1 k1
  have b1 := F1.binds (ps := ["_law_script"]) fun _ _ _ _ _ _ us hl => match us, hl with | [_], _ => rfl
  have F2 := fun_mk (st := s__law_next) l2 c2 k2
  have b2 := F2.binds (ps := ["_law_dice_here", "_law_many"]) fun _ _ _ _ _ _ us hl => match us, hl with | [_, _], _ => rfl
  have F3 := fun_mk (st := s_kind_done) l3 c3 k3
  have b3 := F3.binds (ps := ["word", "kind"]) fun _ _ _ _ _ _ us hl => match us, hl with | [_, _], _ => rfl
  have F4 := fun_mk (st := s_kind_made) l4 c4 k4
  have b4 := F4.binds (ps := ["deeds", "kind"]) fun _ _ _ _ _ _ us hl => match us, hl with | [_, _], _ => rfl
  have F5 := fun_mk (st := s_kind_of) l5 c5 k5
  have b5 := F5.binds (ps := ["line", "kinds"]) fun _ _ _ _ _ _ us hl => match us, hl with | [_, _], _ => rfl
  have F6 := fun_mk (st := s_named) l6 c6 k6
  have b6 := F6.binds (ps := ["line"]) fun _ _ _ _ _ _ us hl => match us, hl with | [_], _ => rfl
  have F7 := fun_mk (st := s_place_can_be) l7 c7 k7
  have b7 := F7.binds (ps := ["line", "at", "many", "sources"]) fun _ _ _ _ _ _ us hl => match us, hl with | [_, _, _, _], _ => rfl
  have F8 := fun_mk (st := s_is_number) l8 c8 k8
  have b8 := F8.binds (ps := ["number"]) fun _ _ _ _ _ _ us hl => match us, hl with | [_], _ => rfl
  have F9 := fun_mk (st := s_deeds_can_be) l9 c9 k9
  have b9 := F9.binds (ps := ["deeds"]) fun _ _ _ _ _ _ us hl => match us, hl with | [_], _ => rfl
  have F10 := fun_mk (st := s_test_can_be) l10 c10 k10
  have b10 := F10.binds (ps := ["test"]) fun _ _ _ _ _ _ us hl => match us, hl with | [_], _ => rfl
  have F11 := fun_mk (st := s_tests_can_be) l11 c11 k11
  have b11 := F11.binds (ps := ["tests"]) fun _ _ _ _ _ _ us hl => match us, hl with | [_], _ => rfl
  have F12 := fun_mk (st := s_numbers_can_be) l12 c12 k12
  have b12 := F12.binds (ps := ["line"]) fun _ _ _ _ _ _ us hl => match us, hl with | [_], _ => rfl
  have F13 := fun_mk (st := s_looked) l13 c13 k13
  have b13 := F13.binds (ps := ["weave", "many"]) fun _ _ _ _ _ _ us hl => match us, hl with | [_, _], _ => rfl
  have F14 := fun_mk (st := s_Sources___init__) l14 c14 k14
  have b14 := F14.binds (ps := ["self", "many"]) fun _ _ _ _ _ _ us hl => match us, hl with | [_, _], _ => rfl
  have b15 : Binds K (PySem.W.fnX "__init__" "ListedSources.__init__" (defArgs s_ListedSources___init__) (defBody s_ListedSources___init__) (defScope s_ListedSources___init__) [("__class__", cq15)] .none kV15 dc15 pm15 an15 (.ref cw15) ct15) ["self", "lists"] [] := .all fun us hl => match us, hl with | [_, _], _ => rfl
  have F16 := fun_mk (st := s_outs_looked) l16 c16 k16
  have b16 := F16.binds (ps := ["weave", "outs"]) fun _ _ _ _ _ _ us hl => match us, hl with | [_, _], _ => rfl
  have F17 := fun_mk (st := s_Place___init__) l17 c17 k17
  have b17 := F17.binds (ps := ["self", "walk"]) fun _ _ _ _ _ _ us hl => match us, hl with | [_, _], _ => rfl
  have F18 := fun_mk (st := s_Walk___init__) l18 c18 k18
  have b18 := F18.binds (ps := ["self", "line", "places", "sources"]) fun _ _ _ _ _ _ us hl => match us, hl with | [_, _, _, _], _ => rfl
  have F19 := fun_mk (st := s_walks_of) l19 c19 k19
  have b19 := F19.binds (ps := ["weave", "sources"]) fun _ _ _ _ _ _ us hl => match us, hl with | [_, _], _ => rfl
  have F20 := fun_mk (st := s_Sources_leave_unnamed) l20 c20 k20
  have b20 := F20.binds (ps := ["self", "by_lines"]) fun _ _ _ _ _ _ us hl => match us, hl with | [_, _], _ => rfl
  have F21 := fun_mk (st := s_Place_leave) l21 c21 k21
  have b21 := F21.binds (ps := ["self"]) fun _ _ _ _ _ _ us hl => match us, hl with | [_], _ => rfl
  have F22 := fun_mk (st := s_Sources_leave) l22 c22 k22
  have b22 := F22.binds (ps := ["self", "k"]) fun _ _ _ _ _ _ us hl => match us, hl with | [_, _], _ => rfl
  have F23 := fun_mk (st := s_Walk_let_go) l23 c23 k23
  have b23 := F23.binds (ps := ["self"]) fun _ _ _ _ _ _ us hl => match us, hl with | [_], _ => rfl
  have F24 := fun_mk (st := s_Outlets___init__) l24 c24 k24
  have b24 := F24.binds (ps := ["self", "weave", "outs", "sources"]) fun _ _ _ _ _ _ us hl => match us, hl with | [_, _, _, _], _ => rfl
  have F25 := fun_mk (st := s_Run___init__) l25 c25 k25
  have b25 := F25.binds (ps := ["self", "weave", "outs", "lists"]) fun _ _ _ _ _ _ us hl => match us, hl with | [_, _, _, _], _ => rfl
  have F26 := fun_mk (st := s__law_merged) l26 c26 k26
  have b26 := F26.binds (ps := ["_law_ones", "_law_others"]) fun _ _ _ _ _ _ us hl => match us, hl with | [_, _], _ => rfl
  have F27 := fun_mk (st := s__law_grouped) l27 c27 k27
  have b27 := F27.binds (ps := ["_law_by", "_law_items"]) fun _ _ _ _ _ _ us hl => match us, hl with | [_, _], _ => rfl
  have F28 := fun_mk (st := s__law_all_done) l28 c28 k28
  have b28 := F28.binds (ps := ["_law_deeds", "_law_item"]) fun _ _ _ _ _ _ us hl => match us, hl with | [_, _], _ => rfl
  have F29 := fun_mk (st := s__law_folded) l29 c29 k29
  have b29 := F29.binds (ps := ["_law_word", "_law_one", "_law_other"]) fun _ _ _ _ _ _ us hl => match us, hl with | [_, _, _], _ => rfl
  have F30 := fun_mk (st := s__law_met) l30 c30 k30
  have b30 := F30.binds (ps := ["_law_tests", "_law_number_here"]) fun _ _ _ _ _ _ us hl => match us, hl with | [_, _], _ => rfl
  have F31 := fun_mk (st := s__law_list) l31 c31 k31
  have b31 := F31.binds (ps := ["_law_line", "_law_made", "_law_lists"]) fun _ _ _ _ _ _ us hl => match us, hl with | [_, _, _], _ => rfl
  have F32 := fun_mk (st := s__law_plain) l32 c32 k32
  have b32 := F32.binds (ps := ["_law_weave", "_law_lists"]) fun _ _ _ _ _ _ us hl => match us, hl with | [_, _], _ => rfl
  have F33 := fun_mk (st := s_Run_asked) l33 c33 k33
  have b33 := F33.binds (ps := ["self"]) fun _ _ _ _ _ _ us hl => match us, hl with | [_], _ => rfl
  have F34 := fun_mk (st := s__law_number) l34 c34 k34
  have b34 := F34.binds (ps := ["_law_d"]) fun _ _ _ _ _ _ us hl => match us, hl with | [_], _ => rfl
  have F35 := fun_mk (st := s__law_like) l35 c35 k35
  have b35 := F35.binds (ps := ["_law_found", "_law_due"]) fun _ _ _ _ _ _ us hl => match us, hl with | [_, _], _ => rfl
  have F36 := fun_mk (st := s_ListedSources_ask) l36 c36 k36
  have b36 := F36.binds (ps := ["self", "k"]) fun _ _ _ _ _ _ us hl => match us, hl with | [_, _], _ => rfl
  have F37 := fun_mk (st := s_asked) l37 c37 k37
  have b37 := F37.binds (ps := ["walk"]) fun _ _ _ _ _ _ us hl => match us, hl with | [_], _ => rfl
  have F38 := fun_mk (st := s_Walk_pulled) l38 c38 k38
  have b38 := F38.binds (ps := ["self", "side"]) fun _ _ _ _ _ _ us hl => match us, hl with | [_, _], _ => rfl
  have F39 := fun_mk (st := s_done) l39 c39 k39
  have b39 := F39.binds (ps := ["deed", "item"]) fun _ _ _ _ _ _ us hl => match us, hl with | [_, _], _ => rfl
  have F40 := fun_mk (st := s_all_done) l40 c40 k40
  have b40 := F40.binds (ps := ["deeds", "item"]) fun _ _ _ _ _ _ us hl => match us, hl with | [_, _], _ => rfl
  have F41 := fun_mk (st := s_mapped) l41 c41 k41
  have b41 := F41.binds (ps := ["walk"]) fun _ _ _ _ _ _ us hl => match us, hl with | [_], _ => rfl
  have F42 := fun_mk (st := s_holds) l42 c42 k42
  have b42 := F42.binds (ps := ["test", "number"]) fun _ _ _ _ _ _ us hl => match us, hl with | [_, _], _ => rfl
  have F43 := fun_mk (st := s_all_hold) l43 c43 k43
  have b43 := F43.binds (ps := ["tests", "number"]) fun _ _ _ _ _ _ us hl => match us, hl with | [_, _], _ => rfl
  have F44 := fun_mk (st := s_kept) l44 c44 k44
  have b44 := F44.binds (ps := ["walk"]) fun _ _ _ _ _ _ us hl => match us, hl with | [_], _ => rfl
  have F45 := fun_mk (st := s_ahead_of_failing) l45 c45 k45
  have b45 := F45.binds (ps := ["walk"]) fun _ _ _ _ _ _ us hl => match us, hl with | [_], _ => rfl
  have F46 := fun_mk (st := s_taken) l46 c46 k46
  have b46 := F46.binds (ps := ["walk"]) fun _ _ _ _ _ _ us hl => match us, hl with | [_], _ => rfl
  have F47 := fun_mk (st := s_behind_skipped) l47 c47 k47
  have b47 := F47.binds (ps := ["walk"]) fun _ _ _ _ _ _ us hl => match us, hl with | [_], _ => rfl
  have F48 := fun_mk (st := s_grouped) l48 c48 k48
  have b48 := F48.binds (ps := ["walk"]) fun _ _ _ _ _ _ us hl => match us, hl with | [_], _ => rfl
  have F49 := fun_mk (st := s_windowed) l49 c49 k49
  have b49 := F49.binds (ps := ["walk"]) fun _ _ _ _ _ _ us hl => match us, hl with | [_], _ => rfl
  have F50 := fun_mk (st := s_folded) l50 c50 k50
  have b50 := F50.binds (ps := ["word", "one", "other"]) fun _ _ _ _ _ _ us hl => match us, hl with | [_, _, _], _ => rfl
  have F51 := fun_mk (st := s_folded_on) l51 c51 k51
  have b51 := F51.binds (ps := ["walk"]) fun _ _ _ _ _ _ us hl => match us, hl with | [_], _ => rfl
  have F52 := fun_mk (st := s_chained) l52 c52 k52
  have b52 := F52.binds (ps := ["walk"]) fun _ _ _ _ _ _ us hl => match us, hl with | [_], _ => rfl
  have F53 := fun_mk (st := s_Walk_holding) l53 c53 k53
  have b53 := F53.binds (ps := ["self", "side"]) fun _ _ _ _ _ _ us hl => match us, hl with | [_, _], _ => rfl
  have F54 := fun_mk (st := s_paired) l54 c54 k54
  have b54 := F54.binds (ps := ["walk"]) fun _ _ _ _ _ _ us hl => match us, hl with | [_], _ => rfl
  have F55 := fun_mk (st := s_merged) l55 c55 k55
  have b55 := F55.binds (ps := ["walk"]) fun _ _ _ _ _ _ us hl => match us, hl with | [_], _ => rfl
  have F56 := fun_mk (st := s_next_item) l56 c56 k56
  have b56 := F56.binds (ps := ["walk"]) fun _ _ _ _ _ _ us hl => match us, hl with | [_], _ => rfl
  have F57 := fun_mk (st := s_Walk_make) l57 c57 k57
  have b57 := F57.binds (ps := ["self"]) fun _ _ _ _ _ _ us hl => match us, hl with | [_], _ => rfl
  have F58 := fun_mk (st := s_Place_pull) l58 c58 k58
  have b58 := F58.binds (ps := ["self"]) fun _ _ _ _ _ _ us hl => match us, hl with | [_], _ => rfl
  have F59 := fun_mk (st := s_Outlets_place) l59 c59 k59
  have b59 := F59.binds (ps := ["self", "j"]) fun _ _ _ _ _ _ us hl => match us, hl with | [_, _], _ => rfl
  have F60 := fun_mk (st := s_Run_pull) l60 c60 k60
  have b60 := F60.binds (ps := ["self", "j"]) fun _ _ _ _ _ _ us hl => match us, hl with | [_, _], _ => rfl
  have F61 := fun_mk (st := s__law_given) l61 c61 k61
  have b61 := F61.binds (ps := ["_law_line", "_law_ones", "_law_others"]) fun _ _ _ _ _ _ us hl => match us, hl with | [_, _, _], _ => rfl
  have F62 := fun_mk (st := s__law_asks) l62 c62 k62
  have b62 := F62.binds (ps := ["_law_line", "_law_lists", "_law_many"]) fun _ _ _ _ _ _ us hl => match us, hl with | [_, _, _], _ => rfl
  have F63 := fun_mk (st := s_law) l63 c63 k63
  have b63 := F63.binds (ps := ["_law_script"]) fun _ _ _ _ _ _ us hl => match us, hl with | [_], _ => rfl
  exact ⟨{
    k_Walk := ⟨C1, ⟨cb1, cc1, cp1, cs1⟩, PySem.W.mg_of X G ca1, cm1, ck1⟩
    n_Walk_line := cn1_1
    n_Walk_places := cn1_2
    n_Walk_sources := cn1_3
    n_Walk_made := cn1_4
    n_Walk_holders := cn1_5
    n_Walk_over := cn1_6
    n_Walk_loose := cn1_7
    n_Walk_stretch := cn1_8
    n_Walk_held := cn1_9
    k_Place := ⟨C2, ⟨cb2, cc2, cp2, cs2⟩, PySem.W.mg_of X G ca2, cm2, ck2⟩
    n_Place_walk := cn2_1
    n_Place_at := cn2_2
    k_Outlets := ⟨C3, ⟨cb3, cc3, cp3, cs3⟩, PySem.W.mg_of X G ca3, cm3, ck3⟩
    n_Outlets_outs := cn3_1
    k_Run := ⟨C4, ⟨cb4, cc4, cp4, cs4⟩, PySem.W.mg_of X G ca4, cm4, ck4⟩
    n_Run_sources := cn4_1
    n_Run_outlets := cn4_2
    k_ListedSources := ⟨C5, ⟨cb5, cc5, cp5, cs5⟩, PySem.W.mg_of X G ca5, cm5, ck5⟩
    n_ListedSources_many := cn5_1
    n_ListedSources_left := cn5_2
    n_ListedSources_lists := cn5_3
    n_ListedSources_nexts := cn5_4
    n_ListedSources_asks := cn5_5
    _law_dice := ⟨f1, _, F1, b1, PySem.W.mg_of X G a1⟩
    _law_next := ⟨f2, _, F2, b2, PySem.W.mg_of X G a2⟩
    kind_done := ⟨f3, _, F3, b3, PySem.W.mg_of X G a3⟩
    kind_made := ⟨f4, _, F4, b4, PySem.W.mg_of X G a4⟩
    kind_of := ⟨f5, _, F5, b5, PySem.W.mg_of X G a5⟩
    named := ⟨f6, _, F6, b6, PySem.W.mg_of X G a6⟩
    place_can_be := ⟨f7, _, F7, b7, PySem.W.mg_of X G a7⟩
    is_number := ⟨f8, _, F8, b8, PySem.W.mg_of X G a8⟩
    deeds_can_be := ⟨f9, _, F9, b9, PySem.W.mg_of X G a9⟩
    test_can_be := ⟨f10, _, F10, b10, PySem.W.mg_of X G a10⟩
    tests_can_be := ⟨f11, _, F11, b11, PySem.W.mg_of X G a11⟩
    numbers_can_be := ⟨f12, _, F12, b12, PySem.W.mg_of X G a12⟩
    looked := ⟨f13, _, F13, b13, PySem.W.mg_of X G a13⟩
    Sources___init__ := ⟨f14, _, F14, b14⟩
    ListedSources___init__ := ⟨f15, cq15, cw15, _, ⟨⟨oc15, od15, .none, kV15, dc15, pm15, an15, ct15, sl15, l15, rfl⟩, c15, ⟨_, _, _, q15a⟩, ⟨_, _, _, _, _, _, q15b, q15c, q15d⟩, q15e, q15f, q15g, q15h, q15i, q15j, q15k⟩, b15, ⟨a15, i15_, k15⟩⟩
    outs_looked := ⟨f16, _, F16, b16, PySem.W.mg_of X G a16⟩
    Place___init__ := ⟨f17, _, F17, b17, ⟨a17, i17_, k17⟩⟩
    Walk___init__ := ⟨f18, _, F18, b18, ⟨a18, i18_, k18⟩⟩
    walks_of := ⟨f19, _, F19, b19, PySem.W.mg_of X G a19⟩
    Sources_leave_unnamed := ⟨f20, _, F20, b20, ⟨a20, i20_, k20⟩⟩
    Place_leave := ⟨f21, _, F21, b21, ⟨a21, i21_, k21⟩⟩
    Sources_leave := ⟨f22, _, F22, b22, ⟨a22, i22_, k22⟩⟩
    Walk_let_go := ⟨f23, _, F23, b23, ⟨a23, i23_, k23⟩⟩
    Outlets___init__ := ⟨f24, _, F24, b24, ⟨a24, i24_, k24⟩⟩
    Run___init__ := ⟨f25, _, F25, b25, ⟨a25, i25_, k25⟩⟩
    _law_merged := ⟨f26, _, F26, b26, PySem.W.mg_of X G a26⟩
    _law_grouped := ⟨f27, _, F27, b27, PySem.W.mg_of X G a27⟩
    _law_all_done := ⟨f28, _, F28, b28, PySem.W.mg_of X G a28⟩
    _law_folded := ⟨f29, _, F29, b29, PySem.W.mg_of X G a29⟩
    _law_met := ⟨f30, _, F30, b30, PySem.W.mg_of X G a30⟩
    _law_list := ⟨f31, _, F31, b31, PySem.W.mg_of X G a31⟩
    _law_plain := ⟨f32, _, F32, b32, PySem.W.mg_of X G a32⟩
    Run_asked := ⟨f33, _, F33, b33, ⟨a33, i33_, k33⟩⟩
    _law_number := ⟨f34, _, F34, b34, PySem.W.mg_of X G a34⟩
    _law_like := ⟨f35, _, F35, b35, PySem.W.mg_of X G a35⟩
    ListedSources_ask := ⟨f36, _, F36, b36, ⟨a36, i36_, k36⟩⟩
    asked := ⟨f37, _, F37, b37, PySem.W.mg_of X G a37⟩
    Walk_pulled := ⟨f38, _, F38, b38, ⟨a38, i38_, k38⟩⟩
    done := ⟨f39, _, F39, b39, PySem.W.mg_of X G a39⟩
    all_done := ⟨f40, _, F40, b40, PySem.W.mg_of X G a40⟩
    mapped := ⟨f41, _, F41, b41, PySem.W.mg_of X G a41⟩
    holds := ⟨f42, _, F42, b42, PySem.W.mg_of X G a42⟩
    all_hold := ⟨f43, _, F43, b43, PySem.W.mg_of X G a43⟩
    kept := ⟨f44, _, F44, b44, PySem.W.mg_of X G a44⟩
    ahead_of_failing := ⟨f45, _, F45, b45, PySem.W.mg_of X G a45⟩
    taken := ⟨f46, _, F46, b46, PySem.W.mg_of X G a46⟩
    behind_skipped := ⟨f47, _, F47, b47, PySem.W.mg_of X G a47⟩
    grouped := ⟨f48, _, F48, b48, PySem.W.mg_of X G a48⟩
    windowed := ⟨f49, _, F49, b49, PySem.W.mg_of X G a49⟩
    folded := ⟨f50, _, F50, b50, PySem.W.mg_of X G a50⟩
    folded_on := ⟨f51, _, F51, b51, PySem.W.mg_of X G a51⟩
    chained := ⟨f52, _, F52, b52, PySem.W.mg_of X G a52⟩
    Walk_holding := ⟨f53, _, F53, b53, ⟨a53, i53_, k53⟩⟩
    paired := ⟨f54, _, F54, b54, PySem.W.mg_of X G a54⟩
    merged := ⟨f55, _, F55, b55, PySem.W.mg_of X G a55⟩
    next_item := ⟨f56, _, F56, b56, PySem.W.mg_of X G a56⟩
    Walk_make := ⟨f57, _, F57, b57, ⟨a57, i57_, k57⟩⟩
    Place_pull := ⟨f58, _, F58, b58, ⟨a58, i58_, k58⟩⟩
    Outlets_place := ⟨f59, _, F59, b59, ⟨a59, i59_, k59⟩⟩
    Run_pull := ⟨f60, _, F60, b60, ⟨a60, i60_, k60⟩⟩
    _law_given := ⟨f61, _, F61, b61, PySem.W.mg_of X G a61⟩
    _law_asks := ⟨f62, _, F62, b62, PySem.W.mg_of X G a62⟩
    law := ⟨f63, _, F63, b63, PySem.W.mg_of X G a63⟩
    c_STEPS := ⟨da1, PySem.W.mg_of X G ds1, List.forall_mem_cons.mpr ⟨⟨es1, dn1, _, dl1, dk1, de1_1, rfl⟩, List.forall_mem_cons.mpr ⟨⟨es1, dn1, _, dl1, dk1, de1_2, rfl⟩, List.forall_mem_cons.mpr ⟨⟨es1, dn1, _, dl1, dk1, de1_3, rfl⟩, List.forall_mem_cons.mpr ⟨⟨es1, dn1, _, dl1, dk1, de1_4, rfl⟩, List.forall_mem_cons.mpr ⟨⟨es1, dn1, _, dl1, dk1, de1_5, rfl⟩, List.forall_mem_cons.mpr ⟨⟨es1, dn1, _, dl1, dk1, de1_6, rfl⟩, List.forall_mem_cons.mpr ⟨⟨es1, dn1, _, dl1, dk1, de1_7, rfl⟩, List.forall_mem_cons.mpr ⟨⟨es1, dn1, _, dl1, dk1, de1_8, rfl⟩, List.forall_mem_cons.mpr ⟨⟨es1, dn1, _, dl1, dk1, de1_9, rfl⟩, List.forall_mem_cons.mpr ⟨⟨es1, dn1, _, dl1, dk1, de1_10, rfl⟩, List.forall_mem_cons.mpr ⟨⟨es1, dn1, _, dl1, dk1, de1_11, rfl⟩, List.forall_mem_cons.mpr ⟨⟨es1, dn1, _, dl1, dk1, de1_12, rfl⟩, fun _ h => nomatch h⟩⟩⟩⟩⟩⟩⟩⟩⟩⟩⟩⟩⟩
    c_REST := ⟨t1, PySem.W.mg_of X G i1⟩
    c_LONGEST := ⟨t2, PySem.W.mg_of X G i2⟩
    c_MOST_LINES := ⟨t3, PySem.W.mg_of X G i3⟩
    c_MOST_TAKEN := ⟨t4, PySem.W.mg_of X G i4⟩
    c_WIDEST := ⟨t5, PySem.W.mg_of X G i5⟩
    c_NUMBER := ⟨ts1, PySem.W.mg_of X G s1⟩
    z_all := PySem.W.mg_none_of X G z1
    z_bool := PySem.W.mg_none_of X G z2
    z_enumerate := PySem.W.mg_none_of X G z3
    z_int := PySem.W.mg_none_of X G z4
    z_isinstance := PySem.W.mg_none_of X G z5
    z_len := PySem.W.mg_none_of X G z6
    z_list := PySem.W.mg_none_of X G z7
    z_max := PySem.W.mg_none_of X G z8
    z_min := PySem.W.mg_none_of X G z9
    z_range := PySem.W.mg_none_of X G z10
    z_sorted := PySem.W.mg_none_of X G z11
    z_str := PySem.W.mg_none_of X G z12
    z_sum := PySem.W.mg_none_of X G z13
    z_super := PySem.W.mg_none_of X G z14
    z_tuple := PySem.W.mg_none_of X G z15
  }, rfl, fun s v => .of_eq rfl⟩
theorem walk {l : PySem.W.OpenLaw} {q : Program} {loose : List Str} {XP : (Str → Option Value) → Heap → Prop} {YP : World → Heap → Prop} {d : DefRec} {K : Params → PySem.W.Frag} (hn : l.most = some 63) (hdf : d.params.defaults = [])
    (hY : ∀ (w : World) (h : Heap), YP w h → (K w.params).In h) (hname : d.name = "law")
    (F : ∀ (w : World) (mg : Str → Option Value) (h : Heap), (K w.params).In h → h.Ns mainGlobals mg → ∃ (f : Addr) (T : Tx l.prog (K w.params) w mg), T.law.f = f ∧ ∀ (s : Shared) (v : Value), BindsTo s T.law.fd ⟨[v], []⟩ [("_law_script", v)]) :
    PySem.W.WalkO q loose XP YP l.row.toRowW d [] (fun f vs => PySem.call f vs) := by
  refine L2.walk_of (n := 63) (k := 222) (x := "_law_script") (CX := fun _ => CX0) (sp := fun w => spLaw (K w.params)) hn (by decide) hdf ⟨rfl, by decide, by decide⟩ hY (fun w mg fa h KX G hmg => ?_) (fun _ _ a ns hl hO hS => ⟨a, ns, rfl, fz_of hO hS, hl, fun _ => rfl⟩) fun _ _ _ _ _ z => z
  obtain ⟨f, T, hT, hb⟩ := F w mg h KX G
  have e1 : f = fa := by
    have g := T.law.g
    rw [hname] at hmg
    rw [hT, hmg] at g
    cases g; rfl
  subst e1
  subst hT
  exact ⟨T.law.fd, hb, fun base _ _ => ok_law T⟩
end
end Wv
open PySem PySem.W PyProof.Rows
set_option maxRecDepth 100000 in
set_option maxHeartbeats 0 in
theorem PySem.Challenge.cw_weavepull_k06_two_lines_pulled_holds : PySem.Challenge.rw_weavepull_k06_two_lines_pulled.Holds := by
  w_on; o_law; k_head; (case hw => w_witness2)
  k_fill
  refine Wv.walk (l := PySem.Challenge.rw_weavepull_k06_two_lines_pulled) rfl rfl (fun w h Y => PySem.W.kIn_of Y) rfl ?F
  case F =>
    intro w mg h KX G
    refine' ⟨_, Wv.tx_mk (w := w) KX G ?ca1 ?cb1 ?cc1 ?cp1 ?cs1 ?cm1 ?ck1 ?cn1_1 ?cn1_2 ?cn1_3 ?cn1_4 ?cn1_5 ?cn1_6 ?cn1_7 ?cn1_8 ?cn1_9 ?ca2 ?cb2 ?cc2 ?cp2 ?cs2 ?cm2 ?ck2 ?cn2_1 ?cn2_2 ?ca3 ?cb3 ?cc3 ?cp3 ?cs3 ?cm3 ?ck3 ?cn3_1 ?ca4 ?cb4 ?cc4 ?cp4 ?cs4 ?cm4 ?ck4 ?cn4_1 ?cn4_2 ?ca5 ?cb5 ?cc5 ?cp5 ?cs5 ?cm5 ?ck5 ?cn5_1 ?cn5_2 ?cn5_3 ?cn5_4 ?cn5_5 ?a1 ?l1 ?c1 ?k1 ?a2 ?l2 ?c2 ?k2 ?a3 ?l3 ?c3 ?k3 ?a4 ?l4 ?c4 ?k4 ?a5 ?l5 ?c5 ?k5 ?a6 ?l6 ?c6 ?k6 ?a7 ?l7 ?c7 ?k7 ?a8 ?l8 ?c8 ?k8 ?a9 ?l9 ?c9 ?k9 ?a10 ?l10 ?c10 ?k10 ?a11 ?l11 ?c11 ?k11 ?a12 ?l12 ?c12 ?k12 ?a13 ?l13 ?c13 ?k13 ?l14 ?c14 ?k14 ?a15 ?l15 ?c15 ?k15 ?i15_ ?q15a ?q15b ?q15c ?q15d ?q15e ?q15f ?q15g ?q15h ?q15i ?q15j ?q15k ?a16 ?l16 ?c16 ?k16 ?a17 ?l17 ?c17 ?k17 ?i17_ ?a18 ?l18 ?c18 ?k18 ?i18_ ?a19 ?l19 ?c19 ?k19 ?a20 ?l20 ?c20 ?k20 ?i20_ ?a21 ?l21 ?c21 ?k21 ?i21_ ?a22 ?l22 ?c22 ?k22 ?i22_ ?a23 ?l23 ?c23 ?k23 ?i23_ ?a24 ?l24 ?c24 ?k24 ?i24_ ?a25 ?l25 ?c25 ?k25 ?i25_ ?a26 ?l26 ?c26 ?k26 ?a27 ?l27 ?c27 ?k27 ?a28 ?l28 ?c28 ?k28 ?a29 ?l29 ?c29 ?k29 ?a30 ?l30 ?c30 ?k30 ?a31 ?l31 ?c31 ?k31 ?a32 ?l32 ?c32 ?k32 ?a33 ?l33 ?c33 ?k33 ?i33_ ?a34 ?l34 ?c34 ?k34 ?a35 ?l35 ?c35 ?k35 ?a36 ?l36 ?c36 ?k36 ?i36_ ?a37 ?l37 ?c37 ?k37 ?a38 ?l38 ?c38 ?k38 ?i38_ ?a39 ?l39 ?c39 ?k39 ?a40 ?l40 ?c40 ?k40 ?a41 ?l41 ?c41 ?k41 ?a42 ?l42 ?c42 ?k42 ?a43 ?l43 ?c43 ?k43 ?a44 ?l44 ?c44 ?k44 ?a45 ?l45 ?c45 ?k45 ?a46 ?l46 ?c46 ?k46 ?a47 ?l47 ?c47 ?k47 ?a48 ?l48 ?c48 ?k48 ?a49 ?l49 ?c49 ?k49 ?a50 ?l50 ?c50 ?k50 ?a51 ?l51 ?c51 ?k51 ?a52 ?l52 ?c52 ?k52 ?a53 ?l53 ?c53 ?k53 ?i53_ ?a54 ?l54 ?c54 ?k54 ?a55 ?l55 ?c55 ?k55 ?a56 ?l56 ?c56 ?k56 ?a57 ?l57 ?c57 ?k57 ?i57_ ?a58 ?l58 ?c58 ?k58 ?i58_ ?a59 ?l59 ?c59 ?k59 ?i59_ ?a60 ?l60 ?c60 ?k60 ?i60_ ?a61 ?l61 ?c61 ?k61 ?a62 ?l62 ?c62 ?k62 ?a63 ?l63 ?c63 ?k63 ?ds1 ?dl1 ?dk1 ?de1_1 ?de1_2 ?de1_3 ?de1_4 ?de1_5 ?de1_6 ?de1_7 ?de1_8 ?de1_9 ?de1_10 ?de1_11 ?de1_12 ?i1 ?i2 ?i3 ?i4 ?i5 ?s1 ?z1 ?z2 ?z3 ?z4 ?z5 ?z6 ?z7 ?z8 ?z9 ?z10 ?z11 ?z12 ?z13 ?z14 ?z15⟩
    (case ca1 => k_is)
    (case cb1 => k_is)
    (case cc1 => k_is)
    (case cp1 => k_is)
    (case cs1 => k_is)
    (case cm1 => k_is)
    (case ck1 => k_is)
    (case cn1_1 => k_is)
    (case cn1_2 => k_is)
    (case cn1_3 => k_is)
    (case cn1_4 => k_is)
    (case cn1_5 => k_is)
    (case cn1_6 => k_is)
    (case cn1_7 => k_is)
    (case cn1_8 => k_is)
    (case cn1_9 => k_is)
    (case ca2 => k_is)
    (case cb2 => k_is)
    (case cc2 => k_is)
    (case cp2 => k_is)
    (case cs2 => k_is)
    (case cm2 => k_is)
    (case ck2 => k_is)
    (case cn2_1 => k_is)
    (case cn2_2 => k_is)
    (case ca3 => k_is)
    (case cb3 => k_is)
    (case cc3 => k_is)
    (case cp3 => k_is)
    (case cs3 => k_is)
    (case cm3 => k_is)
    (case ck3 => k_is)
    (case cn3_1 => k_is)
    (case ca4 => k_is)
    (case cb4 => k_is)
    (case cc4 => k_is)
    (case cp4 => k_is)
    (case cs4 => k_is)
    (case cm4 => k_is)
    (case ck4 => k_is)
    (case cn4_1 => k_is)
    (case cn4_2 => k_is)
    (case ca5 => k_is)
    (case cb5 => k_is)
    (case cc5 => k_is)
    (case cp5 => k_is)
    (case cs5 => k_is)
    (case cm5 => k_is)
    (case ck5 => k_is)
    (case cn5_1 => k_is)
    (case cn5_2 => k_is)
    (case cn5_3 => k_is)
    (case cn5_4 => k_is)
    (case cn5_5 => k_is)
    (case q15i => ks_is)
    (case a1 => k_is)
    (case l1 => k_is)
    (case c1 => k_is)
    (case k1 => k_is)
    (case a2 => k_is)
    (case l2 => k_is)
    (case c2 => k_is)
    (case k2 => k_is)
    (case a3 => k_is)
    (case l3 => k_is)
    (case c3 => k_is)
    (case k3 => k_is)
    (case a4 => k_is)
    (case l4 => k_is)
    (case c4 => k_is)
    (case k4 => k_is)
    (case a5 => k_is)
    (case l5 => k_is)
    (case c5 => k_is)
    (case k5 => k_is)
    (case a6 => k_is)
    (case l6 => k_is)
    (case c6 => k_is)
    (case k6 => k_is)
    (case a7 => k_is)
    (case l7 => k_is)
    (case c7 => k_is)
    (case k7 => k_is)
    (case a8 => k_is)
    (case l8 => k_is)
    (case c8 => k_is)
    (case k8 => k_is)
    (case a9 => k_is)
    (case l9 => k_is)
    (case c9 => k_is)
    (case k9 => k_is)
    (case a10 => k_is)
    (case l10 => k_is)
    (case c10 => k_is)
    (case k10 => k_is)
    (case a11 => k_is)
    (case l11 => k_is)
    (case c11 => k_is)
    (case k11 => k_is)
    (case a12 => k_is)
    (case l12 => k_is)
    (case c12 => k_is)
    (case k12 => k_is)
    (case a13 => k_is)
    (case l13 => k_is)
    (case c13 => k_is)
    (case k13 => k_is)
    (case l14 => k_is)
    (case c14 => k_is)
    (case k14 => k_is)
    (case a15 => k_is)
    (case l15 => k_is)
    (case c15 => k_is)
    (case k15 => k_is)
    (case i15_ => k_is)
    (case q15a => first | k_is | rfl | decide +kernel)
    (case q15b => first | k_is | rfl | decide +kernel)
    (case q15c => first | k_is | rfl | decide +kernel)
    (case q15d => first | k_is | rfl | decide +kernel)
    (case q15e => first | k_is | rfl | decide +kernel)
    (case q15f => first | k_is | rfl | decide +kernel)
    (case q15g => first | k_is | rfl | decide +kernel)
    (case q15h => first | k_is | rfl | decide +kernel)
    (case q15j => first | k_is | rfl | decide +kernel)
    (case q15k => first | k_is | rfl | decide +kernel)
    (case a16 => k_is)
    (case l16 => k_is)
    (case c16 => k_is)
    (case k16 => k_is)
    (case a17 => k_is)
    (case l17 => k_is)
    (case c17 => k_is)
    (case k17 => k_is)
    (case i17_ => k_is)
    (case a18 => k_is)
    (case l18 => k_is)
    (case c18 => k_is)
    (case k18 => k_is)
    (case i18_ => k_is)
    (case a19 => k_is)
    (case l19 => k_is)
    (case c19 => k_is)
    (case k19 => k_is)
    (case a20 => k_is)
    (case l20 => k_is)
    (case c20 => k_is)
    (case k20 => k_is)
    (case i20_ => k_is)
    (case a21 => k_is)
    (case l21 => k_is)
    (case c21 => k_is)
    (case k21 => k_is)
    (case i21_ => k_is)
    (case a22 => k_is)
    (case l22 => k_is)
    (case c22 => k_is)
    (case k22 => k_is)
    (case i22_ => k_is)
    (case a23 => k_is)
    (case l23 => k_is)
    (case c23 => k_is)
    (case k23 => k_is)
    (case i23_ => k_is)
    (case a24 => k_is)
    (case l24 => k_is)
    (case c24 => k_is)
    (case k24 => k_is)
    (case i24_ => k_is)
    (case a25 => k_is)
    (case l25 => k_is)
    (case c25 => k_is)
    (case k25 => k_is)
    (case i25_ => k_is)
    (case a26 => k_is)
    (case l26 => k_is)
    (case c26 => k_is)
    (case k26 => k_is)
    (case a27 => k_is)
    (case l27 => k_is)
    (case c27 => k_is)
    (case k27 => k_is)
    (case a28 => k_is)
    (case l28 => k_is)
    (case c28 => k_is)
    (case k28 => k_is)
    (case a29 => k_is)
    (case l29 => k_is)
    (case c29 => k_is)
    (case k29 => k_is)
    (case a30 => k_is)
    (case l30 => k_is)
    (case c30 => k_is)
    (case k30 => k_is)
    (case a31 => k_is)
    (case l31 => k_is)
    (case c31 => k_is)
    (case k31 => k_is)
    (case a32 => k_is)
    (case l32 => k_is)
    (case c32 => k_is)
    (case k32 => k_is)
    (case a33 => k_is)
    (case l33 => k_is)
    (case c33 => k_is)
    (case k33 => k_is)
    (case i33_ => k_is)
    (case a34 => k_is)
    (case l34 => k_is)
    (case c34 => k_is)
    (case k34 => k_is)
    (case a35 => k_is)
    (case l35 => k_is)
    (case c35 => k_is)
    (case k35 => k_is)
    (case a36 => k_is)
    (case l36 => k_is)
    (case c36 => k_is)
    (case k36 => k_is)
    (case i36_ => k_is)
    (case a37 => k_is)
    (case l37 => k_is)
    (case c37 => k_is)
    (case k37 => k_is)
    (case a38 => k_is)
    (case l38 => k_is)
    (case c38 => k_is)
    (case k38 => k_is)
    (case i38_ => k_is)
    (case a39 => k_is)
    (case l39 => k_is)
    (case c39 => k_is)
    (case k39 => k_is)
    (case a40 => k_is)
    (case l40 => k_is)
    (case c40 => k_is)
    (case k40 => k_is)
    (case a41 => k_is)
    (case l41 => k_is)
    (case c41 => k_is)
    (case k41 => k_is)
    (case a42 => k_is)
    (case l42 => k_is)
    (case c42 => k_is)
    (case k42 => k_is)
    (case a43 => k_is)
    (case l43 => k_is)
    (case c43 => k_is)
    (case k43 => k_is)
    (case a44 => k_is)
    (case l44 => k_is)
    (case c44 => k_is)
    (case k44 => k_is)
    (case a45 => k_is)
    (case l45 => k_is)
    (case c45 => k_is)
    (case k45 => k_is)
    (case a46 => k_is)
    (case l46 => k_is)
    (case c46 => k_is)
    (case k46 => k_is)
    (case a47 => k_is)
    (case l47 => k_is)
    (case c47 => k_is)
    (case k47 => k_is)
    (case a48 => k_is)
    (case l48 => k_is)
    (case c48 => k_is)
    (case k48 => k_is)
    (case a49 => k_is)
    (case l49 => k_is)
    (case c49 => k_is)
    (case k49 => k_is)
    (case a50 => k_is)
    (case l50 => k_is)
    (case c50 => k_is)
    (case k50 => k_is)
    (case a51 => k_is)
    (case l51 => k_is)
    (case c51 => k_is)
    (case k51 => k_is)
    (case a52 => k_is)
    (case l52 => k_is)
    (case c52 => k_is)
    (case k52 => k_is)
    (case a53 => k_is)
    (case l53 => k_is)
    (case c53 => k_is)
    (case k53 => k_is)
    (case i53_ => k_is)
    (case a54 => k_is)
    (case l54 => k_is)
    (case c54 => k_is)
    (case k54 => k_is)
    (case a55 => k_is)
    (case l55 => k_is)
    (case c55 => k_is)
    (case k55 => k_is)
    (case a56 => k_is)
    (case l56 => k_is)
    (case c56 => k_is)
    (case k56 => k_is)
    (case a57 => k_is)
    (case l57 => k_is)
    (case c57 => k_is)
    (case k57 => k_is)
    (case i57_ => k_is)
    (case a58 => k_is)
    (case l58 => k_is)
    (case c58 => k_is)
    (case k58 => k_is)
    (case i58_ => k_is)
    (case a59 => k_is)
    (case l59 => k_is)
    (case c59 => k_is)
    (case k59 => k_is)
    (case i59_ => k_is)
    (case a60 => k_is)
    (case l60 => k_is)
    (case c60 => k_is)
    (case k60 => k_is)
    (case i60_ => k_is)
    (case a61 => k_is)
    (case l61 => k_is)
    (case c61 => k_is)
    (case k61 => k_is)
    (case a62 => k_is)
    (case l62 => k_is)
    (case c62 => k_is)
    (case k62 => k_is)
    (case a63 => k_is)
    (case l63 => k_is)
    (case c63 => k_is)
    (case k63 => k_is)
    (case ds1 => k_is)
    (case dl1 => k_is)
    (case dk1 => k_keys)
    (case de1_1 => k_is)
    (case de1_2 => k_is)
    (case de1_3 => k_is)
    (case de1_4 => k_is)
    (case de1_5 => k_is)
    (case de1_6 => k_is)
    (case de1_7 => k_is)
    (case de1_8 => k_is)
    (case de1_9 => k_is)
    (case de1_10 => k_is)
    (case de1_11 => k_is)
    (case de1_12 => k_is)
    (case i1 => k_is)
    (case i2 => k_is)
    (case i3 => k_is)
    (case i4 => k_is)
    (case i5 => k_is)
    (case s1 => k_is)
    (case z1 => k_is)
    (case z2 => k_is)
    (case z3 => k_is)
    (case z4 => k_is)
    (case z5 => k_is)
    (case z6 => k_is)
    (case z7 => k_is)
    (case z8 => k_is)
    (case z9 => k_is)
    (case z10 => k_is)
    (case z11 => k_is)
    (case z12 => k_is)
    (case z13 => k_is)
    (case z14 => k_is)
    (case z15 => k_is)
