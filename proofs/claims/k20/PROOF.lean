import PyProof.Rows.All
import Wide.All
import OpenK.AllK
import Wide.FinOn
import HandS.ForMost
import HandS.IsInst
import HandS.TupAny
import HandS.Deep
import PyProof.ReprNest
import PyProof.ReprRoads
import HandS.FStrTup
import HandS.RaiseMore
import HandS.FStr
import HandS.StrMore
import HandS.Star
import HandS.Codes
import HandS.Text
import HandS.Nested
import HandS.ClsMeth
import KE.RegKSuper
import HandS.ExcInit
import KE.KExcSuper
import HandS.HotCalls
import HandS.ExcCtx
import HandS.ExcField
import HandS.ExcIs
import HandS.ExcOwn
import KE.KExcIs
import PySem.Challenge.RW_weavepull_k20_read_or_refused
set_option Elab.async false
set_option linter.all false
set_option maxRecDepth 100000
set_option maxHeartbeats 4000000
namespace Wv
open PySem PySem.Spec PyProof.Rows L2
/-! ### what the top has -/
structure At (K : PySem.W.Frag) (mg : Str → Option Value) (x : Str) (st : Stmt) (ps : List Str) where
  f : Addr
  fd : FuncData
  F : Fun K x x st f fd
  b : Binds K fd ps []
  g : mg x = some (.ref f)
structure IntAt (mg : Str → Option Value) (x : Str) (n : Int) where
  t : Tok
  g : mg x = some (.int n t)
structure StrAt (mg : Str → Option Value) (x : Str) (n : Str) where
  t : Tok
  g : mg x = some (.str n t)
theorem dec_vint {a b : Int} : decide (V.int a = V.int b) = decide (a = b) := by
  by_cases h : a = b
  · subst h; rw [decide_eq_true rfl, decide_eq_true rfl]
  · rw [decide_eq_false h, decide_eq_false]
    intro z
    injection z with z
    exact h z
theorem dv_f {a b : Int} (h : ¬ a = b) : decide (V.int a = V.int b) = false := by rw [dec_vint]; exact decide_eq_false h
theorem dv_t {a b : Int} (h : a = b) : decide (V.int a = V.int b) = true := by rw [dec_vint]; exact decide_eq_true h
theorem isProp {p : Prop} (h : p) : p := h
theorem posOf {x : Int} (h : (0 : Int) < x) : (0 : Int) < x := h
/-! ### a word that the walk does not open -/
inductive Hold (p : Prop) : Prop where
  | mk (h : p)
  | no (h : False)
theorem Hold.out {p : Prop} : Hold p → p
  | .mk h => h
  | .no h => h.elim
/-! ### tests whose answer is known -/
theorem ite_f {b : Bool} {A B : Prop} (h : b = false) (q : B) : if b = true then A else B := by
  subst h; exact iteF q
theorem ite_t {b : Bool} {A B : Prop} (h : b = true) (q : A) : if b = true then A else B := by
  subst h; exact iteT q
theorem ite_d {c : Prop} [Decidable c] {A B : Prop} (h1 : c → A) (h2 : ¬ c → B) : if decide c = true then A else B := by
  by_cases h : c
  · exact ite_t (decide_eq_true h) (h1 h)
  · exact ite_f (decide_eq_false h) (h2 h)
theorem ite_nd {c : Prop} [Decidable c] {A B : Prop} (h1 : ¬ c → A) (h2 : c → B) : if (!decide c) = true then A else B := by
  by_cases h : c
  · exact ite_f (by rw [decide_eq_true h]; rfl) (h2 h)
  · exact ite_t (by rw [decide_eq_false h]; rfl) (h1 h)
/-! ### data that never changes -/
mutual
inductive Im (K : PySem.W.Frag) (H : Hp) : V → PyData → Prop
  | non : Im K H .non .none
  | bl (b : Bool) : Im K H (.bl b) (.bool b)
  | int (i : Int) : Im K H (.int i) (.int i)
  | str (x : Str) : Im K H (.str x) (.str x)
  | tup {a : Addr} {xs : List V} {ds : List PyData} : SqT K H a xs → Ims K H xs ds → Im K H (.ref a) (.tuple ds)
inductive Ims (K : PySem.W.Frag) (H : Hp) : List V → List PyData → Prop
  | nil : Ims K H [] []
  | cons {v : V} {vs : List V} {d : PyData} {ds : List PyData} : Im K H v d → Ims K H vs ds → Ims K H (v :: vs) (d :: ds)
end
/-- the script: a list that nobody writes -/
def Fz (K : PySem.W.Frag) (H : Hp) (a : Addr) (xs : List V) : Prop :=
  (∃ o, H a = some (.frz o (.lst xs))) ∨
    ∃ (o : Obj) (its : Array Value) (n : Nat), K.lookup a = some o ∧ o.cls = .type "list" ∧ o.dict = none ∧ o.data = .seq its n ∧ its.size ≤ sizeLine ∧ Vals xs its.toList
theorem Fz.seq {K : PySem.W.Frag} {H : Hp} {a : Addr} {xs : List V} (h : Fz K H a xs) : SqL K H a xs := by
  rcases h with h | h
  · exact .inl (.inr h)
  · exact .inr h
theorem fz_of {K : PySem.W.Frag} {H : Hp} {a : Addr} {xs : List V} (O : Only H) (h : SqL K H a xs) : Fz K H a xs := by
  rcases h with (h | h) | h
  · rcases O a with z | ⟨o, ys, z⟩
    · rw [z] at h; cases h
    · rw [z] at h; cases h
  · exact .inl h
  · exact .inr h
/-- what never changes stays: tuples, the script -/
structure TK (K : PySem.W.Frag) (H H' : Hp) : Prop where
  t : ∀ a xs, SqT K H a xs → SqT K H' a xs
  f : ∀ a xs, Fz K H a xs → Fz K H' a xs
/-- all but what stands at D is kept -/
def But (D : Addr) (H H' : Hp) : Prop := ∀ b o, b ≠ D → H b = some o → H' b = some o
section
variable {K : PySem.W.Frag} {H H' H1 H2 : Hp}
theorem TK.refl : TK K H H := ⟨fun _ _ h => h, fun _ _ h => h⟩
theorem TK.trans (a : TK K H H1) (b : TK K H1 H2) : TK K H H2 := ⟨fun x y h => b.t x y (a.t x y h), fun x y h => b.f x y (a.f x y h)⟩
theorem same_tk (s : Same H H') : TK K H H' := by
  refine ⟨fun a xs h => ?_, fun a xs h => ?_⟩
  · rcases h with (h | ⟨o, h⟩) | h
    · exact .inl (.inl (s _ _ h))
    · exact .inl (.inr ⟨o, s _ _ h⟩)
    · exact .inr h
  · rcases h with ⟨o, h⟩ | h
    · exact .inl ⟨o, s _ _ h⟩
    · exact .inr h
theorem But.refl {D : Addr} : But D H H := fun _ _ _ h => h
theorem But.trans {D : Addr} (a : But D H H1) (b : But D H1 H2) : But D H H2 := fun c o hc h => b c o hc (a c o hc h)
theorem same_but {D : Addr} (s : Same H H') : But D H H' := fun b o _ h => s b o h
/-- what a write may change -/
def wr : HO → Bool
  | .tup _ => false
  | .frz _ _ => false
  | _ => true
theorem But.tkW {D : Addr} {u : HO} (hD : H D = some u) (hu : wr u = true) (s : But D H H') : TK K H H' := by
  refine ⟨fun a ys h => ?_, fun a ys h => ?_⟩
  · rcases h with (h | ⟨o, h⟩) | h
    · exact .inl (.inl (s _ _ (ne_of h hD (by intro z; subst z; cases hu)) h))
    · exact .inl (.inr ⟨o, s _ _ (ne_of h hD (by intro z; subst z; cases hu)) h⟩)
    · exact .inr h
  · rcases h with ⟨o, h⟩ | h
    · exact .inl ⟨o, s _ _ (ne_of h hD (by intro z; subst z; cases hu)) h⟩
    · exact .inr h
theorem But.tk {D : Addr} {xs : List V} (hD : H D = some (.lst xs)) (s : But D H H') : TK K H H' := s.tkW hD rfl
/-- a new object -/
theorem same_new {p : Addr} {o : HO} (h : H p = none) : Same H (upd H p o) := fun b u q => by rw [upd_ne (ne_of_none q h)]; exact q
theorem But.new {D p : Addr} {o : HO} (s : But D H H1) (hD : H1 D ≠ none) (h : H1 p = none) : But D H (upd H1 p o) := fun b u hb q => by
  rw [upd_ne (ne_of_none (s b u hb q) h)]
  exact s b u hb q
/-- a write to what was not there at the beginning, or to D -/
theorem But.put {D p : Addr} {o : HO} (s : But D H H1) (h : p = D ∨ H p = none) : But D H (upd H1 p o) := fun b u hb q => by
  have : b ≠ p := by
    rcases h with rfl | h
    · exact hb
    · exact ne_of_none q h
  rw [upd_ne this]
  exact s b u hb q
theorem same_put {p : Addr} {o : HO} (s : Same H H1) (h : H p = none) : Same H (upd H1 p o) := fun b u q => by
  rw [upd_ne (ne_of_none q h)]
  exact s b u q
theorem But.free {D p : Addr} (s : But D H H1) (hp : p ≠ D) (h : H1 p = none) : H p = none := by
  cases q : H p with
  | none => rfl
  | some o =>
    rw [s p o hp q] at h
    cases h
theorem upd_same' {p : Addr} {o : HO} : (upd H p o) p = some o := upd_same
/-- a new object: go on with a heap that is only known to hold it -/
theorem alloc {p : Addr} {o : HO} {G : Hp → Prop} (h : H p = none) (k : ∀ H', Same H H' → H' p = some o → G H') : G (upd H p o) := k _ (same_new h) upd_same
theorem put {p : Addr} {o : HO} {G : Hp → Prop} (k : ∀ H', But p H H' → H' p = some o → G H') : G (upd H p o) :=
  k _ (fun b u hb q => by rw [upd_ne hb]; exact q) upd_same
end
theorem sql_id {K : PySem.W.Frag} {H : Hp} {a : Addr} {xs : List V} (h : SqL K H a xs) : SqL K H a xs := h
theorem sqt_id {K : PySem.W.Frag} {H : Hp} {a : Addr} {xs : List V} (h : SqT K H a xs) : SqT K H a xs := h
theorem big {n : Nat} (h : n < 1000000) : n < sizeLine := Nat.lt_of_lt_of_le h (by decide)
theorem sz {n : Nat} (h : n ≤ 1000) : n ≤ sizeLine := Nat.le_of_lt (small1000 h)
section
variable {K : PySem.W.Frag} {H H' : Hp}
mutual
theorem Im.up (t : TK K H H') : ∀ (d : PyData) (v : V), Im K H v d → Im K H' v d
  | .none, _, h => by cases h; exact .non
  | .bool b, _, h => by cases h; exact .bl b
  | .int i, _, h => by cases h; exact .int i
  | .str x, _, h => by cases h; exact .str x
  | .list _, _, h => by cases h
  | .tuple ds, _, h => by
    cases h with
    | tup hs ha => exact .tup (t.t _ _ hs) (Ims.up t ds _ ha)
  | .dict _, _, h => by cases h
theorem Ims.up (t : TK K H H') : ∀ (ds : List PyData) (vs : List V), Ims K H vs ds → Ims K H' vs ds
  | [], _, h => by cases h; exact .nil
  | d :: ds, _, h => by
    cases h with
    | cons h1 h2 => exact .cons (Im.up t d _ h1) (Ims.up t ds _ h2)
end
mutual
theorem Im.dp : ∀ (d : PyData) (v : V), Im K H v d → Dp K H v d
  | .none, _, h => by cases h; exact .non
  | .bool b, _, h => by cases h; exact .bl b
  | .int i, _, h => by cases h; exact .int i
  | .str x, _, h => by cases h; exact .str x
  | .list _, _, h => by cases h
  | .tuple ds, _, h => by
    cases h with
    | tup hs ha => exact .tup hs (Ims.dp ds _ ha)
  | .dict _, _, h => by cases h
theorem Ims.dp : ∀ (ds : List PyData) (vs : List V), Ims K H vs ds → DpAll K H vs ds
  | [], _, h => by cases h; exact .nil
  | d :: ds, _, h => by
    cases h with
    | cons h1 h2 => exact .cons (Im.dp d _ h1) (Ims.dp ds _ h2)
end
theorem Im.u {d : PyData} {v : V} (h : Im K H v d) (t : TK K H H') : Im K H' v d := Im.up t d v h
theorem Ims.u {d : List PyData} {v : List V} (h : Ims K H v d) (t : TK K H H') : Ims K H' v d := Ims.up t d v h
theorem Ims.len : ∀ {vs : List V} {ds : List PyData}, Ims K H vs ds → vs.length = ds.length
  | _, _, .nil => rfl
  | _, _, .cons _ t => congrArg Nat.succ (Ims.len t)
theorem Ims.get : ∀ {vs : List V} {ds : List PyData} {i : Nat} {v : V}, Ims K H vs ds → vs[i]? = some v → ∃ d, ds[i]? = some d ∧ Im K H v d
  | _, _, i, _, .nil, e => by simp at e
  | _, _, 0, v, .cons r _, e => by simp at e; subst e; exact ⟨_, rfl, r⟩
  | _, _, i + 1, v, .cons _ t, e => by
    obtain ⟨d, h1, h2⟩ := Ims.get (i := i) (v := v) t (by simpa using e)
    exact ⟨d, by simpa using h1, h2⟩
theorem Ims.got : ∀ {vs : List V} {ds : List PyData} {i : Nat} {d : PyData}, Ims K H vs ds → ds[i]? = some d → ∃ v, vs[i]? = some v ∧ Im K H v d
  | _, _, i, _, .nil, e => by simp at e
  | _, _, 0, v, .cons r _, e => by simp at e; subst e; exact ⟨_, rfl, r⟩
  | _, _, i + 1, v, .cons _ t, e => by
    obtain ⟨d, h1, h2⟩ := Ims.got (i := i) (d := v) t (by simpa using e)
    exact ⟨d, by simpa using h1, h2⟩
theorem Ims.snoc : ∀ {vs : List V} {ds : List PyData} {v : V} {d : PyData}, Ims K H vs ds → Im K H v d → Ims K H (vs ++ [v]) (ds ++ [d])
  | _, _, _, _, .nil, h => .cons h .nil
  | _, _, _, _, .cons r t, h => .cons r (Ims.snoc t h)
theorem Im.i {v : V} {i : Int} (h : Im K H v (.int i)) : v = .int i := by cases h; rfl
theorem Im.s {v : V} {i : Str} (h : Im K H v (.str i)) : v = .str i := by cases h; rfl
theorem Im.t {v : V} {ds : List PyData} (h : Im K H v (.tuple ds)) : ∃ a xs, v = .ref a ∧ SqT K H a xs ∧ Ims K H xs ds := by
  cases h with
  | tup h1 h2 => exact ⟨_, _, rfl, h1, h2⟩
theorem Im.t1 {v : V} {d : PyData} (h : Im K H v (.tuple [d])) : ∃ a x, v = .ref a ∧ SqT K H a [x] ∧ Im K H x d := by
  cases h with
  | tup h1 h2 =>
    cases h2 with
    | cons a b => cases b; exact ⟨_, _, rfl, h1, a⟩
theorem Im.t2 {v : V} {d e : PyData} (h : Im K H v (.tuple [d, e])) : ∃ a x y, v = .ref a ∧ SqT K H a [x, y] ∧ Im K H x d ∧ Im K H y e := by
  cases h with
  | tup h1 h2 =>
    cases h2 with
    | cons a b =>
      cases b with
      | cons c b => cases b; exact ⟨_, _, _, rfl, h1, a, c⟩
theorem Im.t3 {v : V} {d e f : PyData} (h : Im K H v (.tuple [d, e, f])) : ∃ a x y z, v = .ref a ∧ SqT K H a [x, y, z] ∧ Im K H x d ∧ Im K H y e ∧ Im K H z f := by
  cases h with
  | tup h1 h2 =>
    cases h2 with
    | cons a b =>
      cases b with
      | cons c b =>
        cases b with
        | cons g b => cases b; exact ⟨_, _, _, _, rfl, h1, a, c, g⟩
theorem Ims.ints : ∀ (ns : List Int), Ims K H (ns.map V.int) (ns.map PyData.int)
  | [] => .nil
  | n :: ns => .cons (.int n) (Ims.ints ns)
theorem Ims.of_ints : ∀ (ns : List Int) {vs : List V}, Ims K H vs (ns.map PyData.int) → vs = ns.map V.int
  | [], _, h => by cases h; rfl
  | n :: ns, _, h => by
    cases h with
    | cons a b => cases a; rw [Ims.of_ints ns b]; rfl
end
/-! ### a list that a def grows -/
section
variable {K : PySem.W.Frag} {H H' : Hp} {l : Addr} {ds : List PyData}
def Acc (K : PySem.W.Frag) (H : Hp) (l : Addr) (ds : List PyData) : Prop := ∃ vs, H l = some (.lst vs) ∧ Ims K H vs ds
theorem Acc.at (h : Acc K H l ds) : ∃ xs, H l = some (.lst xs) := ⟨_, h.choose_spec.1⟩
theorem Acc.keep (h : Acc K H l ds) (t : TK K H H') (e : ∀ xs, H l = some (.lst xs) → H' l = some (.lst xs)) : Acc K H' l ds := by
  obtain ⟨vs, e1, i⟩ := h
  exact ⟨vs, e _ e1, i.u t⟩
theorem Acc.same (h : Acc K H l ds) (s : Same H H') : Acc K H' l ds := h.keep (same_tk s) fun _ e => s _ _ e
theorem Acc.but {D : Addr} (h : Acc K H l ds) (s : But D H H') (t : TK K H H') (ne : l ≠ D) : Acc K H' l ds := h.keep t fun _ e => s _ _ ne e
theorem Acc.seq (h : Acc K H l ds) : ∃ vs, SqL K H l vs ∧ Ims K H vs ds := by
  obtain ⟨vs, e1, i⟩ := h
  exact ⟨vs, SqL.of e1, i⟩
theorem acc_nil {p : Addr} (h : H p = some (.lst [])) : Acc K H p [] := ⟨[], h, .nil⟩
theorem acc_ty (h : Acc K H l ds) : tyV K "list" (.ref l) H := by
  obtain ⟨xs, e, i⟩ := h
  exact Or.inl ⟨rfl, _, SqL.of e⟩
end
section
variable {K : PySem.W.Frag} {H H' : Hp} {l : Addr} {ds : List PyData}
theorem Acc.push {y : V} {d : PyData} (h : Acc K H l ds) (hy : Im K H y d) (hl : ds.length < 1000000) :
    ∃ acc, H l = some (.lst acc) ∧ acc.length < sizeLine ∧ But l H (upd H l (.lst (acc ++ [y]))) ∧ TK K H (upd H l (.lst (acc ++ [y]))) ∧ Acc K (upd H l (.lst (acc ++ [y]))) l (ds ++ [d]) := by
  obtain ⟨vs, e, i⟩ := h
  have b : But l H (upd H l (.lst (vs ++ [y]))) := fun b u hb z => by rw [upd_ne hb]; exact z
  have t : TK K H (upd H l (.lst (vs ++ [y]))) := b.tk e
  exact ⟨vs, e, big (by rw [i.len]; omega), b, t, ⟨_, upd_same, (i.u t).snoc (hy.u t)⟩⟩
end
/-! ### rules whose readings speak of data, and whose new heaps are letters -/
section
variable {X : Cx} {e : Expr} {es : List Expr} {t : TA} {pos : Pos}
theorem pe_imp {t1 t2 : TE} (h : PE X e t1) (k : ∀ σ H Q, t2 σ H Q → t1 σ H Q) : PE X e t2 := ⟨fun pins s σ H Q I q => h.run pins s σ H Q I (k _ _ _ q)⟩
theorem pa_cut (h : PA X es t) : PA X es (fun σ H R => ∃ R0, t σ H R0 ∧ ∀ xs H1, R0 xs H1 → R xs H1) := by
  refine ⟨fun pos pins s σ H Q I q => ?_⟩
  obtain ⟨R0, h1, h2⟩ := q
  refine thn (h.run pos pins s σ H R0 I h1) fun us s1 q => ?_
  obtain ⟨vs, H', I', r, q⟩ := q
  exact ⟨vs, H', I', r, h2 _ _ q⟩
theorem CallR.imp {f : Value} {r r' : List V → Hp → VK → Prop} (h : CallR X f r) (k : ∀ xs H Q, r' xs H Q → r xs H Q) : CallR X f r' :=
  fun pins s σ H xs us Q I rv q => h pins s σ H xs us Q I rv (k _ _ _ q)
theorem OpR.imp {f : Value → Value → Sem Value} {r r' : R2} (h : OpR X f r) (k : ∀ x y H Q, r' x y H Q → r x y H Q) : OpR X f r' :=
  fun pins s σ H x y v u Q I rx ry q => h pins s σ H x y v u Q I rx ry (k _ _ _ _ q)
theorem MtR.imp {id : String} {r r' : V → List V → Hp → VK → Prop} (h : MtR X id r) (k : ∀ x xs H Q, r' x xs H Q → r x xs H Q) : MtR X id r' :=
  fun pins s σ H x xs v us Q I rx rs q => h pins s σ H x xs v us Q I rx rs (k _ _ _ _ q)
theorem IxR.imp {r r' : R2} (h : IxR X r) (k : ∀ x y H Q, r' x y H Q → r x y H Q) : IxR X r' :=
  fun value slice pins s σ H x y v u Q I rx ry q hs => h value slice pins s σ H x y v u Q I rx ry (k _ _ _ _ q) hs
theorem PSet.imp {r r' : TSet} (h : PSet X r) (k : ∀ o i v H Q, r' o i v H Q → r o i v H Q) : PSet X r' :=
  fun pins s σ H o i v ov iv u Q I ro ri rv q => h pins s σ H o i v ov iv u Q I ro ri rv (k _ _ _ _ _ q)
/-- (a, b) -/
def rTd (K : PySem.W.Frag) (xs : List V) (H : Hp) (Q : VK) : Prop := ∃ ds, Ims K H xs ds ∧ ds.length ≤ 1000 ∧ ∀ p H', Same H H' → TK K H H' → Im K H' (.ref p) (.tuple ds) → Q (.ref p) H'
/-- [a, b] -/
def rLd (K : PySem.W.Frag) (xs : List V) (H : Hp) (Q : VK) : Prop := ∃ ds, Ims K H xs ds ∧ ds.length ≤ 1000 ∧ ∀ p H', H p = none → Same H H' → TK K H H' → Acc K H' p ds → Q (.ref p) H'
/-- [a, b], whatever they are -/
def rLr (K : PySem.W.Frag) (xs : List V) (H : Hp) (Q : VK) : Prop := xs.length ≤ 1000 ∧ ∀ p H', H p = none → Same H H' → TK K H H' → H' p = some (.lst xs) → Q (.ref p) H'
def rTr (K : PySem.W.Frag) (xs : List V) (H : Hp) (Q : VK) : Prop := xs.length ≤ 1000 ∧ ∀ p H', H p = none → Same H H' → TK K H H' → H' p = some (.tup xs) → Q (.ref p) H'
theorem pe_td {x1 : Nat} (h : PA X es t) : PE X (.Tuple es x1 pos) (fun σ H Q => t σ H fun xs H1 => rTd X.K xs H1 Q) := pe_imp (pe_tup (pa_cut h)) fun σ H Q q => ⟨_, q, fun xs H1 r => by
  obtain ⟨ds, i, hl, k⟩ := r
  refine ⟨sz (by rw [i.len]; exact hl), fun p hp => ?_⟩
  have s := same_new (o := HO.tup xs) hp
  exact k p _ s (same_tk s) (.tup (SqT.of upd_same) (i.u (same_tk s)))⟩
theorem pe_tr {x1 : Nat} (h : PA X es t) : PE X (.Tuple es x1 pos) (fun σ H Q => t σ H fun xs H1 => rTr X.K xs H1 Q) := pe_imp (pe_tup (pa_cut h)) fun σ H Q q => ⟨_, q, fun xs H1 r => by
  obtain ⟨hl, k⟩ := r
  refine ⟨sz hl, fun p hp => ?_⟩
  have s := same_new (o := HO.tup xs) hp
  exact k p _ hp s (same_tk s) upd_same⟩
theorem pe_ld (h : PA X es t) : PE X (.List es pos) (fun σ H Q => t σ H fun xs H1 => rLd X.K xs H1 Q) := pe_imp (pe_lst (pa_cut h)) fun σ H Q q => ⟨_, q, fun xs H1 r => by
  obtain ⟨ds, i, hl, k⟩ := r
  refine ⟨sz (by rw [i.len]; exact hl), fun p hp => ?_⟩
  have s := same_new (o := HO.lst xs) hp
  exact k p _ hp s (same_tk s) ⟨xs, upd_same, i.u (same_tk s)⟩⟩
theorem pe_lr (h : PA X es t) : PE X (.List es pos) (fun σ H Q => t σ H fun xs H1 => rLr X.K xs H1 Q) := pe_imp (pe_lst (pa_cut h)) fun σ H Q q => ⟨_, q, fun xs H1 r => by
  obtain ⟨hl, k⟩ := r
  refine ⟨sz hl, fun p hp => ?_⟩
  have s := same_new (o := HO.lst xs) hp
  exact k p _ hp s (same_tk s) upd_same⟩
theorem pe_tdK {K : PySem.W.Frag} {x1 : Nat} (hK : X.K = K) (h : PA X es t) : PE X (.Tuple es x1 pos) (fun σ H Q => t σ H fun xs H1 => rTd K xs H1 Q) := by subst hK; exact pe_td h
theorem pe_trK {K : PySem.W.Frag} {x1 : Nat} (hK : X.K = K) (h : PA X es t) : PE X (.Tuple es x1 pos) (fun σ H Q => t σ H fun xs H1 => rTr K xs H1 Q) := by subst hK; exact pe_tr h
theorem pe_ldK {K : PySem.W.Frag} (hK : X.K = K) (h : PA X es t) : PE X (.List es pos) (fun σ H Q => t σ H fun xs H1 => rLd K xs H1 Q) := by subst hK; exact pe_ld h
theorem pe_lrK {K : PySem.W.Frag} (hK : X.K = K) (h : PA X es t) : PE X (.List es pos) (fun σ H Q => t σ H fun xs H1 => rLr K xs H1 Q) := by subst hK; exact pe_lr h
/-- l.append(x) of data -/
def rAppA (K : PySem.W.Frag) : V → List V → Hp → VK → Prop := fun x vs H Q => ∃ l y ds d, x = .ref l ∧ vs = [y] ∧ Acc K H l ds ∧ Im K H y d ∧ ds.length < 1000000 ∧ ∀ H', But l H H' → TK K H H' → Acc K H' l (ds ++ [d]) → Q .non H'
theorem mt_appA : MtR X "list.append" (rAppA X.K) := MtR.imp mt_append fun x vs H Q q => by
  obtain ⟨l, y, ds, d, rfl, rfl, ⟨xs, e, i⟩, hy, hl, k⟩ := q
  have b : But l H (upd H l (.lst (xs ++ [y]))) := fun b u hb z => by rw [upd_ne hb]; exact z
  have t : TK X.K H (upd H l (.lst (xs ++ [y]))) := b.tk e
  exact ⟨l, xs, y, rfl, rfl, e, big (by rw [i.len]; omega), k _ b t ⟨_, upd_same, (i.u t).snoc (hy.u t)⟩⟩
/-- l.append(x) of anything -/
def rAppR (K : PySem.W.Frag) : V → List V → Hp → VK → Prop := fun x vs H Q => ∃ l y xs, x = .ref l ∧ vs = [y] ∧ H l = some (.lst xs) ∧ xs.length < 100000 ∧ ∀ H', But l H H' → TK K H H' → H' l = some (.lst (xs ++ [y])) → Q .non H'
theorem mt_appR : MtR X "list.append" (rAppR X.K) := MtR.imp mt_append fun x vs H Q q => by
  obtain ⟨l, y, xs, rfl, rfl, e, hl, k⟩ := q
  have b : But l H (upd H l (.lst (xs ++ [y]))) := fun b u hb z => by rw [upd_ne hb]; exact z
  exact ⟨l, xs, y, rfl, rfl, e, Nat.lt_trans hl (by decide), k _ b (b.tk e) upd_same⟩
/-- tuple(l) of data -/
def rTupleA (K : PySem.W.Frag) : List V → Hp → VK → Prop := fun xs H Q => ∃ l ds, xs = [.ref l] ∧ Acc K H l ds ∧ ∀ p H', Same H H' → TK K H H' → Im K H' (.ref p) (.tuple ds) → Q (.ref p) H'
theorem call_tupleA : CallR X (.type "tuple") (rTupleA X.K) := CallR.imp call_tuple_of fun xs H Q q => by
  obtain ⟨l, ds, rfl, ⟨vs, e, i⟩, k⟩ := q
  refine ⟨l, vs, rfl, .inl ⟨SqL.of e, fun p hp => ?_⟩⟩
  have s := same_new (o := HO.tup vs) hp
  exact k p _ s (same_tk s) (.tup (SqT.of upd_same) (i.u (same_tk s)))
/-- list(l) of data -/
def rListA (K : PySem.W.Frag) : List V → Hp → VK → Prop := fun xs H Q => ∃ l ds, xs = [.ref l] ∧ Acc K H l ds ∧ ∀ p H', H p = none → Same H H' → TK K H H' → Acc K H' p ds → Q (.ref p) H'
theorem call_listA : CallR X (.type "list") (rListA X.K) := CallR.imp call_list_of fun xs H Q q => by
  obtain ⟨l, ds, rfl, ⟨vs, e, i⟩, k⟩ := q
  refine ⟨l, vs, rfl, .inl (SqL.of e), fun p hp => ?_⟩
  have s := same_new (o := HO.lst vs) hp
  exact k p _ hp s (same_tk s) ⟨vs, upd_same, i.u (same_tk s)⟩
/-- t[i], l[i] of data -/
def rIxD (K : PySem.W.Frag) : R2 := fun x y H Q => ∃ (ds : List PyData) (i : Int) (j : Nat) (d : PyData), Im K H x (.tuple ds) ∧ y = .int i ∧ i = (j : Int) ∧ ds[j]? = some d ∧ ∀ v, Im K H v d → Q v H
theorem ix_tupD : IxR X (rIxD X.K) := IxR.imp ix_tup fun x y H Q q => by
  obtain ⟨ds, i, j, d, im, rfl, hi, hd, k⟩ := q
  obtain ⟨a, xs, rfl, ht, hs⟩ := im.t
  obtain ⟨v, hv, iv⟩ := hs.got hd
  exact ⟨a, xs, i, v, rfl, rfl, ht, at_of hi hv, k v iv⟩
def rIxA (K : PySem.W.Frag) : R2 := fun x y H Q => ∃ (l : Addr) (ds : List PyData) (i : Int) (j : Nat) (d : PyData), x = .ref l ∧ Acc K H l ds ∧ y = .int i ∧ i = (j : Int) ∧ ds[j]? = some d ∧ ∀ v, Im K H v d → Q v H
theorem ix_listA : IxR X (rIxA X.K) := IxR.imp ix_list fun x y H Q q => by
  obtain ⟨l, ds, i, j, d, rfl, ⟨vs, e, im⟩, rfl, hi, hd, k⟩ := q
  obtain ⟨v, hv, iv⟩ := im.got hd
  exact ⟨l, vs, i, v, rfl, rfl, SqL.of e, at_of hi hv, k v iv⟩
/-- [x, y][int(b)] of data -/
def rSelA (K : PySem.W.Frag) : R2 := fun x y H Q => ∃ (l : Addr) (d e : PyData) (b : Bool), x = .ref l ∧ Acc K H l [d, e] ∧ y = .int (if b = true then 1 else 0) ∧ ∀ v, Im K H v (if b = true then e else d) → Q v H
theorem ix_selA : IxR X (rSelA X.K) := IxR.imp ix_list fun x y H Q q => by
  obtain ⟨l, d, e, b, rfl, ⟨vs, q1, im⟩, rfl, k⟩ := q
  cases b with
  | true =>
    obtain ⟨v, hv, iv⟩ := im.got (i := 1) rfl
    exact ⟨l, vs, 1, v, rfl, rfl, SqL.of q1, at_of (j := 1) rfl hv, k v iv⟩
  | false =>
    obtain ⟨v, hv, iv⟩ := im.got (i := 0) rfl
    exact ⟨l, vs, 0, v, rfl, rfl, SqL.of q1, at_of (j := 0) rfl hv, k v iv⟩
/-- the same of anything -/
def rSelR (K : PySem.W.Frag) : R2 := fun x y H Q => ∃ (l : Addr) (d e : V) (b : Bool), x = .ref l ∧ H l = some (.lst [d, e]) ∧ y = .int (if b = true then 1 else 0) ∧ Q (if b = true then e else d) H
theorem ix_selR : IxR X (rSelR X.K) := IxR.imp ix_list fun x y H Q q => by
  obtain ⟨l, d, e, b, rfl, q1, rfl, k⟩ := q
  refine ⟨l, [d, e], _, if b = true then e else d, rfl, rfl, SqL.of q1, ?_, k⟩
  cases b <;> rfl
/-- l[i] = v -/
def rSetN (K : PySem.W.Frag) : TSet := fun o i v H Q => ∃ (p : Addr) (xs ys : List V) (k : Int) (j : Nat), o = .ref p ∧ i = .int k ∧ H p = some (.lst xs) ∧ ixN xs.length k = some j ∧ xs.set j v = ys ∧ ∀ H', But p H H' → TK K H H' → H' p = some (.lst ys) → Q H'
theorem set_listN : PSet X (rSetN X.K) := PSet.imp set_list fun o i v H Q q => by
  obtain ⟨p, xs, ys, k, j, rfl, rfl, e, hj, rfl, q⟩ := q
  have b : But p H (upd H p (.lst (xs.set j v))) := fun b u hb z => by rw [upd_ne hb]; exact z
  exact ⟨p, xs, k, j, rfl, rfl, e, hj, q _ b (b.tk e) upd_same⟩
/-- k[0], k[1] .. of a text or of data -/
def rIxK (K : PySem.W.Frag) : R2 := fun x y H Q => (∃ (z : Str) (c : Nat), x = .str z ∧ y = .int 0 ∧ z.length ≤ sizeLine ∧ z.cps.toList[0]? = some c ∧ Q (.str ⟨#[c]⟩) H) ∨ rIxD K x y H Q
theorem ix_kd : IxR X (rIxK X.K) := IxR.imp (ix_str.or ix_tupD) fun x y H Q q => by
  rcases q with ⟨z, c, rfl, rfl, h1, h2, q⟩ | q
  · exact .inl ⟨z, 0, c, rfl, rfl, h1, (atI_nat h2 : atI z.cps.toList ((0 : Nat) : Int) = some c), q⟩
  · exact .inr q
def rMax2 : List V → Hp → VK → Prop := fun xs H Q => ∃ i j, xs = [.int i, .int j] ∧ Q (.int (max i j)) H
def rMin2 : List V → Hp → VK → Prop := fun xs H Q => ∃ i j, xs = [.int i, .int j] ∧ Q (.int (min i j)) H
theorem call_max2N (hc : X.calm = true) : CallR X (.builtin "max") rMax2 := CallR.imp (call_max2 hc) fun xs H Q q => by
  obtain ⟨i, j, rfl, q⟩ := q
  refine ⟨i, j, rfl, ?_⟩
  have e : (if j > i then j else i) = max i j := by split <;> omega
  rw [e]
  exact q
theorem call_min2N (hc : X.calm = true) : CallR X (.builtin "min") rMin2 := CallR.imp (call_min2 hc) fun xs H Q q => by
  obtain ⟨i, j, rfl, q⟩ := q
  refine ⟨i, j, rfl, ?_⟩
  have e : (if j < i then j else i) = min i j := by split <;> omega
  rw [e]
  exact q
/-- len of data -/
def rLenT (K : PySem.W.Frag) : List V → Hp → VK → Prop := fun xs H Q => ∃ v ds, xs = [v] ∧ Im K H v (.tuple ds) ∧ Q (.int ds.length) H
theorem call_lenT : CallR X (.builtin "len") (rLenT X.K) := CallR.imp call_len_seq fun xs H Q q => by
  obtain ⟨v, ds, rfl, i, k⟩ := q
  obtain ⟨a, vs, rfl, ht, hs⟩ := i.t
  exact ⟨a, vs, rfl, .inr ht, by rw [hs.len]; exact k⟩
def rLenA (K : PySem.W.Frag) : List V → Hp → VK → Prop := fun xs H Q => ∃ l ds, xs = [.ref l] ∧ Acc K H l ds ∧ Q (.int ds.length) H
theorem call_lenA : CallR X (.builtin "len") (rLenA X.K) := CallR.imp call_len_seq fun xs H Q q => by
  obtain ⟨l, ds, rfl, ⟨vs, e, i⟩, k⟩ := q
  exact ⟨l, vs, rfl, .inl (SqL.of e), by rw [i.len]; exact k⟩
end
/-! ### cuts: what holds behind a statement -/
section
variable {X : Cx} {st : Stmt} {t : TS} {e : Expr} {te : TE}
def tCut (t : TS) : TS := fun D σ H => ∃ R : L2.St → Hp → Prop, t { D with nx := R } σ H ∧ ∀ σ' H', R σ' H' → D.nx σ' H'
theorem ps_cut (h : PS X st t) : PS X st (tCut t) := by
  refine ⟨fun pins s σ H D I hw => ?_⟩
  obtain ⟨R, h1, h2⟩ := hw
  refine thn (h.run pins s σ H { D with nx := R } I h1) fun f s1 q => ?_
  cases f with
  | next =>
    obtain ⟨σ', H', I', q⟩ := q
    exact ⟨σ', H', I', h2 _ _ q⟩
  | ret v => exact q
  | brk => exact q
  | cont => exact q
def tCutE (t : TE) : TE := fun σ H Q => ∃ R : VK, t σ H R ∧ ∀ v H', R v H' → Q v H'
theorem pe_cut (h : PE X e te) : PE X e (tCutE te) := by
  refine ⟨fun pins s σ H Q I hw => ?_⟩
  obtain ⟨R, h1, h2⟩ := hw
  refine thn (h.run pins s σ H R I h1) fun u s1 q => ?_
  obtain ⟨v, H', I', r, q⟩ := q
  exact ⟨v, H', I', r, h2 _ _ q⟩
end
/-! ### sum of a tuple of ints -/
section
variable {X : Cx}
def rSumT (K : PySem.W.Frag) : List V → Hp → VK → Prop := fun vs H Q => ∃ (a : Addr) (ns : List Int), vs = [V.ref a] ∧ SqT K H a (ns.map V.int) ∧ Q (.int ns.sum) H
theorem iter_intTup {A : Around} {E : Value → Shared → Prop} {prog : Program} {w : World} {s : Shared} {l : Addr} {xs : Array (Int × Tok)} {Q : Value → Shared → Prop} (hl : s.heap.IsTuple l (intItems xs))
    (h : ∀ s₂ : Shared, s₂ = { s with heap := s.heap.push { cls := .type "tuple_iterator", data := .fields #[.ref l, .int 0 0] } } →
      (s₂.heap.IsTupleIter s.heap.objs.size l 0 ∧ s₂.heap.IsTuple l (intItems xs)) → (∀ b ∈ [s.heap.objs.size, l], b < s₂.heap.objs.size) → l ≠ s.heap.objs.size → Q (.ref s.heap.objs.size) s₂) :
    wpAny (model prog w) A (pyIter (.ref l)) Q E s := by
  have hlt : l < s.heap.objs.size := by obtain ⟨_, e, _⟩ := hl; exact Heap.lt_size e
  refine wpAny_pyIter_tuple hl (h _ rfl ⟨⟨_, Heap.get?_push_size _ rfl, rfl, rfl⟩, hl.push _⟩ (fun b hb => ?_) (Nat.ne_of_lt hlt))
  show b < (s.heap.push _).objs.size
  rw [Heap.size_push]
  rcases List.mem_cons.mp hb with rfl | hb
  · exact Nat.lt_succ_self _
  · rcases List.mem_cons.mp hb with rfl | hb
    · exact Nat.lt_succ_of_lt hlt
    · cases hb
theorem sum_intTupG {A : Around} {E : Value → Shared → Prop} {prog : Program} {w : World} {s : Shared} {l : Addr} {xs : Array (Int × Tok)} {Q : Value → Shared → Prop} (hh : A.handled = none) (hl : s.heap.IsTuple l (intItems xs))
    (h : ∀ h' tk t', (∀ b o, s.heap.get? b = some o → h'.get? b = some o) → Q (.int (preSum (numAt xs) xs.size) t') { s with heap := h', toks := tk }) :
    wpAny (model prog w) A (call (.builtin "sum") [.ref l]) Q E s := by
  refine call_sum_walkG (iter_intTup hl fun s₂ e st hfp hlI => ?_)
  subst e
  refine ⟨_, _, _, _, _, _, numAt xs, rfl, Walks.tuple (A := A.in1) hh _ l hlI (intItems xs), st, hfp, (fun _ _ => intItems_at), fun h' tk t' hk => ?_⟩
  have hk' : ∀ b o, s.heap.get? b = some o → h'.get? b = some o := fun b o e => by
    refine hk b o (fun hmem => ?_) (Heap.get?_push_of_some _ e)
    rcases List.mem_cons.mp hmem with e1 | hmem
    · exact absurd (e1 ▸ Heap.lt_size e) (Nat.lt_irrefl _)
    · cases hmem
  have := h h' tk t' hk'
  simpa [intItems] using this
theorem sum_rawT {A : Around} {E : Value → Shared → Prop} {prog : Program} {w : World} {s : Shared} {l : Addr} {its : List Value} {ns : List Int} {Q : Value → Shared → Prop} (hh : A.handled = none) (hl : s.heap.IsTuple l its.toArray) (hi : IntsAre its ns)
    (h : ∀ h' tk t', (∀ b o, s.heap.get? b = some o → h'.get? b = some o) → Q (.int ns.sum t') { s with heap := h', toks := tk }) : wpAny (model prog w) A (call (.builtin "sum") [.ref l]) Q E s := by
  obtain ⟨xs, e⟩ := hi.allInts.items
  have hn : numsOf (intItems xs).toList = ns := by rw [← e]; exact hi.numsOf
  rw [nums_intItems] at hn
  rw [e] at hl
  refine sum_intTupG hh hl fun h' tk t' hk => ?_
  have := h h' tk t' hk
  rw [preSum_eq, List.take_of_length_le (by simp), hn]; exact this
theorem cr_sumT (hc : X.calm = true) : CallR X (.builtin "sum") (rSumT X.K) := by
  intro pins s σ H vs us Q I r h
  obtain ⟨a, ns, rfl, hs, q⟩ := h
  obtain ⟨its, rv, hl, _⟩ := I.tuple hs
  rw [Vals.ref1 r]
  exact sum_rawT (I.ok.hd hc) hl rv.ints fun h' tk t' hk => ⟨.int _, H, I.kept hk, ⟨_, rfl⟩, q⟩
end
open PySem PySem.Spec PyProof.Rows L2
/-! ### the draws -/
/-- the dice at D: the script, how many were read, the mixed number, the rest of a great one -/
def IsDice (K : PySem.W.Frag) (H : Hp) (D : Addr) : Prop :=
  ∃ (a : Addr) (ns : List Int) (p m r : Int), H D = some (.lst [.ref a, .int p, .int m, .int r]) ∧ Fz K H a (ns.map V.int) ∧ ns.length ≤ 63 ∧ 0 ≤ p ∧ 0 ≤ m ∧ m < 2147483647 ∧ 0 ≤ r
section
variable {K : PySem.W.Frag} {H H' H1 H2 : Hp} {D a : Addr}
theorem IsDice.at (h : IsDice K H D) : ∃ xs, H D = some (.lst xs) := by
  obtain ⟨a, ns, p, m, r, e, _⟩ := h
  exact ⟨_, e⟩
theorem IsDice.ne (h : IsDice K H D) : H D ≠ none := by
  obtain ⟨xs, e⟩ := h.at
  rw [e]
  intro z
  cases z
theorem But.dtk (s : But D H H') (h : IsDice K H D) : TK K H H' := by
  obtain ⟨xs, e⟩ := h.at
  exact s.tk e
theorem IsDice.keep (h : IsDice K H D) (t : TK K H H') (e : ∀ xs, H D = some (.lst xs) → H' D = some (.lst xs)) : IsDice K H' D := by
  obtain ⟨a, ns, p, m, r, e1, h1, h2⟩ := h
  exact ⟨a, ns, p, m, r, e _ e1, t.f _ _ h1, h2⟩
theorem IsDice.same (h : IsDice K H D) (s : Same H H') : IsDice K H' D := h.keep (same_tk s) fun _ e => s _ _ e
/-- a list of one's own changes -/
theorem IsDice.but {l : Addr} {xs : List V} (h : IsDice K H D) (hl : H l = some (.lst xs)) (ne : D ≠ l) (s : But l H H') : IsDice K H' D := h.keep (s.tk hl) fun _ e => s _ _ ne e
theorem IsDice.ne_new {p : Addr} (h : IsDice K H D) (hp : H p = none) : D ≠ p := by
  obtain ⟨xs, e⟩ := h.at
  exact ne_of_none e hp
end
/-! ### kinds, deeds, tests -/
inductive Kd where
  | num | pair (a b : Kd) | row (a : Kd)
  deriving DecidableEq
def Kd.d : Kd → PyData
  | .num => .str "number"
  | .pair a b => .tuple [.str "pair", a.d, b.d]
  | .row a => .tuple [.str "row", a.d]
inductive Deed where
  | add (n : Int) | times (n : Int) | minus | first | second | both | sum | many
  deriving DecidableEq
def Deed.d : Deed → PyData
  | .add n => .tuple [.str "add", .int n]
  | .times n => .tuple [.str "times", .int n]
  | .minus => .tuple [.str "minus"]
  | .first => .tuple [.str "first"]
  | .second => .tuple [.str "second"]
  | .both => .tuple [.str "both"]
  | .sum => .tuple [.str "sum"]
  | .many => .tuple [.str "many"]
inductive Tst where
  | below (n : Int) | over (n : Int) | rest (m r : Int)
  deriving DecidableEq
def Tst.d : Tst → PyData
  | .below n => .tuple [.str "below", .int n]
  | .over n => .tuple [.str "over", .int n]
  | .rest m r => .tuple [.str "rest", .int m, .int r]
def Num (n : Int) : Prop := 0 ≤ n ∧ n < 1000003
def Deed.Ok : Deed → Prop
  | .add n => Num n
  | .times n => Num n
  | _ => True
def Tst.Ok : Tst → Prop
  | .below n => Num n
  | .over n => Num n
  | .rest m r => Num m ∧ 0 ≤ r ∧ r < m
/-- an item of a kind -/
inductive Has : Kd → PyData → Prop
  | num {n : Int} (h : Num n) : Has .num (.int n)
  | pair {a b : Kd} {x y : PyData} (h1 : Has a x) (h2 : Has b y) : Has (.pair a b) (.tuple [x, y])
  | row {a : Kd} {xs : List PyData} (h : ∀ x ∈ xs, Has a x) (hl : xs.length ≤ 1000002) : Has (.row a) (.tuple xs)
def toI : PyData → Int
  | .int i => i
  | _ => 0
def doneD : Deed → PyData → PyData
  | .add n, .int i => .int ((i + n) % 1000003)
  | .times n, .int i => .int (i * n % 1000003)
  | .minus, .int i => .int (-i % 1000003)
  | .first, .tuple [a, _] => a
  | .second, .tuple [_, b] => b
  | .both, x => .tuple [x, x]
  | .sum, .tuple xs => .int ((xs.map toI).sum % 1000003)
  | .many, .tuple xs => .int xs.length
  | _, x => x
def kindD : Deed → Kd → Option Kd
  | .add _, .num => some .num
  | .times _, .num => some .num
  | .minus, .num => some .num
  | .first, .pair a _ => some a
  | .second, .pair _ b => some b
  | .both, k => some (.pair k k)
  | .sum, .row .num => some .num
  | .many, .row _ => some .num
  | _, _ => none
def doneAll (ds : List Deed) (x : PyData) : PyData := ds.foldl (fun x d => doneD d x) x
def kindAll : List Deed → Kd → Option Kd
  | [], k => some k
  | d :: ds, k => (kindD d k).bind (kindAll ds)
theorem kindAll_snoc : ∀ {ds : List Deed} {k k1 : Kd} {d : Deed}, kindAll ds k = some k1 → kindAll (ds ++ [d]) k = kindD d k1
  | [], k, k1, d, h => by
    cases h
    show (kindD d k).bind some = _
    cases kindD d k <;> rfl
  | e :: ds, k, k1, d, h => by
    show (kindD e k).bind (kindAll (ds ++ [d])) = _
    have h : (kindD e k).bind (kindAll ds) = some k1 := h
    cases q : kindD e k with
    | none => rw [q] at h; cases h
    | some z => rw [q] at h; exact kindAll_snoc (ds := ds) h
theorem kindAll_take {ds : List Deed} {k k' : Kd} (h : kindAll ds k = some k') : ∀ i, ∃ k1, kindAll (ds.take i) k = some k1 ∧ kindAll (ds.drop i) k1 = some k' := by
  induction ds generalizing k with
  | nil => intro i; exact ⟨k, by simp [kindAll], by simpa using h⟩
  | cons d ds ih =>
    intro i
    cases i with
    | zero => exact ⟨k, rfl, h⟩
    | succ i =>
      have h : (kindD d k).bind (kindAll ds) = some k' := h
      cases q : kindD d k with
      | none => rw [q] at h; cases h
      | some z =>
        rw [q] at h
        obtain ⟨k1, h1, h2⟩ := ih h i
        refine ⟨k1, ?_, h2⟩
        show (kindD d k).bind (kindAll (ds.take i)) = _
        rw [q]
        exact h1
theorem take_succ {α : Type} {l : List α} {i : Nat} {x : α} (h : l[i]? = some x) : l.take (i + 1) = l.take i ++ [x] := by
  rw [List.take_add_one, h]
  rfl
theorem drop_at {α : Type} {l : List α} {i : Nat} {x : α} (h : l[i]? = some x) : l.drop i = x :: l.drop (i + 1) := by
  obtain ⟨hi, rfl⟩ := List.getElem?_eq_some_iff.mp h
  exact List.drop_eq_getElem_cons hi
theorem Has.int {d : PyData} (h : Has .num d) : ∃ n, d = .int n ∧ Num n := by
  cases h with
  | num h => exact ⟨_, rfl, h⟩
theorem Has.two {a b : Kd} {d : PyData} (h : Has (.pair a b) d) : ∃ x y, d = .tuple [x, y] ∧ Has a x ∧ Has b y := by
  cases h with
  | pair h1 h2 => exact ⟨_, _, rfl, h1, h2⟩
theorem Has.ints : ∀ {xs : List PyData}, (∀ x ∈ xs, Has .num x) → xs = (xs.map toI).map PyData.int
  | [], _ => rfl
  | x :: xs, h => by
    obtain ⟨n, rfl, _⟩ := (h x List.mem_cons_self).int
    rw [List.map_cons, List.map_cons, ← Has.ints fun y hy => h y (List.mem_cons_of_mem _ hy)]
    rfl
theorem doneD_has {d : Deed} {k k' : Kd} {x : PyData} (ok : d.Ok) (h : Has k x) (e : kindD d k = some k') : Has k' (doneD d x) := by
  have md : ∀ z : Int, Num (z % 1000003) := fun z => ⟨Int.emod_nonneg _ (by decide), Int.emod_lt_of_pos _ (by decide)⟩
  cases d with
  | both => cases e; exact .pair h h
  | add n =>
    cases k with
    | num => cases e; obtain ⟨i, rfl, _⟩ := h.int; exact .num (md _)
    | _ => cases e
  | times n =>
    cases k with
    | num => cases e; obtain ⟨i, rfl, _⟩ := h.int; exact .num (md _)
    | _ => cases e
  | minus =>
    cases k with
    | num => cases e; obtain ⟨i, rfl, _⟩ := h.int; exact .num (md _)
    | _ => cases e
  | first =>
    cases k with
    | pair a b => cases e; obtain ⟨x, y, rfl, h1, h2⟩ := h.two; exact h1
    | _ => cases e
  | second =>
    cases k with
    | pair a b => cases e; obtain ⟨x, y, rfl, h1, h2⟩ := h.two; exact h2
    | _ => cases e
  | sum =>
    cases k with
    | row a =>
      cases a with
      | num =>
        cases e
        cases h with
        | row h hl => exact .num (md _)
      | _ => cases e
    | _ => cases e
  | many =>
    cases k with
    | row a =>
      cases e
      cases h with
      | row h hl => exact .num ⟨Int.natCast_nonneg _, by show ((_ : Nat) : Int) < _; omega⟩
    | _ => cases e
/-- one turn of a loop over the deeds -/
theorem done_turn {ds : List Deed} {k k' : Kd} {x : PyData} {i : Nat} {d : Deed} (hx : Has k x) (hk : kindAll ds k = some k') (hd : ds[i]? = some d) (ok : ∀ e ∈ ds, e.Ok) :
    (∃ k1 k2, Has k1 (doneAll (ds.take i) x) ∧ kindD d k1 = some k2) ∧ doneAll (ds.take (i + 1)) x = doneD d (doneAll (ds.take i) x) := by
  have eq : ∀ (j : Nat) (e : Deed), ds[j]? = some e → doneAll (ds.take (j + 1)) x = doneD e (doneAll (ds.take j) x) := fun j e he => by
    rw [take_succ he]
    unfold doneAll
    rw [List.foldl_append]
    rfl
  have step : ∀ j, j ≤ ds.length → ∃ k1, kindAll (ds.take j) k = some k1 ∧ kindAll (ds.drop j) k1 = some k' ∧ Has k1 (doneAll (ds.take j) x) := by
    intro j
    induction j with
    | zero => intro _; exact ⟨k, rfl, hk, hx⟩
    | succ j ih =>
      intro hj
      obtain ⟨k1, a1, a2, a3⟩ := ih (by omega)
      have hj' : ds[j]? = some ds[j] := List.getElem?_eq_getElem (by omega)
      rw [drop_at hj'] at a2
      have a2 : (kindD ds[j] k1).bind (kindAll (ds.drop (j + 1))) = some k' := a2
      cases q : kindD ds[j] k1 with
      | none => rw [q] at a2; cases a2
      | some z =>
        rw [q] at a2
        refine ⟨z, ?_, a2, ?_⟩
        · rw [take_succ hj', kindAll_snoc a1, q]
        · rw [eq j _ hj']
          exact doneD_has (ok _ (List.mem_of_getElem? hj')) a3 q
  obtain ⟨hi, rfl⟩ := List.getElem?_eq_some_iff.mp hd
  obtain ⟨k1, a1, a2, a3⟩ := step i (by omega)
  rw [drop_at hd] at a2
  have a2 : (kindD ds[i] k1).bind (kindAll (ds.drop (i + 1))) = some k' := a2
  refine ⟨⟨k1, ?_⟩, eq i _ hd⟩
  cases q : kindD ds[i] k1 with
  | none => rw [q] at a2; cases a2
  | some z => exact ⟨z, a3, rfl⟩
def Kd.dp : Kd → Nat
  | .num => 0
  | .pair a b => max a.dp b.dp + 1
  | .row a => a.dp + 1
theorem Kd.can : ∀ k : Kd, k.d.canLay0 = true
  | .num => by decide +kernel
  | .pair a b => by
    have h1 := Kd.can a
    have h2 := Kd.can b
    simp only [Kd.d, PyData.canLay0, PyData.canLayAll0, h1, h2, Bool.and_true]
    decide +kernel
  | .row a => by
    have h1 := Kd.can a
    simp only [Kd.d, PyData.canLay0, PyData.canLayAll0, h1, Bool.and_true]
    decide +kernel
theorem Kd.depth : ∀ k : Kd, k.d.depth = k.dp
  | .num => rfl
  | .pair a b => by
    simp only [Kd.d, PyData.depth, PyData.depthAll, Kd.depth a, Kd.depth b, Kd.dp]
    omega
  | .row a => by
    simp only [Kd.d, PyData.depth, PyData.depthAll, Kd.depth a, Kd.dp]
    omega
theorem Kd.shaped {k : Kd} (h : k.dp ≤ 20) : SeqAt.shaped k.d = true := by
  unfold SeqAt.shaped
  rw [Kd.can, Kd.depth, Bool.true_and]
  exact decide_eq_true (by omega)
theorem Kd.eqv : ∀ a b : Kd, PyData.eqv a.d b.d = decide (a = b)
  | .num, .num => by decide +kernel
  | .num, .pair a b => by simp [Kd.d, PyData.eqv]
  | .num, .row a => by simp [Kd.d, PyData.eqv]
  | .pair a b, .num => by simp [Kd.d, PyData.eqv]
  | .row a, .num => by simp [Kd.d, PyData.eqv]
  | .pair a b, .row c => by
    have : (("pair" : Str) == ("row" : Str)) = false := by decide +kernel
    simp [Kd.d, PyData.eqv, PyData.eqvAll, this]
  | .row c, .pair a b => by
    have : (("row" : Str) == ("pair" : Str)) = false := by decide +kernel
    simp [Kd.d, PyData.eqv, PyData.eqvAll, this]
  | .pair a b, .pair c d => by
    simp [Kd.d, PyData.eqv, PyData.eqvAll, Kd.eqv a c, Kd.eqv b d]
  | .row a, .row c => by
    simp [Kd.d, PyData.eqv, PyData.eqvAll, Kd.eqv a c]
def holdsT : Tst → Int → Bool
  | .below n, i => decide (i < n)
  | .over n, i => decide (n < i)
  | .rest m r, i => decide (i % m = r)
def Wd := Fin 4
inductive Fw where
  | add | times | least | most
  deriving DecidableEq
def Fw.s : Fw → Str
  | .add => "add"
  | .times => "times"
  | .least => "least"
  | .most => "most"
def foldF : Fw → Int → Int → Int
  | .add, a, b => (a + b) % 1000003
  | .times, a, b => a * b % 1000003
  | .least, a, b => min a b
  | .most, a, b => max a b
def simpleD : Deed → Bool
  | .add _ => true
  | .times _ => true
  | .minus => true
  | _ => false
theorem simple_kind {d : Deed} (h : simpleD d = true) : kindD d .num = some .num := by
  cases d <;> first | rfl | cases h
theorem simples_kind : ∀ {es : List Deed}, (∀ e ∈ es, simpleD e = true) → kindAll es .num = some .num
  | [], _ => rfl
  | e :: es, h => by
    show (kindD e .num).bind (kindAll es) = some .num
    rw [simple_kind (h e List.mem_cons_self)]
    exact simples_kind fun x hx => h x (List.mem_cons_of_mem _ hx)
/-- deeds as they are drawn for a kind -/
structure DrawnD (k : Kd) (ds : List Deed) (k' : Kd) : Prop where
  l1 : 1 ≤ ds.length
  l2 : ds.length ≤ 64
  ok : ∀ t ∈ ds, t.Ok
  kk : kindAll ds k = some k'
  dp : k'.dp ≤ k.dp + 1
  dn : k ≠ .num → k'.dp ≤ k.dp
  mid : ∀ i k1, kindAll (ds.take i) k = some k1 → k1.dp ≤ k.dp + 1
  num : k = .num → ∃ (es : List Deed) (b : Bool), ds = es ++ (if b then [.both] else []) ∧ 1 ≤ es.length ∧ es.length ≤ 63 ∧ ∀ e ∈ es, simpleD e = true
theorem drawn_num {es : List Deed} (b : Bool) (h1 : 1 ≤ es.length) (h2 : es.length ≤ 63) (ok : ∀ t ∈ es, t.Ok) (si : ∀ e ∈ es, simpleD e = true) :
    DrawnD .num (es ++ (if b then [.both] else [])) (if b then .pair .num .num else .num) := by
  have hk : kindAll (es ++ (if b then [Deed.both] else [])) .num = some (if b then .pair .num .num else .num) := by
    cases b with
    | true => exact (kindAll_snoc (simples_kind si)).trans rfl
    | false => simp only [if_neg Bool.false_ne_true, List.append_nil]; exact simples_kind si
  refine ⟨by rw [List.length_append]; omega, ?_, fun t ht => ?_, hk, ?_, fun z => absurd rfl z, fun i k1 h => ?_, fun _ => ⟨es, b, rfl, h1, h2, si⟩⟩
  · rw [List.length_append]
    cases b <;> simp <;> omega
  · rcases List.mem_append.mp ht with ht | ht
    · exact ok t ht
    · cases b with
      | true => rw [List.mem_singleton.mp ht]; exact trivial
      | false => cases ht
  · cases b <;> decide
  · by_cases hi : i ≤ es.length
    · rw [List.take_append_of_le_length hi, simples_kind fun e he => si e (List.mem_of_mem_take he)] at h
      cases h
      decide
    · have : (es ++ (if b then [Deed.both] else [])).take i = es ++ (if b then [Deed.both] else []) := by
        apply List.take_of_length_le
        rw [List.length_append]
        cases b <;> simp <;> omega
      rw [this, hk] at h
      cases h
      cases b <;> decide
theorem mid_one {k k' : Kd} {d : Deed} (h : kindD d k = some k') (hd : k'.dp ≤ k.dp + 1) : ∀ i k1, kindAll ([d].take i) k = some k1 → k1.dp ≤ k.dp + 1 := by
  intro i k1 e
  cases i with
  | zero => cases e; omega
  | succ i =>
    have e : (kindD d k).bind (kindAll ([].take i)) = some k1 := e
    rw [h, List.take_nil] at e
    cases e
    exact hd
theorem mid_two {k k' k2 : Kd} {d e : Deed} (h : kindD d k = some k') (h2 : kindD e k' = some k2) (hd : k'.dp ≤ k.dp + 1) (hd2 : k2.dp ≤ k.dp + 1) : ∀ i k1, kindAll ([d, e].take i) k = some k1 → k1.dp ≤ k.dp + 1 := by
  intro i k1 q
  cases i with
  | zero => cases q; omega
  | succ i =>
    have q : (kindD d k).bind (kindAll ([e].take i)) = some k1 := q
    rw [h] at q
    cases i with
    | zero => cases q; exact hd
    | succ i =>
      have q : (kindD e k').bind (kindAll ([].take i)) = some k1 := q
      rw [h2, List.take_nil] at q
      cases q
      exact hd2
/-! ### the tactic words: one answer at a time -/
open PySem PySem.Spec PyProof.Rows L2
/-! ### what _law_like compares -/
mutual
def lk : PyData → Bool
  | .none => true
  | .int _ => true
  | .str _ => true
  | .tuple xs => decide (xs.length ≤ 100000000) && lks xs
  | .list xs => decide (xs.length ≤ 100000000) && lks xs
  | .bool _ => false
  | .dict _ => false
def lks : List PyData → Bool
  | [] => true
  | x :: xs => lk x && lks xs
end
theorem lks_get : ∀ {ds : List PyData} {i : Nat} {d : PyData}, lks ds = true → ds[i]? = some d → lk d = true
  | [], _, _, _, e => by simp at e
  | x :: xs, 0, d, h, e => by
    have h : (lk x && lks xs) = true := h
    rw [Bool.and_eq_true] at h
    simp at e
    rw [← e]
    exact h.1
  | x :: xs, i + 1, d, h, e => by
    have h : (lk x && lks xs) = true := h
    rw [Bool.and_eq_true] at h
    exact lks_get (ds := xs) (i := i) h.2 (by simpa using e)
theorem depth_get : ∀ {ds : List PyData} {i : Nat} {d : PyData}, ds[i]? = some d → d.depth ≤ PyData.depthAll ds
  | [], _, _, e => by simp at e
  | x :: xs, 0, d, e => by
    simp at e
    rw [← e]
    show _ ≤ max _ _
    omega
  | x :: xs, i + 1, d, e => by
    have := depth_get (ds := xs) (i := i) (d := d) (by simpa using e)
    show _ ≤ max _ _
    omega
theorem lks_all : ∀ {xs : List PyData}, (∀ x ∈ xs, lk x = true) → lks xs = true
  | [], _ => rfl
  | x :: xs, h => by
    show (lk x && lks xs) = true
    rw [h x List.mem_cons_self, lks_all fun y hy => h y (List.mem_cons_of_mem _ hy)]
    rfl
theorem depth_all {n : Nat} : ∀ {xs : List PyData}, (∀ x ∈ xs, x.depth ≤ n) → PyData.depthAll xs ≤ n
  | [], _ => Nat.zero_le _
  | x :: xs, h => by
    have h1 := h x List.mem_cons_self
    have h2 := depth_all (xs := xs) fun y hy => h y (List.mem_cons_of_mem _ hy)
    show max _ _ ≤ _
    omega
theorem lk_tuple {xs : List PyData} (h : ∀ x ∈ xs, lk x = true) (hl : xs.length ≤ 100000000) : lk (.tuple xs) = true := by
  show (decide (xs.length ≤ 100000000) && lks xs) = true
  rw [decide_eq_true hl, lks_all h]
  rfl
theorem lk_list {xs : List PyData} (h : ∀ x ∈ xs, lk x = true) (hl : xs.length ≤ 100000000) : lk (.list xs) = true := by
  show (decide (xs.length ≤ 100000000) && lks xs) = true
  rw [decide_eq_true hl, lks_all h]
  rfl
theorem Has_lk {k : Kd} {x : PyData} (h : Has k x) : lk x = true := by
  induction h with
  | num h => rfl
  | pair h1 h2 a b => exact lk_tuple (fun x hx => by rcases List.mem_cons.mp hx with rfl | hx; exact a; rw [List.mem_singleton.mp hx]; exact b) (by simp)
  | row h hl ih => exact lk_tuple ih (by omega)
theorem Has_depth {k : Kd} {x : PyData} (h : Has k x) : x.depth ≤ k.dp := by
  induction h with
  | num h => exact Nat.zero_le _
  | pair h1 h2 a b =>
    show max _ (max _ 0) + 1 ≤ max _ _ + 1
    omega
  | row h hl ih =>
    have := depth_all ih
    show PyData.depthAll _ + 1 ≤ _ + 1
    omega
theorem doneAll_has {ds : List Deed} {k k' : Kd} {x : PyData} (hx : Has k x) (hk : kindAll ds k = some k') (ok : ∀ e ∈ ds, e.Ok) : Has k' (doneAll ds x) := by
  induction ds generalizing k x with
  | nil => cases hk; exact hx
  | cons d ds ih =>
    have hk : (kindD d k).bind (kindAll ds) = some k' := hk
    cases q : kindD d k with
    | none => rw [q] at hk; cases hk
    | some z =>
      rw [q] at hk
      exact ih (doneD_has (ok d List.mem_cons_self) hx q) hk fun e he => ok e (List.mem_cons_of_mem _ he)
def tyN : PyData → String
  | .none => "NoneType"
  | .bool _ => "bool"
  | .int _ => "int"
  | .str _ => "str"
  | .tuple _ => "tuple"
  | .list _ => "list"
  | .dict _ => "dict"
section
variable {K : PySem.W.Frag} {H H' : Hp}
theorem Dp_ty {v : V} {d : PyData} (h : Dp K H v d) : TyX K H v (.type (tyN d)) := by
  cases h with
  | non => exact .base .non
  | bl b => exact .base (.bl b)
  | int i => exact .base (.int i)
  | str x => exact .base (.str x)
  | lst hs _ =>
    rcases hs with (h | ⟨o, h⟩) | ⟨o, its, n, hk, hc, _⟩
    · exact .base (.lst h)
    · exact .base (.frz h)
    · exact .kList hk hc
  | tup hs _ =>
    rcases hs with (h | ⟨o, h⟩) | ⟨o, its, n, hk, hc, _⟩
    · exact .base (.tup h)
    · exact .fTuple h
    · exact .kTuple hk hc
theorem DpAll_len : ∀ {vs : List V} {ds : List PyData}, DpAll K H vs ds → vs.length = ds.length
  | _, _, .nil => rfl
  | _, _, .cons _ t => congrArg Nat.succ (DpAll_len t)
theorem DpAll_got : ∀ {vs : List V} {ds : List PyData} {i : Nat} {d : PyData}, DpAll K H vs ds → ds[i]? = some d → ∃ v, vs[i]? = some v ∧ Dp K H v d
  | _, _, i, _, .nil, e => by simp at e
  | _, _, 0, v, .cons r _, e => by simp at e; subst e; exact ⟨_, rfl, r⟩
  | _, _, i + 1, v, .cons _ t, e => by
    obtain ⟨d, h1, h2⟩ := DpAll_got (i := i) (d := v) t (by simpa using e)
    exact ⟨d, by simpa using h1, h2⟩
theorem Dp_i {v : V} {i : Int} (h : Dp K H v (.int i)) : v = .int i := by cases h; rfl
theorem Dp_s {v : V} {i : Str} (h : Dp K H v (.str i)) : v = .str i := by cases h; rfl
theorem Dp_n {v : V} (h : Dp K H v .none) : v = .non := by cases h; rfl
theorem Acc.dp {l : Addr} {ds : List PyData} (h : Acc K H l ds) : Dp K H (.ref l) (.list ds) := by
  obtain ⟨vs, e, i⟩ := h
  exact .lst (SqL.of e) (Ims.dp ds vs i)
theorem Im.p {v : V} {d : PyData} (h : Im K H v d) : Dp K H v d := Im.dp d v h
end
section
variable {X : Cx}
/-- isinstance of data -/
def rIsD (K : PySem.W.Frag) : List V → Hp → VK → Prop := fun xs H Q => ∃ (v : V) (n : String) (d : PyData) (b : Bool), xs = [v, .ty n] ∧ Dp K H v d ∧ kitB (tyN d) n = some b ∧ Q (.bl b) H
theorem call_isD : CallR X (.builtin "isinstance") (rIsD X.K) := CallR.imp call_isi fun xs H Q q => by
  obtain ⟨v, n, d, b, rfl, hd, hk, q⟩ := q
  exact ⟨v, .ty n, _, _, b, rfl, .ty n, Dp_ty hd, kit_ty hk, q⟩
/-- isinstance of a bool -/
def rIsB (K : PySem.W.Frag) : List V → Hp → VK → Prop := fun xs H Q => ∃ (c : Bool) (n : String) (b : Bool), xs = [.bl c, .ty n] ∧ kitB "bool" n = some b ∧ Q (.bl b) H
theorem call_isB : CallR X (.builtin "isinstance") (rIsB X.K) := CallR.imp call_isi fun xs H Q q => by
  obtain ⟨c, n, b, rfl, hk, q⟩ := q
  exact ⟨_, .ty n, _, _, b, rfl, .ty n, .base (.bl c), kit_ty hk, q⟩
/-- len of data, lists too -/
def rLenP (K : PySem.W.Frag) : List V → Hp → VK → Prop := fun xs H Q => ∃ v ds, xs = [v] ∧ (Dp K H v (.tuple ds) ∨ Dp K H v (.list ds)) ∧ Q (.int ds.length) H
theorem call_lenP : CallR X (.builtin "len") (rLenP X.K) := CallR.imp call_len_seq fun xs H Q q => by
  obtain ⟨v, ds, rfl, h, k⟩ := q
  rcases h with h | h
  · cases h with
    | tup ht hs => exact ⟨_, _, rfl, .inr ht, by rw [DpAll_len hs]; exact k⟩
  · cases h with
    | lst ht hs => exact ⟨_, _, rfl, .inl ht, by rw [DpAll_len hs]; exact k⟩
def rIxP (K : PySem.W.Frag) : R2 := fun x y H Q => ∃ (ds : List PyData) (i : Int) (j : Nat) (d : PyData), (Dp K H x (.tuple ds) ∨ Dp K H x (.list ds)) ∧ y = .int i ∧ i = (j : Int) ∧ ds[j]? = some d ∧ ∀ v, Dp K H v d → Q v H
theorem ix_P : IxR X (rIxP X.K) := IxR.imp ix_seq fun x y H Q q => by
  obtain ⟨ds, i, j, d, h, rfl, hi, hd, k⟩ := q
  rcases h with h | h
  · cases h with
    | tup ht hs =>
      obtain ⟨v, hv, iv⟩ := DpAll_got hs hd
      exact .inr (.inl ⟨_, _, i, v, rfl, rfl, ht, at_of hi hv, k v iv⟩)
  · cases h with
    | lst ht hs =>
      obtain ⟨v, hv, iv⟩ := DpAll_got hs hd
      exact .inl ⟨_, _, i, v, rfl, rfl, ht, at_of hi hv, k v iv⟩
end
open PySem PySem.Spec PyProof.Rows L2
def cutD (ds : List PyData) (lo hi : Option Int) : List PyData := (ds.drop (HT.sIx ds.length 0 lo)).take (HT.sIx ds.length ds.length hi - HT.sIx ds.length 0 lo)
section
variable {K : PySem.W.Frag} {H H' : Hp}
theorem Ims.drop : ∀ {vs : List V} {ds : List PyData} (n : Nat), Ims K H vs ds → Ims K H (vs.drop n) (ds.drop n)
  | _, _, 0, h => h
  | _, _, _ + 1, .nil => .nil
  | _, _, n + 1, .cons _ t => Ims.drop n t
theorem Ims.take : ∀ {vs : List V} {ds : List PyData} (n : Nat), Ims K H vs ds → Ims K H (vs.take n) (ds.take n)
  | _, _, 0, _ => .nil
  | _, _, _ + 1, .nil => .nil
  | _, _, n + 1, .cons r t => .cons r (Ims.take n t)
end
section
variable {X : Cx}
theorem SlR.imp {r r' : V → Option Int → Option Int → Hp → VK → Prop} (h : SlR X r) (k : ∀ x lo hi H Q, r' x lo hi H Q → r x lo hi H Q) : SlR X r' := by
  intro pins s σ H x v vl vu lo hi sl Q I rx hs pl pu q
  exact h pins s σ H x v vl vu lo hi sl Q I rx hs pl pu (k _ _ _ _ _ q)
/-- t[lo:hi] of data -/
def rSlD (K : PySem.W.Frag) : V → Option Int → Option Int → Hp → VK → Prop := fun x lo hi H Q => ∃ ds, Im K H x (.tuple ds) ∧ ∀ v H', Same H H' → TK K H H' → Im K H' v (.tuple (cutD ds lo hi)) → Q v H'
theorem sl_tupD : SlR X (rSlD X.K) := SlR.imp sl_tupA fun x lo hi H Q q => by
  obtain ⟨ds, i, k⟩ := q
  obtain ⟨a, xs, rfl, ht, hs⟩ := i.t
  refine ⟨a, xs, rfl, ht, fun hw => ?_, fun hw p hp => ?_⟩
  · refine k _ H (Same.refl H) TK.refl ?_
    have e : cutD ds lo hi = ds := by
      unfold cutD
      rw [← hs.len, hw.1, hw.2]
      rw [List.drop_zero, hs.len, Nat.sub_zero, List.take_length]
    rw [e]
    exact i
  · have s := same_new (o := HO.tup (cutV xs lo hi)) hp
    refine k _ _ s (same_tk s) (.tup (SqT.of upd_same) ?_)
    have t := ((hs.u (same_tk s)).drop (HT.sIx xs.length 0 lo)).take (HT.sIx xs.length xs.length hi - HT.sIx xs.length 0 lo)
    have e : cutD ds lo hi = (ds.drop (HT.sIx xs.length 0 lo)).take (HT.sIx xs.length xs.length hi - HT.sIx xs.length 0 lo) := by
      unfold cutD
      rw [hs.len]
    rw [e]
    exact t
/-- x in a tuple of data -/
def rInT (K : PySem.W.Frag) : R2 := fun x y H Q => ∃ d ds, Im K H x d ∧ Im K H y (.tuple ds) ∧ SeqAt.shaped d = true ∧ PyData.canLayAll0 ds = true ∧ Q (.bl (ds.any fun z => PyData.eqv z d)) H
theorem op_inT (hu : X.A.units + 65 < cLine) : OpR X (compareOp .In) (rInT X.K) := by
  intro pins s σ H x y v u Q I rx ry h
  obtain ⟨d, ds, hd, he, sd, se, q⟩ := h
  obtain ⟨as, r1⟩ := Dp.reads I d x v hd.p rx
  obtain ⟨bs, r2⟩ := Dp.reads I (.tuple ds) y u he.p ry
  exact SeqAt.in_tuple_reads r2 r1 se (SeqAt.canLay_of_shaped sd) (room_in_shaped sd hu) ⟨.bl _, H, I, rfl, q⟩
theorem hu65 {A : Around} {k : Nat} (hr : Room k A) : A.units + 65 < cLine := by have := hr.un; omega
/-- a text in a tuple of texts -/
def rInS (K : PySem.W.Frag) : R2 := fun x y H Q => ∃ (z : Str) (ws : List Str), x = .str z ∧ Im K H y (.tuple (ws.map PyData.str)) ∧ Q (.bl (decide (z ∈ ws))) H
theorem strs_all : ∀ ws : List Str, (ws.map V.str).all flatV = true
  | [] => rfl
  | w :: ws => by
    show (true && (ws.map V.str).all flatV) = true
    rw [strs_all ws]
    rfl
theorem strs_in {z : Str} : ∀ ws : List Str, inV (V.str z) (ws.map V.str) = decide (z ∈ ws)
  | [] => by simp [inV]
  | w :: ws => by
    have h := strs_in (z := z) ws
    show ((w == z) || inV (V.str z) (ws.map V.str)) = _
    rw [h]
    by_cases e : w = z
    · subst e; simp
    · have e' : ¬ z = w := fun q => e q.symm
      simp [e, e']
theorem Ims_strs {K : PySem.W.Frag} {H : Hp} : ∀ (ws : List Str) {vs : List V}, Ims K H vs (ws.map PyData.str) → vs = ws.map V.str
  | [], _, h => by cases h; rfl
  | n :: ns, _, h => by
    cases h with
    | cons a b => cases a; rw [Ims_strs ns b]; rfl
theorem op_inTS : OpR X (compareOp .In) (rInS X.K) := OpR.imp op_in_seq fun x y H Q q => by
  obtain ⟨z, ws, rfl, i, q⟩ := q
  obtain ⟨a, xs, rfl, ht, hs⟩ := i.t
  rw [Ims_strs _ hs] at ht
  refine ⟨a, _, rfl, .inr ht, rfl, strs_all ws, ?_⟩
  rw [if_neg Bool.false_ne_true, strs_in]
  exact q
/-- an int not in a list of ints -/
def rNotInI (K : PySem.W.Frag) : R2 := fun x y H Q => ∃ (z : Int) (l : Addr) (ns : List Int), x = .int z ∧ y = .ref l ∧ Acc K H l (ns.map PyData.int) ∧ Q (.bl (!decide (z ∈ ns))) H
theorem ints_all : ∀ ns : List Int, (ns.map V.int).all flatV = true
  | [] => rfl
  | w :: ws => by
    show (true && (ws.map V.int).all flatV) = true
    rw [ints_all ws]
    rfl
theorem ints_in {z : Int} : ∀ ws : List Int, inV (V.int z) (ws.map V.int) = decide (z ∈ ws)
  | [] => by simp [inV]
  | w :: ws => by
    have h := ints_in (z := z) ws
    show ((w == z) || inV (V.int z) (ws.map V.int)) = _
    rw [h]
    by_cases e : w = z
    · subst e; simp
    · have e' : ¬ z = w := fun q => e q.symm
      simp [e, e']
theorem op_notInI : OpR X (compareOp .NotIn) (rNotInI X.K) := OpR.imp op_notIn_seq fun x y H Q q => by
  obtain ⟨z, l, ns, rfl, rfl, ⟨vs, e, i⟩, q⟩ := q
  rw [Ims.of_ints _ i] at e
  refine ⟨l, _, rfl, .inl (SqL.of e), rfl, ints_all ns, ?_⟩
  rw [if_pos rfl, ints_in]
  exact q
/-- t[-1] and its like -/
def rIxN (K : PySem.W.Frag) : R2 := fun x y H Q => ∃ (ds : List PyData) (i : Int) (j : Nat) (d : PyData), Im K H x (.tuple ds) ∧ y = .int i ∧ ixN ds.length i = some j ∧ ds[j]? = some d ∧ ∀ v, Im K H v d → Q v H
theorem ix_tupN : IxR X (rIxN X.K) := IxR.imp ix_tup fun x y H Q q => by
  obtain ⟨ds, i, j, d, im, rfl, hi, hd, k⟩ := q
  obtain ⟨a, xs, rfl, ht, hs⟩ := im.t
  obtain ⟨v, hv, iv⟩ := hs.got hd
  refine ⟨a, xs, i, v, rfl, rfl, ht, ?_, k v iv⟩
  unfold atI
  rw [hs.len, hi]
  exact hv
/-- for i, x in enumerate(list) -/
theorem for_enum {K : PySem.W.Frag} {a : Addr} {xs : List V} {g : TG} {tb : TS} {D : Ends} {σ : L2.St} {H : Hp} (Pv : Nat → L2.St → Hp → Prop) (h0 : Pv 0 σ H) (hl : ∀ i σ H, i ≤ xs.length → Pv i σ H → SqL K H a xs)
    (hs : ∀ i x σ H T H1, xs[i]? = some x → Pv i σ H → H T = none → Same H H1 → H1 T = some (.tup [.int (i : Nat), x]) → g (.ref T) σ H1 fun σ2 H2 => tb { D with nx := Pv (i + 1), ct := Pv (i + 1), bk := D.nx } σ2 H2) (hd : ∀ σ H, Pv xs.length σ H → D.nx σ H) :
    ∃ W : Nat → Nat → L2.St → Hp → Prop, (∃ m, W 0 m σ H) ∧ ∀ i m σ H, W i m σ H →
      ((Ite K a).stop i H ∧ D.nx σ H) ∨ ((Ite K a).go i H ∧ ∃ N : L2.St → Hp → Prop, (∀ σ' H', N σ' H' → ∃ m', m' < m ∧ W (i + 1) m' σ' H') ∧ ∀ x H', (Ite K a).yld i H x H' → g x σ H' fun σ2 H2 => tb { D with nx := N, ct := N, bk := D.nx } σ2 H2) := by
  refine ⟨fun i m σ H => m = xs.length - i ∧ i ≤ xs.length ∧ Pv i σ H, ⟨xs.length, by simp, Nat.zero_le _, h0⟩, ?_⟩
  rintro i m σ H ⟨rfl, hi, p⟩
  have q := hl i σ H hi p
  by_cases hlt : i < xs.length
  · refine .inr ⟨⟨xs, xs[i], q, by simp [hlt]⟩, Pv (i + 1), fun σ' H' p' => ⟨xs.length - (i + 1), by omega, rfl, hlt, p'⟩, fun x H' y => ?_⟩
    obtain ⟨T, x1, rfl, hT, rfl, f⟩ := y
    exact hs i x1 σ H T _ (f xs q) p hT (same_new hT) upd_same
  · have e : i = xs.length := by omega
    subst e
    exact .inl ⟨⟨xs, q, Nat.le_refl _⟩, hd σ H p⟩
/-- the loop of a comprehension's clause -/
theorem pi_tupK {X : Cx} {K : PySem.W.Frag} {tg l : Expr} {tl : TE} (hK : X.K = K) (hl : PE X l tl) : PI X tg l (iTup K tl) := by subst hK; exact pi_tup hl
theorem loop_tup {K : PySem.W.Frag} {a : Addr} {xs : List V} {B : (Hp → Prop) → V → Hp → Prop} {E : Hp → Prop} {H1 : Hp} (Pv : Nat → Hp → Prop) (h0 : Pv 0 H1) (hl : ∀ i H, i ≤ xs.length → Pv i H → SqT K H a xs)
    (hs : ∀ i x H, xs[i]? = some x → Pv i H → B (Pv (i + 1)) x H) (hd : ∀ H, Pv xs.length H → E H) :
    ∃ W : Nat → Nat → Hp → Prop, (∃ m, W 0 m H1) ∧ ∀ i m H, W i m H →
      ((Itt K a).stop i H ∧ E H) ∨ ((Itt K a).go i H ∧ ∃ Nx : Hp → Prop, (∀ H', Nx H' → ∃ m', m' < m ∧ W (i + 1) m' H') ∧ ∀ x H', (Itt K a).yld i H x H' → B Nx x H') := by
  refine ⟨fun i m H => m = xs.length - i ∧ i ≤ xs.length ∧ Pv i H, ⟨xs.length, by simp, Nat.zero_le _, h0⟩, ?_⟩
  rintro i m H ⟨rfl, hi, p⟩
  have q := hl i H hi p
  by_cases hlt : i < xs.length
  · refine .inr ⟨⟨xs, xs[i], q, by simp [hlt]⟩, Pv (i + 1), fun H' p' => ⟨xs.length - (i + 1), by omega, rfl, hlt, p'⟩, fun x H' y => ?_⟩
    obtain ⟨e, y⟩ := y
    subst e
    exact hs i x _ (y xs q) p
  · have e : i = xs.length := by omega
    subst e
    exact .inl ⟨⟨xs, q, Nat.le_refl _⟩, hd H p⟩
theorem loop_list {K : PySem.W.Frag} {a : Addr} {xs : List V} {B : (Hp → Prop) → V → Hp → Prop} {E : Hp → Prop} {H1 : Hp} (Pv : Nat → Hp → Prop) (h0 : Pv 0 H1) (hl : ∀ i H, i ≤ xs.length → Pv i H → SqL K H a xs)
    (hs : ∀ i x H, xs[i]? = some x → Pv i H → B (Pv (i + 1)) x H) (hd : ∀ H, Pv xs.length H → E H) :
    ∃ W : Nat → Nat → Hp → Prop, (∃ m, W 0 m H1) ∧ ∀ i m H, W i m H →
      ((Itl K a).stop i H ∧ E H) ∨ ((Itl K a).go i H ∧ ∃ Nx : Hp → Prop, (∀ H', Nx H' → ∃ m', m' < m ∧ W (i + 1) m' H') ∧ ∀ x H', (Itl K a).yld i H x H' → B Nx x H') := by
  refine ⟨fun i m H => m = xs.length - i ∧ i ≤ xs.length ∧ Pv i H, ⟨xs.length, by simp, Nat.zero_le _, h0⟩, ?_⟩
  rintro i m H ⟨rfl, hi, p⟩
  have q := hl i H hi p
  by_cases hlt : i < xs.length
  · refine .inr ⟨⟨xs, xs[i], q, by simp [hlt]⟩, Pv (i + 1), fun H' p' => ⟨xs.length - (i + 1), by omega, rfl, hlt, p'⟩, fun x H' y => ?_⟩
    obtain ⟨e, y⟩ := y
    subst e
    exact hs i x _ (y xs q) p
  · have e : i = xs.length := by omega
    subst e
    exact .inl ⟨⟨xs, q, Nat.le_refl _⟩, hd H p⟩
theorem loop_rng {lo : Int} {n : Nat} {B : (Hp → Prop) → V → Hp → Prop} {E : Hp → Prop} {H1 : Hp} (Pv : Nat → Hp → Prop) (h0 : Pv 0 H1)
    (hs : ∀ i H, i < n → Pv i H → B (Pv (i + 1)) (.int (lo + i)) H) (hd : ∀ H, Pv n H → E H) :
    ∃ W : Nat → Nat → Hp → Prop, (∃ m, W 0 m H1) ∧ ∀ i m H, W i m H →
      ((Itr lo n).stop i H ∧ E H) ∨ ((Itr lo n).go i H ∧ ∃ Nx : Hp → Prop, (∀ H', Nx H' → ∃ m', m' < m ∧ W (i + 1) m' H') ∧ ∀ x H', (Itr lo n).yld i H x H' → B Nx x H') := by
  refine ⟨fun i m H => m = n - i ∧ i ≤ n ∧ Pv i H, ⟨n, by simp, Nat.zero_le _, h0⟩, ?_⟩
  rintro i m H ⟨rfl, hi, p⟩
  by_cases hlt : i < n
  · refine .inr ⟨hlt, Pv (i + 1), fun H' p' => ⟨n - (i + 1), by omega, rfl, hlt, p'⟩, fun x H' y => ?_⟩
    obtain ⟨e, y⟩ := y
    subst e y
    exact hs i _ hlt p
  · have e : i = n := by omega
    subst e
    exact .inl ⟨Nat.le_refl _, hd H p⟩
end
open PySem PySem.Spec PyProof.Rows L2
/-! ### lines and weaves -/
inductive Ln where
  | source (k : Int) | map (ds : List Deed) (a : Int) | keep (ts : List Tst) (a : Int) | whil (ts : List Tst) (a : Int)
  | take (n a : Int) | skip (n a : Int) | group (m a : Int) | window (n a : Int) | fold (w : Fw) (n a : Int)
  | chain (a b : Int) | pair (a b : Int) | merge (a b : Int)
  deriving DecidableEq
def Ln.d : Ln → PyData
  | .source k => .tuple [.str "source", .int k]
  | .map ds a => .tuple [.str "map", .tuple (ds.map Deed.d), .int a]
  | .keep ts a => .tuple [.str "keep", .tuple (ts.map Tst.d), .int a]
  | .whil ts a => .tuple [.str "while", .tuple (ts.map Tst.d), .int a]
  | .take n a => .tuple [.str "take", .int n, .int a]
  | .skip n a => .tuple [.str "skip", .int n, .int a]
  | .group n a => .tuple [.str "group", .int n, .int a]
  | .window n a => .tuple [.str "window", .int n, .int a]
  | .fold w n a => .tuple [.str "fold", .str w.s, .int n, .int a]
  | .chain a b => .tuple [.str "chain", .int a, .int b]
  | .pair a b => .tuple [.str "pair", .int a, .int b]
  | .merge a b => .tuple [.str "merge", .int a, .int b]
/-- the lines that it names -/
def Ln.names : Ln → List Int
  | .source _ => []
  | .map _ a => [a]
  | .keep _ a => [a]
  | .whil _ a => [a]
  | .take _ a => [a]
  | .skip _ a => [a]
  | .group _ a => [a]
  | .window _ a => [a]
  | .fold _ _ a => [a]
  | .chain a b => [a, b]
  | .pair a b => [a, b]
  | .merge a b => [a, b]
def Ln.src : Ln → Option Int
  | .source k => some k
  | _ => none
def isNum (n : Int) : Bool := decide (0 ≤ n) && decide (n < 1000003)
theorem isNum_iff {n : Int} : isNum n = true ↔ Num n := by
  unfold isNum Num
  rw [Bool.and_eq_true, decide_eq_true_eq, decide_eq_true_eq]
def deedNum : Deed → Bool
  | .add n => isNum n
  | .times n => isNum n
  | _ => true
def tstNum : Tst → Bool
  | .below n => isNum n
  | .over n => isNum n
  | .rest m r => isNum m && (decide (0 ≤ r) && decide (r < m))
theorem deedNum_iff {d : Deed} : deedNum d = true ↔ d.Ok := by
  cases d with
  | add n => exact isNum_iff
  | times n => exact isNum_iff
  | _ => exact ⟨fun _ => trivial, fun _ => rfl⟩
theorem tstNum_iff {t : Tst} : tstNum t = true ↔ t.Ok := by
  cases t with
  | below n => exact isNum_iff
  | over n => exact isNum_iff
  | rest m r =>
    show (isNum m && (decide (0 ≤ r) && decide (r < m))) = true ↔ (Num m ∧ 0 ≤ r ∧ r < m)
    rw [Bool.and_eq_true, Bool.and_eq_true, decide_eq_true_eq, decide_eq_true_eq, isNum_iff]
def deedsCan (ds : List Deed) : Bool := (decide (1 ≤ ds.length) && decide (ds.length ≤ 64)) && ds.all deedNum
def testsCan (ts : List Tst) : Bool := (decide (1 ≤ ts.length) && decide (ts.length ≤ 64)) && ts.all tstNum
/-- its numbers -/
def numOk : Ln → Bool
  | .map ds _ => deedsCan ds
  | .keep ts _ => testsCan ts
  | .whil ts _ => testsCan ts
  | .take n _ => decide (0 ≤ n) && decide (n ≤ 9999)
  | .skip n _ => decide (0 ≤ n) && decide (n ≤ 9999)
  | .group m _ => decide (1 ≤ m) && isNum m
  | .window n _ => decide (1 ≤ n) && decide (n ≤ 9)
  | .fold _ n _ => isNum n
  | _ => true
/-- its places -/
def placeOk (l : Ln) (at_ many : Int) (srcs : List Int) : Bool :=
  match l with
  | .source k => (decide (0 ≤ k) && decide (k < many)) && !decide (k ∈ srcs)
  | l => l.names.all fun a => decide (0 ≤ a) && decide (a < at_)
/-- its kind, by those of the lines that it names -/
def kindN : Ln → List Kd → Option Kd
  | .source _, _ => some .num
  | .map ds _, [k] => kindAll ds k
  | .keep _ _, [k] => if k = .num then some .num else none
  | .whil _ _, [k] => if k = .num then some .num else none
  | .take _ _, [k] => some k
  | .skip _ _, [k] => some k
  | .group _ _, [k] => if k = .num then some (.pair .num (.row .num)) else none
  | .window _ _, [k] => some (.row k)
  | .fold _ _ _, [k] => if k = .num then some .num else none
  | .chain _ _, [k, j] => if k = j then some k else none
  | .pair _ _, [k, j] => some (.pair k j)
  | .merge _ _, [k, j] => if k = .num ∧ j = .num then some .num else none
  | _, _ => none
def namedK (ks : List Kd) : List Int → Option (List Kd)
  | [] => some []
  | a :: r => (ks[a.toNat]?).bind fun k => (namedK ks r).map (k :: ·)
def kindL (l : Ln) (ks : List Kd) : Option Kd := (namedK ks l.names).bind (kindN l)
def srcs (ls : List Ln) : List Int := ls.filterMap Ln.src
def two : Ln → Bool
  | .chain _ _ => true
  | .merge _ _ => true
  | _ => false
/-- no kind on the way of its deeds is too deep -/
def midOk (l : Ln) (ks : List Kd) : Prop := ∀ ds a k, l = .map ds a → namedK ks l.names = some [k] → ∀ i k1, kindAll (ds.take i) k = some k1 → k1.dp ≤ 60
/-- a weave that can be, its kinds -/
inductive GoodW (many : Int) : List Ln → List Kd → Prop
  | nil : GoodW many [] []
  | snoc {ls : List Ln} {ks : List Kd} {l : Ln} {k : Kd} (w : GoodW many ls ks) (hp : placeOk l ls.length many (srcs ls) = true) (hn : numOk l = true) (hk : kindL l ks = some k) (hd : k.dp ≤ 8) (hm : midOk l ks) : GoodW many (ls ++ [l]) (ks ++ [k])
theorem GoodW.len {many : Int} {ls : List Ln} {ks : List Kd} (w : GoodW many ls ks) : ls.length = ks.length := by
  induction w with
  | nil => rfl
  | snoc _ _ _ _ _ _ ih => rw [List.length_append, List.length_append, ih]; rfl
theorem GoodW.at {many : Int} {ls : List Ln} {ks : List Kd} (w : GoodW many ls ks) : ∀ {i : Nat} {l : Ln}, ls[i]? = some l →
    ∃ k, ks[i]? = some k ∧ placeOk l i many (srcs (ls.take i)) = true ∧ numOk l = true ∧ kindL l (ks.take i) = some k ∧ k.dp ≤ 8 ∧ midOk l (ks.take i) := by
  induction w with
  | nil => intro i l h; simp at h
  | @snoc ls ks l k w hp hn hk hd hm ih =>
    intro i l' h
    have hl := w.len
    by_cases hi : i < ls.length
    · rw [List.getElem?_append_left hi] at h
      obtain ⟨k', a1, a2, a3, a4, a5, a6⟩ := ih h
      refine ⟨k', by rw [List.getElem?_append_left (by omega)]; exact a1, ?_, a3, ?_, a5, ?_⟩
      · rw [List.take_append_of_le_length (by omega)]
        exact a2
      · rw [List.take_append_of_le_length (by omega)]
        exact a4
      · rw [List.take_append_of_le_length (by omega)]
        exact a6
    · have hi' : i = ls.length := by
        have := (List.getElem?_eq_some_iff.mp h).1
        rw [List.length_append] at this
        have h1 : [l].length = 1 := rfl
        omega
      subst hi'
      rw [List.getElem?_append_right (Nat.le_refl _), Nat.sub_self] at h
      obtain rfl : l = l' := Option.some.inj h
      refine ⟨k, by rw [hl, List.getElem?_append_right (Nat.le_refl _), Nat.sub_self]; rfl, ?_, hn, ?_, hd, ?_⟩
      · rw [List.take_left']
        · exact hp
        · rfl
      · rw [List.take_left']
        · exact hk
        · exact hl.symm
      · rw [List.take_left']
        · exact hm
        · exact hl.symm
def wdD : Deed → Str
  | .add _ => "add"
  | .times _ => "times"
  | .minus => "minus"
  | .first => "first"
  | .second => "second"
  | .both => "both"
  | .sum => "sum"
  | .many => "many"
def kdO : Option Kd → PyData
  | none => .none
  | some k => k.d
theorem Deed.can (d : Deed) : d.d.canLay0 = true := by
  cases d <;> simp only [Deed.d, PyData.canLay0, PyData.canLayAll0, Bool.and_true] <;> decide +kernel
theorem Tst.can (t : Tst) : t.d.canLay0 = true := by
  cases t <;> simp only [Tst.d, PyData.canLay0, PyData.canLayAll0, Bool.and_true] <;> decide +kernel
theorem canAll {α : Type} {f : α → PyData} (h : ∀ x, (f x).canLay0 = true) : ∀ xs : List α, PyData.canLayAll0 (xs.map f) = true
  | [] => rfl
  | x :: xs => by
    show ((f x).canLay0 && PyData.canLayAll0 (xs.map f)) = true
    rw [h x, canAll h xs]
    rfl
theorem depAll {α : Type} {f : α → PyData} {n : Nat} (h : ∀ x, (f x).depth ≤ n) : ∀ xs : List α, PyData.depthAll (xs.map f) ≤ n
  | [] => Nat.zero_le _
  | x :: xs => by
    have h1 := h x
    have h2 := depAll h xs
    show max _ _ ≤ n
    omega
theorem Deed.dep (d : Deed) : d.d.depth ≤ 1 := by
  cases d <;> exact Nat.le_refl _
theorem Tst.dep (t : Tst) : t.d.depth ≤ 1 := by
  cases t <;> exact Nat.le_refl _
theorem Ln.can (l : Ln) : l.d.canLay0 = true := by
  cases l with
  | map ds a =>
    simp only [Ln.d, PyData.canLay0, PyData.canLayAll0, canAll Deed.can, Bool.and_true]
    decide +kernel
  | keep ts a =>
    simp only [Ln.d, PyData.canLay0, PyData.canLayAll0, canAll Tst.can, Bool.and_true]
    decide +kernel
  | whil ts a =>
    simp only [Ln.d, PyData.canLay0, PyData.canLayAll0, canAll Tst.can, Bool.and_true]
    decide +kernel
  | fold w n a => cases w <;> (simp only [Ln.d, PyData.canLay0, PyData.canLayAll0, Bool.and_true, Fw.s]; decide +kernel)
  | _ => simp only [Ln.d, PyData.canLay0, PyData.canLayAll0, Bool.and_true]; decide +kernel
theorem Ln.dep (l : Ln) : l.d.depth ≤ 3 := by
  cases l with
  | map ds a =>
    have := depAll Deed.dep ds
    show max 0 (max (PyData.depthAll (ds.map Deed.d) + 1) (max 0 0)) + 1 ≤ 3
    omega
  | keep ts a =>
    have := depAll Tst.dep ts
    show max 0 (max (PyData.depthAll (ts.map Tst.d) + 1) (max 0 0)) + 1 ≤ 3
    omega
  | whil ts a =>
    have := depAll Tst.dep ts
    show max 0 (max (PyData.depthAll (ts.map Tst.d) + 1) (max 0 0)) + 1 ≤ 3
    omega
  | _ => exact (by decide : (1 : Nat) ≤ 3)
theorem lines_shaped (ls : List Ln) : SeqAt.shaped (.list (ls.map Ln.d)) = true := by
  have h1 := depAll Ln.dep ls
  show ((PyData.canLayAll0 (ls.map Ln.d)) && decide (PyData.depthAll (ls.map Ln.d) + 1 ≤ 64)) = true
  rw [canAll Ln.can, Bool.true_and]
  exact decide_eq_true (by omega)
theorem Kd_lk : ∀ k : Kd, lk k.d = true
  | .num => rfl
  | .pair a b => by
    have h1 := Kd_lk a
    have h2 := Kd_lk b
    show (decide (3 ≤ 100000000) && (true && (lk a.d && (lk b.d && true)))) = true
    rw [h1, h2]
    decide
  | .row a => by
    have h1 := Kd_lk a
    show (decide (2 ≤ 100000000) && (true && (lk a.d && true))) = true
    rw [h1]
    decide
def Deed.args : Deed → List Int
  | .add n => [n]
  | .times n => [n]
  | _ => []
theorem Deed.tail (d : Deed) : ∃ w, d.d = .tuple (.str w :: d.args.map PyData.int) ∧ w = wdD d := by
  cases d <;> exact ⟨_, rfl, rfl⟩
theorem cut_tail (x : PyData) (xs : List PyData) : cutD (x :: xs) (some 1) none = xs := by
  unfold cutD
  rw [show HT.sIx (x :: xs).length 0 (some 1) = min 1 (x :: xs).length from HT.sIx_nat _ 0 1, HT.sIx_none]
  rw [show min 1 (x :: xs).length = 1 by rw [List.length_cons]; omega]
  show xs.take ((x :: xs).length - 1) = xs
  rw [List.length_cons, Nat.add_sub_cancel, List.take_length]
theorem deedNum_args (d : Deed) : deedNum d = d.args.all isNum := by
  cases d with
  | add n => show isNum n = (isNum n && true); rw [Bool.and_true]
  | times n => show isNum n = (isNum n && true); rw [Bool.and_true]
  | _ => rfl
theorem deeds_all (ds : List Deed) : (ds.flatMap fun d => d.args.map isNum).all id = ds.all deedNum := by
  induction ds with
  | nil => rfl
  | cons d ds ih =>
    rw [List.flatMap_cons, List.all_append, ih, List.all_cons, deedNum_args, List.all_map]
    rfl
theorem kdO_ne {K : PySem.W.Frag} {H : Hp} {v : V} {k : Kd} (h : Im K H v k.d) : v ≠ .non := by
  cases k <;> (intro e; subst e; cases h)
theorem Kd.canAll (k : Kd) (h : k.dp ≤ 20) : PyData.canLayAll0 [k.d] = true := by
  show (k.d.canLay0 && true) = true
  rw [k.can]
  rfl
theorem namedK_at : ∀ {ks : List Kd} {as : List Int} {kn : List Kd}, namedK ks as = some kn → as.length = kn.length ∧ ∀ (j : Nat) (a : Int), as[j]? = some a → ∃ k, ks[a.toNat]? = some k ∧ kn[j]? = some k
  | ks, [], kn, h => by cases h; exact ⟨rfl, fun j a e => by simp at e⟩
  | ks, a :: as, kn, h => by
    have h : (ks[a.toNat]?).bind (fun k => (namedK ks as).map (k :: ·)) = some kn := h
    cases q : ks[a.toNat]? with
    | none => rw [q] at h; cases h
    | some k =>
      rw [q] at h
      have h : (namedK ks as).map (k :: ·) = some kn := h
      cases q2 : namedK ks as with
      | none => rw [q2] at h; cases h
      | some kr =>
        rw [q2] at h
        obtain rfl : k :: kr = kn := Option.some.inj h
        obtain ⟨l, f⟩ := namedK_at q2
        refine ⟨congrArg Nat.succ l, fun j b e => ?_⟩
        cases j with
        | zero => simp at e; subst e; exact ⟨k, q, rfl⟩
        | succ j => exact f j b (by simpa using e)
theorem kindL_some {l : Ln} {ks : List Kd} {k : Kd} (h : kindL l ks = some k) : ∃ kn, namedK ks l.names = some kn ∧ kindN l kn = some k := by
  unfold kindL at h
  cases q : namedK ks l.names with
  | none => rw [q] at h; cases h
  | some kn => rw [q] at h; exact ⟨kn, rfl, h⟩
theorem place_names {l : Ln} {at_ many : Int} {ss : List Int} (h : placeOk l at_ many ss = true) : ∀ a ∈ l.names, 0 ≤ a ∧ a < at_ := by
  intro a ha
  cases l with
  | source k => cases ha
  | _ =>
    have h := List.all_eq_true.mp h a ha
    rw [Bool.and_eq_true, decide_eq_true_eq, decide_eq_true_eq] at h
    exact h
theorem srcs_snoc {ls : List Ln} {l : Ln} : srcs (ls ++ [l]) = srcs ls ++ (match l.src with | some k => [k] | none => []) := by
  unfold srcs
  rw [List.filterMap_append]
  cases l <;> rfl
def simpleK (k : Kd) : Bool := decide (k = .num) || decide (k = .pair .num .num)
theorem simple_any (k : Kd) : ([Kd.num.d, (Kd.pair .num .num).d].any fun z => PyData.eqv z k.d) = simpleK k := by
  unfold simpleK
  rw [List.any_cons, List.any_cons, List.any_nil, Kd.eqv, Kd.eqv, Bool.or_false]
  congr 1 <;> (congr 1; exact propext ⟨fun h => h.symm, fun h => h.symm⟩)
theorem simple_dp {k : Kd} (h : simpleK k = true) : k.dp ≤ 1 := by
  unfold simpleK at h
  rw [Bool.or_eq_true, decide_eq_true_eq, decide_eq_true_eq] at h
  rcases h with rfl | rfl <;> decide
/-- a line as it is drawn behind lines of these kinds -/
structure DrawnL (ks : List Kd) (l : Ln) (k : Kd) : Prop where
  np : ∀ a ∈ l.names, 0 ≤ a ∧ a < (ks.length : Int)
  ns : l.src = none
  nn : numOk l = true
  kk : kindL l ks = some k
  dp : k.dp ≤ 2
  mid : midOk l ks
theorem DrawnL.place {ks : List Kd} {l : Ln} {k : Kd} (h : DrawnL ks l k) (many : Int) (ss : List Int) : placeOk l ks.length many ss = true := by
  have e : placeOk l ks.length many ss = l.names.all fun a => decide (0 ≤ a) && decide (a < (ks.length : Int)) := by
    cases l with
    | source k => cases h.ns
    | _ => rfl
  rw [e, List.all_eq_true]
  intro a ha
  obtain ⟨h1, h2⟩ := h.np a ha
  rw [decide_eq_true h1, decide_eq_true h2]
  rfl
theorem named_one {ks : List Kd} {a : Int} {k : Kd} (h : ks[a.toNat]? = some k) : namedK ks [a] = some [k] := by
  show (ks[a.toNat]?).bind _ = _
  rw [h]
  rfl
theorem named_two {ks : List Kd} {a b : Int} {k j : Kd} (h : ks[a.toNat]? = some k) (h2 : ks[b.toNat]? = some j) : namedK ks [a, b] = some [k, j] := by
  show (ks[a.toNat]?).bind _ = _
  rw [h]
  show (namedK ks [b]).map _ = _
  rw [named_one h2]
  rfl
theorem kindL_one {ks : List Kd} {l : Ln} {a : Int} {k : Kd} (e : l.names = [a]) (h : ks[a.toNat]? = some k) : kindL l ks = kindN l [k] := by
  unfold kindL
  rw [e, named_one h]
  rfl
theorem kindL_two {ks : List Kd} {l : Ln} {a b : Int} {k j : Kd} (e : l.names = [a, b]) (h : ks[a.toNat]? = some k) (h2 : ks[b.toNat]? = some j) : kindL l ks = kindN l [k, j] := by
  unfold kindL
  rw [e, named_two h h2]
  rfl
theorem mid_no {l : Ln} {ks : List Kd} (h : ∀ ds a, l ≠ .map ds a) : midOk l ks := fun ds a k e _ => absurd e (h ds a)
theorem DrawnL.one {ks : List Kd} {l : Ln} {a : Int} {k k' : Kd} (e : l.names = [a]) (es : l.src = none) (ha : 0 ≤ a) (h : ks[a.toNat]? = some k) (hn : numOk l = true) (hk : kindN l [k] = some k') (hd : k'.dp ≤ 2) (hm : midOk l ks) : DrawnL ks l k' := by
  refine ⟨fun b hb => ?_, es, hn, by rw [kindL_one e h]; exact hk, hd, hm⟩
  rw [e] at hb
  rw [List.mem_singleton.mp hb]
  have := (List.getElem?_eq_some_iff.mp h).1
  omega
theorem DrawnL.two {ks : List Kd} {l : Ln} {a b : Int} {k j k' : Kd} (e : l.names = [a, b]) (es : l.src = none) (ha : 0 ≤ a) (h : ks[a.toNat]? = some k) (hb : 0 ≤ b) (h2 : ks[b.toNat]? = some j) (hn : numOk l = true) (hk : kindN l [k, j] = some k') (hd : k'.dp ≤ 2) (hm : midOk l ks) : DrawnL ks l k' := by
  refine ⟨fun c hc => ?_, es, hn, by rw [kindL_two e h h2]; exact hk, hd, hm⟩
  rw [e] at hc
  have h3 := (List.getElem?_eq_some_iff.mp h).1
  have h4 := (List.getElem?_eq_some_iff.mp h2).1
  rcases List.mem_cons.mp hc with rfl | hc
  · omega
  · rw [List.mem_singleton.mp hc]
    omega
theorem DrawnL.mapD {ks : List Kd} {ds : List Deed} {a : Int} {k k' : Kd} (ha : 0 ≤ a) (h : ks[a.toNat]? = some k) (hd : k.dp ≤ 2) (d : DrawnD k ds k') : DrawnL ks (.map ds a) k' := by
  refine .one rfl rfl ha h ?_ d.kk ?_ ?_
  · show ((decide (1 ≤ ds.length) && decide (ds.length ≤ 64)) && ds.all deedNum) = true
    rw [decide_eq_true d.l1, decide_eq_true d.l2, Bool.true_and, Bool.true_and, List.all_eq_true]
    exact fun e he => deedNum_iff.mpr (d.ok e he)
  · by_cases e : k = .num
    · subst e
      have := d.dp
      simp only [Kd.dp] at this
      omega
    · have := d.dn e
      omega
  · intro ds' a' j e hj i k1 hk
    cases e
    have : namedK ks [a] = some [k] := named_one h
    have hj : namedK ks [a] = some [j] := hj
    rw [this] at hj
    cases hj
    have := d.mid i k1 hk
    omega
theorem testsCan_of {ts : List Tst} (l1 : 1 ≤ ts.length) (l2 : ts.length ≤ 64) (ok : ∀ t ∈ ts, t.Ok) : testsCan ts = true := by
  show ((decide (1 ≤ ts.length) && decide (ts.length ≤ 64)) && ts.all tstNum) = true
  rw [decide_eq_true l1, decide_eq_true l2, Bool.true_and, Bool.true_and, List.all_eq_true]
  exact fun e he => tstNum_iff.mpr (ok e he)
theorem cut_to (xs : List PyData) (n : Nat) : cutD xs none (some (n : Int)) = xs.take n := by
  unfold cutD
  rw [HT.sIx_none, HT.sIx_nat, List.drop_zero, Nat.sub_zero]
  by_cases h : n ≤ xs.length
  · rw [Nat.min_eq_left h]
  · rw [Nat.min_eq_right (by omega), List.take_length, List.take_of_length_le (by omega)]
def notBoth (d : Deed) : Bool := !decide (d = .both)
theorem simple_not {es : List Deed} (h : ∀ e ∈ es, simpleD e = true) : es.filter notBoth = es := by
  rw [List.filter_eq_self]
  intro e he
  have := h e he
  cases e <;> first | rfl | cases this
theorem drawn_cut {es : List Deed} {b : Bool} (h2 : es.length ≤ 63) (si : ∀ e ∈ es, simpleD e = true) : ((es ++ (if b then [Deed.both] else [])).take 63).filter notBoth = es := by
  rw [List.take_append, List.filter_append, List.take_of_length_le h2, simple_not si]
  have : ((if b = true then [Deed.both] else []).take (63 - es.length)).filter notBoth = [] := by
    rw [List.filter_eq_nil_iff]
    intro d hd
    have hd := List.mem_of_mem_take hd
    cases b with
    | true => rw [List.mem_singleton.mp hd]; decide
    | false => cases hd
  rw [this, List.append_nil]
theorem Deed.eqv (d : Deed) : (!PyData.eqv d.d Deed.both.d) = notBoth d := by
  cases d with
  | both => decide +kernel
  | add n =>
    have : (("add" : Str) == ("both" : Str)) = false := by decide +kernel
    simp [Deed.d, PyData.eqv, PyData.eqvAll, this, notBoth]
  | times n =>
    have : (("times" : Str) == ("both" : Str)) = false := by decide +kernel
    simp [Deed.d, PyData.eqv, PyData.eqvAll, this, notBoth]
  | _ => decide +kernel
theorem Deed.shaped (d : Deed) : SeqAt.shaped d.d = true := by
  unfold SeqAt.shaped
  rw [d.can, Bool.true_and]
  exact decide_eq_true (Nat.le_trans d.dep (by decide))
def twos (ls : List Ln) : Nat := (ls.filter two).length
theorem twos_snoc {ls : List Ln} {l : Ln} : twos (ls ++ [l]) ≤ twos ls + 1 := by
  unfold twos
  rw [List.filter_append, List.length_append]
  have := List.length_filter_le two [l]
  have h : [l].length = 1 := rfl
  omega
/-- a weave as it is drawn -/
structure DrawnW (ls : List Ln) (ks : List Kd) (many : Int) : Prop where
  good : GoodW many ls ks
  l1 : 1 ≤ ls.length
  l24 : ls.length ≤ 24
  m1 : 1 ≤ many
  m5 : many ≤ 5
  dp : ∀ k ∈ ks, k.dp ≤ 2
  tw : twos ls ≤ 7
theorem GoodW.more {many : Int} {ls : List Ln} {ks : List Kd} {l : Ln} {k : Kd} (w : GoodW many ls ks) (d : DrawnL ks l k) : GoodW many (ls ++ [l]) (ks ++ [k]) :=
  .snoc w (by rw [w.len]; exact d.place many _) d.nn d.kk (by have := d.dp; omega) d.mid
open PySem PySem.Spec PyProof.Rows L2
/-! ### lists of lists -/
inductive Rows (K : PySem.W.Frag) (H : Hp) : List Addr → List (List PyData) → Prop
  | nil : Rows K H [] []
  | cons {a : Addr} {as : List Addr} {ds : List PyData} {dss : List (List PyData)} (h : Acc K H a ds) (t : Rows K H as dss) : Rows K H (a :: as) (ds :: dss)
section
variable {K : PySem.W.Frag} {H H' : Hp}
theorem Rows.len : ∀ {as : List Addr} {dss : List (List PyData)}, Rows K H as dss → as.length = dss.length
  | _, _, .nil => rfl
  | _, _, .cons _ t => congrArg Nat.succ (Rows.len t)
theorem Rows.keep (tk : TK K H H') : ∀ {as : List Addr} {dss : List (List PyData)}, Rows K H as dss → (∀ a ∈ as, ∀ xs, H a = some (.lst xs) → H' a = some (.lst xs)) → Rows K H' as dss
  | _, _, .nil, _ => .nil
  | _, _, .cons h t, e => .cons (h.keep tk (e _ List.mem_cons_self)) (Rows.keep tk t fun a ha => e a (List.mem_cons_of_mem _ ha))
theorem Rows.same {as : List Addr} {dss : List (List PyData)} (r : Rows K H as dss) (s : Same H H') : Rows K H' as dss := r.keep (same_tk s) fun a _ _ e => s _ _ e
theorem Rows.but {D : Addr} {as : List Addr} {dss : List (List PyData)} (r : Rows K H as dss) (s : But D H H') (t : TK K H H') (ne : D ∉ as) : Rows K H' as dss :=
  r.keep t fun a ha _ e => s _ _ (fun z => ne (z ▸ ha)) e
theorem Rows.get : ∀ {as : List Addr} {dss : List (List PyData)} {i : Nat} {ds : List PyData}, Rows K H as dss → dss[i]? = some ds → ∃ a, as[i]? = some a ∧ Acc K H a ds
  | _, _, i, _, .nil, e => by simp at e
  | _, _, 0, _, .cons h _, e => by simp at e; subst e; exact ⟨_, rfl, h⟩
  | _, _, i + 1, ds, .cons _ t, e => by
    obtain ⟨a, h1, h2⟩ := Rows.get (i := i) (ds := ds) t (by simpa using e)
    exact ⟨a, by simpa using h1, h2⟩
theorem Rows.got : ∀ {as : List Addr} {dss : List (List PyData)} {i : Nat} {a : Addr}, Rows K H as dss → as[i]? = some a → ∃ ds, dss[i]? = some ds ∧ Acc K H a ds
  | _, _, i, _, .nil, e => by simp at e
  | _, _, 0, _, .cons h _, e => by simp at e; subst e; exact ⟨_, rfl, h⟩
  | _, _, i + 1, ds, .cons _ t, e => by
    obtain ⟨a, h1, h2⟩ := Rows.got (i := i) (a := ds) t (by simpa using e)
    exact ⟨a, by simpa using h1, h2⟩
theorem Rows.snoc : ∀ {as : List Addr} {dss : List (List PyData)} {a : Addr} {ds : List PyData}, Rows K H as dss → Acc K H a ds → Rows K H (as ++ [a]) (dss ++ [ds])
  | _, _, _, _, .nil, h => .cons h .nil
  | _, _, _, _, .cons r t, h => .cons r (Rows.snoc t h)
theorem Rows.mem {as : List Addr} {dss : List (List PyData)} (r : Rows K H as dss) {a : Addr} (ha : a ∈ as) : ∃ xs, H a = some (.lst xs) := by
  obtain ⟨i, hi⟩ := List.mem_iff_getElem?.mp ha
  obtain ⟨ds, _, h⟩ := r.got hi
  exact h.at
theorem Rows.fresh {as : List Addr} {dss : List (List PyData)} (r : Rows K H as dss) {p : Addr} (hp : H p = none) : p ∉ as := fun ha => by
  obtain ⟨xs, e⟩ := r.mem ha
  rw [hp] at e
  cases e
theorem Rows.dp : ∀ {as : List Addr} {dss : List (List PyData)}, Rows K H as dss → DpAll K H (as.map V.ref) (dss.map PyData.list)
  | _, _, .nil => .nil
  | _, _, .cons h t => .cons h.dp (Rows.dp t)
/-- the list p of the lists as -/
def LL (K : PySem.W.Frag) (H : Hp) (p : Addr) (as : List Addr) (dss : List (List PyData)) : Prop := H p = some (.lst (as.map V.ref)) ∧ Rows K H as dss
theorem LL.dp {p : Addr} {as : List Addr} {dss : List (List PyData)} (h : LL K H p as dss) : Dp K H (.ref p) (.list (dss.map PyData.list)) := .lst (SqL.of h.1) h.2.dp
theorem LL.same {p : Addr} {as : List Addr} {dss : List (List PyData)} (h : LL K H p as dss) (s : Same H H') : LL K H' p as dss := ⟨s _ _ h.1, h.2.same s⟩
theorem LL.but {D p : Addr} {as : List Addr} {dss : List (List PyData)} (h : LL K H p as dss) (s : But D H H') (t : TK K H H') (n1 : p ≠ D) (n2 : D ∉ as) : LL K H' p as dss := ⟨s _ _ n1 h.1, h.2.but s t n2⟩
/-- a write to the list itself -/
theorem Rows.put {p : Addr} {as : List Addr} {dss : List (List PyData)} {xs ys : List V} (h : Rows K H as dss) (e : H p = some (.lst xs)) (np : p ∉ as) : Rows K (upd H p (.lst ys)) as dss := by
  have b : But p H (upd H p (.lst ys)) := fun b u hb z => by rw [upd_ne hb]; exact z
  exact h.but b (b.tk e) np
end
def intsD (lists : List (List Int)) : List (List PyData) := lists.map fun l => l.map PyData.int
/-! ### what lines give, whole -/
def mergeI : List Int → List Int → List Int
  | [], bs => bs
  | a :: as, [] => a :: as
  | a :: as, b :: bs => if a ≤ b then a :: mergeI as (b :: bs) else b :: mergeI (a :: as) bs
termination_by as bs => as.length + bs.length
theorem merge_nil (as : List Int) : mergeI as [] = as := by
  cases as <;> simp [mergeI]
theorem nil_merge (bs : List Int) : mergeI [] bs = bs := by simp [mergeI]
theorem merge_le {a b : Int} {as bs : List Int} (h : a ≤ b) : mergeI (a :: as) (b :: bs) = a :: mergeI as (b :: bs) := by
  rw [mergeI, if_pos h]
theorem merge_gt {a b : Int} {as bs : List Int} (h : ¬ a ≤ b) : mergeI (a :: as) (b :: bs) = b :: mergeI (a :: as) bs := by
  rw [mergeI, if_neg h]
theorem merge_len (as bs : List Int) : (mergeI as bs).length = as.length + bs.length := by
  induction as generalizing bs with
  | nil => rw [nil_merge]; simp
  | cons a as iha =>
    induction bs with
    | nil => rw [merge_nil]; rfl
    | cons b bs ihb =>
      by_cases h : a ≤ b
      · rw [merge_le h, List.length_cons, iha]; simp only [List.length_cons]; omega
      · rw [merge_gt h, List.length_cons, ihb]; simp only [List.length_cons]; omega
/-- one more item of the groups by m -/
def groupS (m : Int) (acc : List (Int × List Int)) (x : Int) : List (Int × List Int) :=
  match acc.getLast? with
  | some (r, xs) => if r = x % m then acc.dropLast ++ [(r, xs ++ [x])] else acc ++ [(x % m, [x])]
  | none => [(x % m, [x])]
def groupI (m : Int) (xs : List Int) : List (Int × List Int) := xs.foldl (groupS m) []
def grD (g : Int × List Int) : PyData := .tuple [.int g.1, .tuple (g.2.map PyData.int)]
def foldI (f : Fw) (n : Int) : List Int → List Int
  | [] => []
  | x :: xs => foldF f n x :: foldI f (foldF f n x) xs
def windows (n : Nat) (xs : List PyData) : List PyData := (List.range (xs.length + 1 - n)).map fun k => .tuple ((xs.drop k).take n)
def met (ts : List Tst) (x : PyData) : Bool := ts.all fun t => holdsT t (toI x)
def listD (l : Ln) (made : List (List PyData)) (lists : List (List Int)) : List PyData :=
  let g (a : Int) := made.getD a.toNat []
  match l with
  | .source k => (lists.getD k.toNat []).map PyData.int
  | .map ds a => (g a).map (doneAll ds)
  | .keep ts a => (g a).filter (met ts)
  | .whil ts a => (g a).takeWhile (met ts)
  | .take n a => (g a).take n.toNat
  | .skip n a => (g a).drop n.toNat
  | .group m a => (groupI m ((g a).map toI)).map grD
  | .window n a => windows n.toNat (g a)
  | .fold f n a => (foldI f n ((g a).map toI)).map PyData.int
  | .chain a b => g a ++ g b
  | .pair a b => List.zipWith (fun x y => .tuple [x, y]) (g a) (g b)
  | .merge a b => (mergeI ((g a).map toI) ((g b).map toI)).map PyData.int
def plainD (ls : List Ln) (lists : List (List Int)) : List (List PyData) := ls.foldl (fun made l => made ++ [listD l made lists]) []
theorem plainD_snoc (ls : List Ln) (l : Ln) (lists : List (List Int)) : plainD (ls ++ [l]) lists = plainD ls lists ++ [listD l (plainD ls lists) lists] := by
  unfold plainD
  rw [List.foldl_append]
  rfl
theorem plainD_len (ls : List Ln) (lists : List (List Int)) : (plainD ls lists).length = ls.length := by
  unfold plainD
  suffices ∀ (acc : List (List PyData)), (ls.foldl (fun made l => made ++ [listD l made lists]) acc).length = acc.length + ls.length by
    have := this []
    simpa using this
  induction ls with
  | nil => intro acc; rfl
  | cons l ls ih =>
    intro acc
    rw [List.foldl_cons, ih, List.length_append, List.length_cons]
    simp
    omega
/-! ### rules for lists of data -/
section
variable {X : Cx}
/-- xs + ys -/
def rCatL (K : PySem.W.Frag) : R2 := fun x y H Q => ∃ l b ds es, x = .ref l ∧ y = .ref b ∧ Acc K H l ds ∧ Acc K H b es ∧ ds.length + es.length ≤ 1000000 ∧ ∀ p H', H p = none → Same H H' → TK K H H' → Acc K H' p (ds ++ es) → Q (.ref p) H'
theorem Ims.append {K : PySem.W.Frag} {H : Hp} : ∀ {xs ys : List V} {ds es : List PyData}, Ims K H xs ds → Ims K H ys es → Ims K H (xs ++ ys) (ds ++ es)
  | _, _, _, _, .nil, h => h
  | _, _, _, _, .cons r t, h => .cons r (Ims.append t h)
theorem op_catL : OpR X (binaryOp .Add) (rCatL X.K) := OpR.imp op_cat fun x y H Q q => by
  obtain ⟨l, b, ds, es, rfl, rfl, ⟨xs, e1, i1⟩, ⟨ys, e2, i2⟩, hl, k⟩ := q
  refine ⟨l, b, xs, ys, rfl, rfl, e1, e2, ?_, fun p hp => ?_⟩
  · rw [i1.len, i2.len]
    exact Nat.le_trans hl (by decide)
  · have s := same_new (o := HO.lst (xs ++ ys)) hp
    exact k p _ hp s (same_tk s) ⟨_, upd_same, (i1.append i2).u (same_tk s)⟩
/-- l.pop() -/
def rPopA (K : PySem.W.Frag) : V → List V → Hp → VK → Prop := fun x vs H Q => ∃ l ds d, x = .ref l ∧ vs = [] ∧ Acc K H l (ds ++ [d]) ∧ ∀ v H', But l H H' → TK K H H' → Im K H' v d → Acc K H' l ds → Q v H'
theorem Ims.unsnoc {K : PySem.W.Frag} {H : Hp} : ∀ {ds : List PyData} {vs : List V} {d : PyData}, Ims K H vs (ds ++ [d]) → ∃ us v, vs = us ++ [v] ∧ Ims K H us ds ∧ Im K H v d
  | [], _, _, h => by
    cases h with
    | cons a b => cases b; exact ⟨[], _, rfl, .nil, a⟩
  | e :: ds, _, _, h => by
    cases h with
    | cons a b =>
      obtain ⟨us, v, e, i, j⟩ := Ims.unsnoc (ds := ds) b
      exact ⟨_ :: us, v, by rw [e]; rfl, .cons a i, j⟩
theorem mt_popA : MtR X "list.pop" (rPopA X.K) := MtR.imp mt_pop fun x vs H Q q => by
  obtain ⟨l, ds, d, rfl, rfl, ⟨xs, e, i⟩, k⟩ := q
  obtain ⟨us, v, rfl, iu, iv⟩ := i.unsnoc
  have b : But l H (upd H l (.lst (us ++ [v]).dropLast)) := fun b u hb z => by rw [upd_ne hb]; exact z
  have t : TK X.K H _ := b.tk e
  refine ⟨l, us ++ [v], v, rfl, rfl, e, ?_, k v _ b t (iv.u t) ⟨_, upd_same, ?_⟩⟩
  · rw [List.length_append, List.length_singleton, Nat.add_sub_cancel, List.getElem?_append_right (Nat.le_refl _), Nat.sub_self]
    rfl
  · have j := iu.u t
    rw [List.dropLast_concat] at j ⊢
    exact j
/-- l.pop(0) -/
def rPop0 (K : PySem.W.Frag) : V → List V → Hp → VK → Prop := fun x vs H Q => ∃ l ds d, x = .ref l ∧ vs = [.int 0] ∧ Acc K H l (d :: ds) ∧ ∀ v H', But l H H' → TK K H H' → Im K H' v d → Acc K H' l ds → Q v H'
theorem mt_pop0 : MtR X "list.pop" (rPop0 X.K) := MtR.imp mt_popAt fun x vs H Q q => by
  obtain ⟨l, ds, d, rfl, rfl, ⟨xs, e, i⟩, k⟩ := q
  cases i with
  | cons iv iu =>
    rename_i v us
    have b : But l H (upd H l (.lst ((v :: us).eraseIdx 0))) := fun b u hb z => by rw [upd_ne hb]; exact z
    have t : TK X.K H _ := b.tk e
    refine ⟨l, v :: us, 0, 0, v, rfl, rfl, e, by decide, by decide, ?_, rfl, k v _ b t (iv.u t) ⟨us, upd_same, iu.u t⟩⟩
    unfold seqIndex?
    simp
/-- l[lo:hi] of data -/
def rSlLD (K : PySem.W.Frag) : V → Option Int → Option Int → Hp → VK → Prop := fun x lo hi H Q => ∃ l ds, x = .ref l ∧ Acc K H l ds ∧ ∀ p H', H p = none → Same H H' → TK K H H' → Acc K H' p (cutD ds lo hi) → Q (.ref p) H'
theorem sl_listD : SlR X (rSlLD X.K) := SlR.imp sl_list fun x lo hi H Q q => by
  obtain ⟨l, ds, rfl, ⟨xs, e, i⟩, k⟩ := q
  refine ⟨l, xs, rfl, SqL.of e, fun p hp => ?_⟩
  have s := same_new (o := HO.lst (cutV xs lo hi)) hp
  refine k p _ hp s (same_tk s) ⟨_, upd_same, ?_⟩
  have t := ((i.u (same_tk s)).drop (HT.sIx xs.length 0 lo)).take (HT.sIx xs.length xs.length hi - HT.sIx xs.length 0 lo)
  have e : cutD ds lo hi = (ds.drop (HT.sIx xs.length 0 lo)).take (HT.sIx xs.length xs.length hi - HT.sIx xs.length 0 lo) := by
    unfold cutD
    rw [i.len]
  rw [e]
  exact t
/-- t + u of tuples of data -/
def rCatT2 (K : PySem.W.Frag) : R2 := fun x y H Q => ∃ ds es, Im K H x (.tuple ds) ∧ Im K H y (.tuple es) ∧ ds.length + es.length ≤ 1000000 ∧ ∀ v H', Same H H' → TK K H H' → Im K H' v (.tuple (ds ++ es)) → Q v H'
theorem op_catTD : OpR X (binaryOp .Add) (rCatT2 X.K) := OpR.imp op_catA fun x y H Q q => by
  obtain ⟨ds, es, i1, i2, hl, k⟩ := q
  obtain ⟨a, xs, rfl, ht, hs⟩ := i1.t
  obtain ⟨b, ys, rfl, hu, hv⟩ := i2.t
  refine ⟨a, b, xs, ys, rfl, rfl, ht, hu, ?_, fun e => ?_, fun e1 e2 => ?_, fun e1 e2 p hp => ?_⟩
  · rw [hs.len, hv.len]
    exact Nat.le_trans hl (by decide)
  · subst e
    cases hs
    exact k _ H (Same.refl H) TK.refl i2
  · subst e2
    cases hv
    rw [List.append_nil] at k
    exact k _ H (Same.refl H) TK.refl i1
  · have s := same_new (o := HO.tup (xs ++ ys)) hp
    exact k _ _ s (same_tk s) (.tup (SqT.of upd_same) ((hs.append hv).u (same_tk s)))
/-- p[i], a list of lists -/
def rIxLL (K : PySem.W.Frag) : R2 := fun x y H Q => ∃ (p : Addr) (as : List Addr) (i : Int) (j : Nat) (a : Addr), x = .ref p ∧ H p = some (.lst (as.map V.ref)) ∧ y = .int i ∧ i = (j : Int) ∧ as[j]? = some a ∧ Q (.ref a) H
theorem ix_LL : IxR X (rIxLL X.K) := IxR.imp ix_list fun x y H Q q => by
  obtain ⟨p, as, i, j, a, rfl, e, rfl, hi, ha, k⟩ := q
  exact ⟨p, _, i, .ref a, rfl, rfl, SqL.of e, at_of hi (by rw [List.getElem?_map, ha]; rfl), k⟩
/-- min of a list of ints -/
def rMinL (K : PySem.W.Frag) : List V → Hp → VK → Prop := fun vs H Q => ∃ (l : Addr) (ns : List Int) (m : Int), vs = [.ref l] ∧ Acc K H l (ns.map PyData.int) ∧ m ∈ ns ∧ (∀ y ∈ ns, m ≤ y) ∧ Q (.int m) H
theorem cr_minL (hc : X.calm = true) : CallR X (.builtin "min") (rMinL X.K) := CallR.imp (cr_min hc) fun vs H Q q => by
  obtain ⟨l, ns, m, rfl, ⟨xs, e, i⟩, hm, hmin, k⟩ := q
  rw [Ims.of_ints _ i] at e
  refine ⟨l, ns, rfl, SqL.of e, List.length_pos_of_mem hm, fun m' h1 h2 => ?_⟩
  have : m' = m := Int.le_antisymm (h2 m hm) (hmin m' h1)
  rw [this]
  exact k
theorem eqv_nil (ds : List PyData) : PyData.eqv (.list ds) (.list []) = decide (ds = []) := by
  cases ds with
  | nil => simp [PyData.eqv, PyData.eqvAll]
  | cons d ds => simp [PyData.eqv, PyData.eqvAll]
/-- xs != [], xs == [] -/
def rNeNil (K : PySem.W.Frag) : R2 := fun x y H Q => ∃ l p ds, x = .ref l ∧ y = .ref p ∧ Acc K H l ds ∧ Acc K H p [] ∧ SeqAt.shaped (.list ds) = true ∧ Q (.bl (!decide (ds = []))) H
def rEqNil (K : PySem.W.Frag) : R2 := fun x y H Q => ∃ l p ds, x = .ref l ∧ y = .ref p ∧ Acc K H l ds ∧ Acc K H p [] ∧ SeqAt.shaped (.list ds) = true ∧ Q (.bl (decide (ds = []))) H
theorem op_neNil (hu : X.A.units + 64 < cLine) : OpR X (compareOp .NotEq) (rNeNil X.K) := OpR.imp (op_neD hu) fun x y H Q q => by
  obtain ⟨l, p, ds, rfl, rfl, a, b, hs, k⟩ := q
  refine ⟨_, _, a.dp, b.dp, hs, by decide +kernel, ?_⟩
  rw [eqv_nil]
  exact k
theorem op_eqNil (hu : X.A.units + 64 < cLine) : OpR X (compareOp .Eq) (rEqNil X.K) := OpR.imp (op_eqD hu) fun x y H Q q => by
  obtain ⟨l, p, ds, rfl, rfl, a, b, hs, k⟩ := q
  refine ⟨_, _, a.dp, b.dp, hs, by decide +kernel, ?_⟩
  rw [eqv_nil]
  exact k
theorem ints_can (ns : List Int) : PyData.canLayAll0 (ns.map PyData.int) = true := canAll (fun _ => rfl) ns
theorem ints_shaped (ns : List Int) : SeqAt.shaped (.list (ns.map PyData.int)) = true := by
  have h1 := depAll (f := PyData.int) (n := 0) (fun _ => Nat.le_refl _) ns
  show ((PyData.canLayAll0 (ns.map PyData.int)) && decide (PyData.depthAll (ns.map PyData.int) + 1 ≤ 64)) = true
  rw [ints_can, Bool.true_and]
  exact decide_eq_true (by omega)
end
open PySem PySem.Spec PyProof.Rows L2
/-! ### the whole lists are of the lines' kinds -/
structure AllHas (ks : List Kd) (made : List (List PyData)) : Prop where
  len : made.length = ks.length
  has : ∀ (i : Nat) (row : List PyData) (k : Kd), made[i]? = some row → ks[i]? = some k → ∀ x ∈ row, Has k x
structure OkLists (lists : List (List Int)) : Prop where
  num : ∀ l ∈ lists, ∀ n ∈ l, Num n
  len : ∀ l ∈ lists, l.length ≤ 200
theorem AllHas.row {ks : List Kd} {made : List (List PyData)} (h : AllHas ks made) {a : Int} {k : Kd} (hk : ks[a.toNat]? = some k) : made[a.toNat]? = some (made.getD a.toNat []) ∧ ∀ x ∈ made.getD a.toNat [], Has k x := by
  have hi := (List.getElem?_eq_some_iff.mp hk).1
  have e : made[a.toNat]? = some (made.getD a.toNat []) := by
    rw [List.getD_eq_getElem?_getD, List.getElem?_eq_getElem (by rw [h.len]; exact hi)]
    rfl
  exact ⟨e, h.has _ _ _ e hk⟩
theorem one_named {ks : List Kd} {l : Ln} {a : Int} {k : Kd} (e : l.names = [a]) (h : kindL l ks = some k) : ∃ ka, ks[a.toNat]? = some ka ∧ kindN l [ka] = some k := by
  obtain ⟨kn, h1, h2⟩ := kindL_some h
  rw [e] at h1
  obtain ⟨hl, f⟩ := namedK_at h1
  obtain ⟨ka, g1, g2⟩ := f 0 a rfl
  match kn, hl with
  | [x], _ => cases g2; exact ⟨_, g1, h2⟩
theorem two_named {ks : List Kd} {l : Ln} {a b : Int} {k : Kd} (e : l.names = [a, b]) (h : kindL l ks = some k) : ∃ ka kb, ks[a.toNat]? = some ka ∧ ks[b.toNat]? = some kb ∧ kindN l [ka, kb] = some k := by
  obtain ⟨kn, h1, h2⟩ := kindL_some h
  rw [e] at h1
  obtain ⟨hl, f⟩ := namedK_at h1
  obtain ⟨ka, g1, g2⟩ := f 0 a rfl
  obtain ⟨kb, g3, g4⟩ := f 1 b rfl
  match kn, hl with
  | [x, y], _ => cases g2; cases g4; exact ⟨_, _, g1, g3, h2⟩
theorem ifnum {ka k2 k : Kd} (h : (if ka = Kd.num then some k2 else none) = some k) : ka = .num ∧ k = k2 := by
  by_cases e : ka = .num
  · rw [if_pos e] at h; exact ⟨e, (Option.some.inj h).symm⟩
  · rw [if_neg e] at h; cases h
theorem ints_of {row : List PyData} (h : ∀ x ∈ row, Has .num x) : row = (row.map toI).map PyData.int ∧ ∀ n ∈ row.map toI, Num n := by
  refine ⟨Has.ints h, fun n hn => ?_⟩
  obtain ⟨x, hx, rfl⟩ := List.mem_map.mp hn
  obtain ⟨i, rfl, hi⟩ := (h x hx).int
  exact hi
theorem has_ints {ns : List Int} (h : ∀ n ∈ ns, Num n) : ∀ x ∈ ns.map PyData.int, Has .num x := fun x hx => by
  obtain ⟨n, hn, rfl⟩ := List.mem_map.mp hx
  exact .num (h n hn)
theorem foldF_num {f : Fw} {a b : Int} (ha : Num a) (hb : Num b) : Num (foldF f a b) := by
  obtain ⟨a0, a1⟩ := ha
  obtain ⟨b0, b1⟩ := hb
  cases f with
  | add => exact ⟨Int.emod_nonneg _ (by decide), Int.emod_lt_of_pos _ (by decide)⟩
  | times => exact ⟨Int.emod_nonneg _ (by decide), Int.emod_lt_of_pos _ (by decide)⟩
  | least => show Num (min a b); exact ⟨by omega, by omega⟩
  | most => show Num (max a b); exact ⟨by omega, by omega⟩
theorem foldI_num {f : Fw} : ∀ {ns : List Int} {n : Int}, Num n → (∀ x ∈ ns, Num x) → ∀ y ∈ foldI f n ns, Num y
  | [], _, _, _ => fun y hy => by cases hy
  | x :: xs, n, hn, h => fun y hy => by
    have h1 := foldF_num (f := f) hn (h x List.mem_cons_self)
    have hy : y ∈ foldF f n x :: foldI f (foldF f n x) xs := hy
    rcases List.mem_cons.mp hy with rfl | hy
    · exact h1
    · exact foldI_num h1 (fun z hz => h z (List.mem_cons_of_mem _ hz)) y hy
theorem foldI_len {f : Fw} : ∀ {ns : List Int} {n : Int}, (foldI f n ns).length = ns.length
  | [], _ => rfl
  | x :: xs, n => congrArg Nat.succ foldI_len
theorem merge_mem : ∀ {as bs : List Int} {x : Int}, x ∈ mergeI as bs → x ∈ as ∨ x ∈ bs := by
  intro as
  induction as with
  | nil => intro bs x h; rw [nil_merge] at h; exact .inr h
  | cons a as iha =>
    intro bs
    induction bs with
    | nil => intro x h; rw [merge_nil] at h; exact .inl h
    | cons b bs ihb =>
      intro x h
      by_cases c : a ≤ b
      · rw [merge_le c] at h
        rcases List.mem_cons.mp h with rfl | h
        · exact .inl List.mem_cons_self
        · rcases iha h with h | h
          · exact .inl (List.mem_cons_of_mem _ h)
          · exact .inr h
      · rw [merge_gt c] at h
        rcases List.mem_cons.mp h with rfl | h
        · exact .inr List.mem_cons_self
        · rcases ihb h with h | h
          · exact .inl h
          · exact .inr (List.mem_cons_of_mem _ h)
/-- what stands in the groups -/
theorem group_ok {m : Int} (hm : 0 < m) (hm2 : m < 1000003) {P : Int → Prop} {ns : List Int} (h : ∀ n ∈ ns, P n) : ∀ g ∈ groupI m ns, Num g.1 ∧ ∀ n ∈ g.2, P n := by
  suffices ∀ (ns : List Int) (acc : List (Int × List Int)), (∀ n ∈ ns, P n) → (∀ g ∈ acc, Num g.1 ∧ ∀ n ∈ g.2, P n) → ∀ g ∈ ns.foldl (groupS m) acc, Num g.1 ∧ ∀ n ∈ g.2, P n from
    this ns [] h fun g hg => by cases hg
  intro ns
  induction ns with
  | nil => intro acc _ ha; exact ha
  | cons x xs ih =>
    intro acc hn ha
    refine ih _ (fun n hn' => hn n (List.mem_cons_of_mem _ hn')) ?_
    have px := hn x List.mem_cons_self
    have nx : Num (x % m) := ⟨Int.emod_nonneg _ (by omega), by have := Int.emod_lt_of_pos x hm; omega⟩
    intro g hg
    unfold groupS at hg
    split at hg
    · rename_i r ys e
      have hmem : (r, ys) ∈ acc := List.mem_of_getLast? e
      split at hg
      · rcases List.mem_append.mp hg with hg | hg
        · exact ha g (List.dropLast_subset _ hg)
        · rw [List.mem_singleton.mp hg]
          obtain ⟨h1, h2⟩ := ha _ hmem
          refine ⟨h1, fun n hn => ?_⟩
          rcases List.mem_append.mp hn with hn | hn
          · exact h2 n hn
          · rw [List.mem_singleton.mp hn]; exact px
      · rcases List.mem_append.mp hg with hg | hg
        · exact ha g hg
        · rw [List.mem_singleton.mp hg]
          exact ⟨nx, fun n hn => by rw [List.mem_singleton.mp hn]; exact px⟩
    · rw [List.mem_singleton.mp hg]
      exact ⟨nx, fun n hn => by rw [List.mem_singleton.mp hn]; exact px⟩
theorem grouped_lens (m : Int) (ns : List Int) : (groupI m ns).length ≤ ns.length ∧ ∀ g ∈ groupI m ns, g.2.length ≤ ns.length := by
  suffices ∀ (xs : List Int) (acc : List (Int × List Int)) (k : Nat), acc.length ≤ k → (∀ g ∈ acc, g.2.length ≤ k) → (xs.foldl (groupS m) acc).length ≤ k + xs.length ∧ ∀ g ∈ xs.foldl (groupS m) acc, g.2.length ≤ k + xs.length by
    have := this ns [] 0 (Nat.le_refl _) (fun g hg => by cases hg)
    simp only [Nat.zero_add] at this
    exact this
  intro xs
  induction xs with
  | nil => intro acc k h1 h2; exact ⟨h1, h2⟩
  | cons x xs ih =>
    intro acc k h1 h2
    have := ih (groupS m acc x) (k + 1) ?_ ?_
    · rw [List.length_cons]
      have e : k + 1 + xs.length = k + (xs.length + 1) := by omega
      rw [e] at this
      exact this
    · unfold groupS
      split
      · rename_i r ys e
        have hne : acc ≠ [] := fun z => by rw [z] at e; cases e
        have hpos : 0 < acc.length := List.length_pos_iff.mpr hne
        split
        · rw [List.length_append, List.length_dropLast]; simp; omega
        · rw [List.length_append]; simp; omega
      · simp
    · intro g hg
      unfold groupS at hg
      split at hg
      · rename_i r ys e
        have hmem : (r, ys) ∈ acc := List.mem_of_getLast? e
        have hy := h2 _ hmem
        have hy : ys.length ≤ k := hy
        split at hg
        · rcases List.mem_append.mp hg with hg | hg
          · have := h2 g (List.dropLast_subset _ hg); omega
          · rw [List.mem_singleton.mp hg]
            show (ys ++ [x]).length ≤ k + 1
            rw [List.length_append]; simp; omega
        · rcases List.mem_append.mp hg with hg | hg
          · have := h2 g hg; omega
          · rw [List.mem_singleton.mp hg]; simp
      · rw [List.mem_singleton.mp hg]; simp
def Row (made : List (List PyData)) (a : Int) : List PyData := made.getD a.toNat []
theorem listD_has {l : Ln} {made : List (List PyData)} {lists : List (List Int)} {ks : List Kd} {k : Kd} (hm : AllHas ks made) (hl : OkLists lists) (hn : numOk l = true) (hk : kindL l ks = some k) (hs : ∀ row ∈ made, row.length ≤ 1000002) :
    ∀ x ∈ listD l made lists, Has k x := by
  have memrow : ∀ {a : Int} {ka : Kd}, ks[a.toNat]? = some ka → (made.getD a.toNat []).length ≤ 1000002 := fun h => hs _ (List.mem_of_getElem? (hm.row h).1)
  cases l with
  | source s =>
    cases hk
    refine has_ints fun n hn => ?_
    rw [List.getD_eq_getElem?_getD] at hn
    cases e : lists[s.toNat]? with
    | none => rw [e] at hn; cases hn
    | some row => rw [e] at hn; exact hl.num row (List.mem_of_getElem? e) n hn
  | map ds a =>
    obtain ⟨ka, h1, h2⟩ := one_named rfl hk
    obtain ⟨e, f⟩ := hm.row h1
    intro x hx
    obtain ⟨y, hy, rfl⟩ := List.mem_map.mp hx
    have hn : ((decide (1 ≤ ds.length) && decide (ds.length ≤ 64)) && ds.all deedNum) = true := hn
    rw [Bool.and_eq_true, List.all_eq_true] at hn
    exact doneAll_has (f y hy) h2 fun d hd => deedNum_iff.mp (hn.2 d hd)
  | keep ts a =>
    obtain ⟨ka, h1, h2⟩ := one_named rfl hk
    obtain ⟨rfl, rfl⟩ := ifnum h2
    exact fun x hx => (hm.row h1).2 x (List.mem_filter.mp hx).1
  | whil ts a =>
    obtain ⟨ka, h1, h2⟩ := one_named rfl hk
    obtain ⟨rfl, rfl⟩ := ifnum h2
    exact fun x hx => (hm.row h1).2 x ((List.takeWhile_sublist _).subset hx)
  | take n a =>
    obtain ⟨ka, h1, h2⟩ := one_named rfl hk
    cases h2
    exact fun x hx => (hm.row h1).2 x (List.mem_of_mem_take hx)
  | skip n a =>
    obtain ⟨ka, h1, h2⟩ := one_named rfl hk
    cases h2
    exact fun x hx => (hm.row h1).2 x (List.mem_of_mem_drop hx)
  | group m a =>
    obtain ⟨ka, h1, h2⟩ := one_named rfl hk
    obtain ⟨rfl, rfl⟩ := ifnum h2
    obtain ⟨e, f⟩ := hm.row h1
    have hn : (decide (1 ≤ m) && isNum m) = true := hn
    rw [Bool.and_eq_true, decide_eq_true_eq, isNum_iff] at hn
    obtain ⟨m1, _, m2⟩ := hn
    have gk := group_ok (by omega : 0 < m) m2 (P := Num) (ints_of f).2
    have gl := (grouped_lens m ((made.getD a.toNat []).map toI)).2
    intro x hx
    obtain ⟨g, hg, rfl⟩ := List.mem_map.mp hx
    obtain ⟨g1, g2⟩ := gk g hg
    have l1 := gl g hg
    have l2 := memrow h1
    rw [List.length_map] at l1
    exact .pair (.num g1) (.row (has_ints g2) (by rw [List.length_map]; omega))
  | window n a =>
    obtain ⟨ka, h1, h2⟩ := one_named rfl hk
    cases h2
    obtain ⟨e, f⟩ := hm.row h1
    have l2 := memrow h1
    intro x hx
    obtain ⟨i, hi, rfl⟩ := List.mem_map.mp hx
    refine .row (fun y hy => f y (List.mem_of_mem_drop (List.mem_of_mem_take hy))) ?_
    rw [List.length_take, List.length_drop]
    (try dsimp only)
    omega
  | fold w n a =>
    obtain ⟨ka, h1, h2⟩ := one_named rfl hk
    obtain ⟨rfl, rfl⟩ := ifnum h2
    exact has_ints (foldI_num (isNum_iff.mp hn) (ints_of (hm.row h1).2).2)
  | chain a b =>
    obtain ⟨ka, kb, h1, h2, h3⟩ := two_named rfl hk
    have h3 : (if ka = kb then some ka else none) = some k := h3
    by_cases c : ka = kb
    · rw [if_pos c] at h3
      cases h3
      subst c
      intro x hx
      rcases List.mem_append.mp hx with hx | hx
      · exact (hm.row h1).2 x hx
      · exact (hm.row h2).2 x hx
    · rw [if_neg c] at h3
      cases h3
  | pair a b =>
    obtain ⟨ka, kb, h1, h2, h3⟩ := two_named rfl hk
    cases h3
    intro x hx
    have hx : x ∈ List.zipWith (fun x y => PyData.tuple [x, y]) (made.getD a.toNat []) (made.getD b.toNat []) := hx
    obtain ⟨i, hi, e⟩ := List.getElem_of_mem hx
    rw [List.getElem_zipWith] at e
    rw [← e]
    exact .pair ((hm.row h1).2 _ (List.getElem_mem _)) ((hm.row h2).2 _ (List.getElem_mem _))
  | merge a b =>
    obtain ⟨ka, kb, h1, h2, h3⟩ := two_named rfl hk
    have h3 : (if ka = .num ∧ kb = .num then some Kd.num else none) = some k := h3
    by_cases c : ka = .num ∧ kb = .num
    · rw [if_pos c] at h3
      cases h3
      obtain ⟨rfl, rfl⟩ := c
      refine has_ints fun n hn => ?_
      rcases merge_mem hn with hn | hn
      · exact (ints_of (hm.row h1).2).2 n hn
      · exact (ints_of (hm.row h2).2).2 n hn
    · rw [if_neg c] at h3
      cases h3
theorem getD_len {made : List (List PyData)} {B : Nat} (h : ∀ row ∈ made, row.length ≤ B) (i : Nat) : (made.getD i []).length ≤ B := by
  rw [List.getD_eq_getElem?_getD]
  cases e : made[i]? with
  | none => exact Nat.zero_le _
  | some row => exact h row (List.mem_of_getElem? e)
theorem listD_len {l : Ln} {made : List (List PyData)} {lists : List (List Int)} {B C : Nat} (h : ∀ row ∈ made, row.length ≤ B) (hl : ∀ row ∈ lists, row.length ≤ C) (hC : C ≤ B) (hw : ∀ n a, l = .window n a → 1 ≤ n) : (listD l made lists).length ≤ if two l then 2 * B else B := by
  have g := getD_len h
  cases l with
  | source s =>
    show ((lists.getD s.toNat []).map PyData.int).length ≤ B
    rw [List.length_map, List.getD_eq_getElem?_getD]
    cases e : lists[s.toNat]? with
    | none => exact Nat.zero_le _
    | some row => exact Nat.le_trans (hl row (List.mem_of_getElem? e)) hC
  | map ds a => show (List.map _ _).length ≤ B; rw [List.length_map]; exact g _
  | keep ts a => exact Nat.le_trans (List.length_filter_le _ _) (g _)
  | whil ts a => exact Nat.le_trans (List.takeWhile_sublist _).length_le (g _)
  | take n a => show (List.take _ _).length ≤ B; rw [List.length_take]; have := g a.toNat; (try dsimp only); omega
  | skip n a => show (List.drop _ _).length ≤ B; rw [List.length_drop]; have := g a.toNat; (try dsimp only); omega
  | group m a =>
    show (List.map _ _).length ≤ B
    rw [List.length_map]
    have h1 := (grouped_lens m ((made.getD a.toNat []).map toI)).1
    rw [List.length_map] at h1
    exact Nat.le_trans h1 (g _)
  | window n a =>
    show (List.map _ _).length ≤ B
    rw [List.length_map, List.length_range]
    have := g a.toNat
    have := hw n a rfl
    (try dsimp only)
    omega
  | fold w n a => show (List.map _ _).length ≤ B; rw [List.length_map, foldI_len, List.length_map]; exact g _
  | chain a b => show List.length (_ ++ _) ≤ 2 * B; rw [List.length_append]; have := g a.toNat; have := g b.toNat; (try dsimp only); omega
  | pair a b => show (List.zipWith _ _ _).length ≤ B; rw [List.length_zipWith]; have := g a.toNat; (try dsimp only); omega
  | merge a b => show (List.map _ _).length ≤ 2 * B; rw [List.length_map, merge_len, List.length_map, List.length_map]; have := g a.toNat; have := g b.toNat; (try dsimp only); omega
theorem GoodW.take {many : Int} {ls : List Ln} {ks : List Kd} (w : GoodW many ls ks) (i : Nat) : GoodW many (ls.take i) (ks.take i) := by
  induction w with
  | nil => rw [List.take_nil, List.take_nil]; exact .nil
  | @snoc ls ks l k w hp hn hk hd hm ih =>
    have hl := w.len
    by_cases hi : i ≤ ls.length
    · rw [List.take_append_of_le_length hi, List.take_append_of_le_length (by omega)]
      exact ih
    · rw [List.take_of_length_le (by rw [List.length_append]; show ls.length + 1 ≤ i; omega), List.take_of_length_le (by rw [List.length_append]; show ks.length + 1 ≤ i; omega)]
      exact .snoc w hp hn hk hd hm
theorem twos_take {ls : List Ln} {i : Nat} : twos (ls.take i) ≤ twos ls := ((List.take_sublist i ls).filter two).length_le
theorem twos_eq {ls : List Ln} {l : Ln} : twos (ls ++ [l]) = twos ls + (if two l then 1 else 0) := by
  unfold twos
  rw [List.filter_append, List.length_append]
  cases e : two l
  · rw [List.filter_cons_of_neg (by rw [e]; decide), List.filter_nil]; rfl
  · rw [List.filter_cons_of_pos e, List.filter_nil]; rfl
theorem twos_next {ls : List Ln} {i : Nat} {l : Ln} (h : ls[i]? = some l) : twos (ls.take i) + (if two l then 1 else 0) ≤ twos ls := by
  rw [← twos_eq]
  have e : ls.take i ++ [l] = ls.take (i + 1) := by rw [List.take_add_one, h]; rfl
  rw [e]
  exact twos_take
/-- what is known of the lists of a good weave's lines -/
theorem plain_ok {many : Int} {ls : List Ln} {ks : List Kd} {lists : List (List Int)} (w : GoodW many ls ks) (hl : OkLists lists) (ht : twos ls ≤ 12) :
    AllHas ks (plainD ls lists) ∧ ∀ row ∈ plainD ls lists, row.length ≤ 200 * 2 ^ twos ls := by
  induction w with
  | nil => exact ⟨⟨rfl, fun i row k h => by simp [plainD] at h⟩, fun row h => by simp [plainD] at h⟩
  | @snoc ls ks l k w hp hn hk hd hm ih =>
    have t1 : twos (ls ++ [l]) = twos ls + (if two l then 1 else 0) := by
      unfold twos
      rw [List.filter_append, List.length_append]
      cases e : two l
      · rw [List.filter_cons_of_neg (by rw [e]; decide), List.filter_nil]; rfl
      · rw [List.filter_cons_of_pos e, List.filter_nil]; rfl
    have t2 : twos ls ≤ 12 := by omega
    obtain ⟨h1, h2⟩ := ih t2
    have p12 : 2 ^ twos ls ≤ 2 ^ 12 := Nat.pow_le_pow_right (by decide) t2
    have hs : ∀ row ∈ plainD ls lists, row.length ≤ 1000002 := fun row hr => Nat.le_trans (h2 row hr) (by omega)
    rw [plainD_snoc]
    have has := listD_has h1 hl hn hk hs
    have hwin : ∀ n a, l = .window n a → 1 ≤ n := fun n a e => by
      subst e
      have hn : (decide (1 ≤ n) && decide (n ≤ 9)) = true := hn
      rw [Bool.and_eq_true, decide_eq_true_eq] at hn
      exact hn.1
    have p0 : 1 ≤ 2 ^ twos ls := Nat.one_le_two_pow
    have ln := listD_len (l := l) h2 hl.len (by omega) hwin
    refine ⟨⟨by rw [List.length_append, List.length_append, h1.len]; rfl, fun i row k' hr hk' => ?_⟩, fun row hr => ?_⟩
    · by_cases hi : i < ks.length
      · rw [List.getElem?_append_left (by rw [h1.len]; exact hi)] at hr
        rw [List.getElem?_append_left hi] at hk'
        exact h1.has i row k' hr hk'
      · have hi2 := (List.getElem?_eq_some_iff.mp hk').1
        rw [List.length_append] at hi2
        have e1 : [k].length = 1 := rfl
        have hi3 : i = ks.length := by omega
        subst hi3
        rw [List.getElem?_append_right (Nat.le_refl _), Nat.sub_self] at hk'
        rw [List.getElem?_append_right (by rw [h1.len]; exact Nat.le_refl _), h1.len, Nat.sub_self] at hr
        cases hk'
        cases hr
        exact has
    · rcases List.mem_append.mp hr with hr | hr
      · have := h2 row hr
        rw [t1]
        cases two l
        · exact this
        · refine Nat.le_trans this ?_
          rw [if_pos rfl, Nat.pow_succ]
          omega
      · rw [List.mem_singleton.mp hr, t1]
        cases e : two l
        · rw [e] at ln; exact ln
        · rw [e] at ln
          rw [if_pos rfl, Nat.pow_succ]
          rw [if_pos rfl] at ln
          omega
def spPlain (K : PySem.W.Frag) : Sp := fun vs H Q _ => ∃ (v1 v2 : V), vs = [v1, v2] ∧ Hold (∃ (lw pl : Addr) (al : List Addr) (ls : List Ln) (ks : List Kd) (lists : List (List Int)) (many : Int), v1 = .ref lw ∧ v2 = .ref pl ∧ Acc K H lw (ls.map Ln.d) ∧ LL K H pl al (intsD lists) ∧
  DrawnW ls ks many ∧ (lists.length : Int) = many ∧ OkLists lists ∧
  ∀ p H' am, H p = none → (∀ a ∈ am, H a = none) → p ∉ am → am.Nodup → Same H H' → LL K H' p am (plainD ls lists) → Q (.ref p) H')
theorem lists_can (lists : List (List Int)) : PyData.canLayAll0 ((intsD lists).map PyData.list) = true := by
  unfold intsD
  rw [List.map_map]
  exact canAll (f := PyData.list ∘ fun (l : List Int) => l.map PyData.int) (fun l => show PyData.canLayAll0 (l.map PyData.int) = true from ints_can l) lists
theorem lists_dep (lists : List (List Int)) : PyData.depthAll ((intsD lists).map PyData.list) ≤ 1 := by
  unfold intsD
  rw [List.map_map]
  refine depAll (f := PyData.list ∘ fun (l : List Int) => l.map PyData.int) (fun l => ?_) lists
  have h1 := depAll (f := PyData.int) (n := 0) (fun _ => Nat.le_refl _) l
  show PyData.depthAll (l.map PyData.int) + 1 ≤ 1
  omega
theorem lists_shaped (lists : List (List Int)) : SeqAt.shaped (.list ((intsD lists).map PyData.list)) = true := by
  have h1 := lists_dep lists
  show ((PyData.canLayAll0 ((intsD lists).map PyData.list)) && decide (PyData.depthAll ((intsD lists).map PyData.list) + 1 ≤ 64)) = true
  rw [lists_can, Bool.true_and]
  exact decide_eq_true (by omega)
def handedD (ls : List Ln) (lists : List (List Int)) : PyData := .list [.list (ls.map Ln.d), .list ((intsD lists).map PyData.list)]
theorem handed_shaped (ls : List Ln) (lists : List (List Int)) : SeqAt.shaped (handedD ls lists) = true := by
  have h1 := lists_dep lists
  have h2 := depAll Ln.dep ls
  show ((PyData.canLayAll0 (ls.map Ln.d) && (PyData.canLayAll0 ((intsD lists).map PyData.list) && true)) &&
    decide (max (PyData.depthAll (ls.map Ln.d) + 1) (max (PyData.depthAll ((intsD lists).map PyData.list) + 1) 0) + 1 ≤ 64)) = true
  rw [canAll Ln.can, lists_can, Bool.true_and, Bool.true_and, Bool.true_and]
  exact decide_eq_true (by omega)
theorem plain_data {many : Int} {ls : List Ln} {ks : List Kd} {lists : List (List Int)} (dw : DrawnW ls ks many) (hl : OkLists lists) :
    lk (.list ((plainD ls lists).map PyData.list)) = true ∧ PyData.depth (.list ((plainD ls lists).map PyData.list)) ≤ 4 ∧ ∀ row ∈ plainD ls lists, row.length ≤ 50000 := by
  have tw := dw.tw
  obtain ⟨ah, rl⟩ := plain_ok dw.good hl (by omega)
  have p7 : 2 ^ twos ls ≤ 2 ^ 7 := Nat.pow_le_pow_right (by decide) tw
  have l24 := dw.l24
  have rl : ∀ row ∈ plainD ls lists, row.length ≤ 50000 := fun row h => by have := rl row h; omega
  have hk : ∀ row ∈ plainD ls lists, ∃ k, k.dp ≤ 2 ∧ ∀ x ∈ row, Has k x := fun row h => by
    obtain ⟨i, hi⟩ := List.mem_iff_getElem?.mp h
    have hi' := (List.getElem?_eq_some_iff.mp hi).1
    rw [ah.len] at hi'
    have hk : ks[i]? = some ks[i] := List.getElem?_eq_getElem hi'
    exact ⟨ks[i], dw.dp _ (List.getElem_mem _), ah.has i row _ hi hk⟩
  refine ⟨lk_list (fun x hx => ?_) (by rw [List.length_map, plainD_len]; omega), ?_, rl⟩
  · obtain ⟨row, hr, rfl⟩ := List.mem_map.mp hx
    obtain ⟨k, _, h⟩ := hk row hr
    exact lk_list (fun x hx => Has_lk (h x hx)) (by have := rl row hr; omega)
  · have : PyData.depthAll ((plainD ls lists).map PyData.list) ≤ 3 := depth_all fun x hx => by
      obtain ⟨row, hr, rfl⟩ := List.mem_map.mp hx
      obtain ⟨k, hd, h⟩ := hk row hr
      have : PyData.depthAll row ≤ 2 := depth_all fun x hx => Nat.le_trans (Has_depth (h x hx)) hd
      show PyData.depthAll row + 1 ≤ 3
      omega
    show PyData.depthAll ((plainD ls lists).map PyData.list) + 1 ≤ 4
    omega
open PySem PySem.Spec PyProof.Rows L2
theorem cut_take (ds : List PyData) (n : Int) (h : 0 ≤ n) : cutD ds none (some n) = ds.take n.toNat := by
  obtain ⟨m, rfl⟩ := Int.eq_ofNat_of_zero_le h
  unfold cutD
  rw [HT.sIx_none, HT.sIx_nat, List.drop_zero, Nat.sub_zero, Int.toNat_natCast]
  by_cases c : m ≤ ds.length
  · rw [Nat.min_eq_left c]
  · rw [Nat.min_eq_right (by omega), List.take_length, List.take_of_length_le (by omega)]
theorem cut_drop (ds : List PyData) (n : Int) (h : 0 ≤ n) : cutD ds (some n) none = ds.drop n.toNat := by
  obtain ⟨m, rfl⟩ := Int.eq_ofNat_of_zero_le h
  unfold cutD
  rw [HT.sIx_none, HT.sIx_nat, Int.toNat_natCast]
  by_cases c : m ≤ ds.length
  · rw [Nat.min_eq_left c, List.take_of_length_le (by rw [List.length_drop]; exact Nat.le_refl _)]
  · rw [Nat.min_eq_right (by omega), List.drop_length, List.drop_eq_nil_of_le (by omega)]; simp
theorem cut_win (ds : List PyData) (i n : Nat) (h : i + n ≤ ds.length) : cutD ds (some (i : Int)) (some ((i : Int) + (n : Int))) = (ds.drop i).take n := by
  unfold cutD
  have e : ((i : Int) + (n : Int)) = ((i + n : Nat) : Int) := by omega
  rw [e, HT.sIx_nat, HT.sIx_nat, Nat.min_eq_left h, Nat.min_eq_left (by omega), Nat.add_sub_cancel_left]
theorem foldI_snoc {f : Fw} {x : Int} : ∀ {ns : List Int} {n : Int}, foldI f n (ns ++ [x]) = foldI f n ns ++ [foldF f (ns.foldl (foldF f) n) x]
  | [], _ => rfl
  | y :: ys, n => congrArg (foldF f n y :: ·) (foldI_snoc (ns := ys))
theorem foldI_last {f : Fw} : ∀ {ns : List Int} {n : Int}, (n :: foldI f n ns)[ns.length]? = some (ns.foldl (foldF f) n)
  | [], _ => rfl
  | y :: ys, n => foldI_last (ns := ys) (n := foldF f n y)
theorem foldl_num {f : Fw} : ∀ {ns : List Int} {n : Int}, Num n → (∀ x ∈ ns, Num x) → Num (ns.foldl (foldF f) n)
  | [], _, h, _ => h
  | y :: ys, n, hn, h => foldl_num (ns := ys) (foldF_num hn (h y List.mem_cons_self)) fun z hz => h z (List.mem_cons_of_mem _ hz)
theorem groupS_snoc {m x r : Int} {gs : List (Int × List Int)} {xs : List Int} : groupS m (gs ++ [(r, xs)]) x = if r = x % m then gs ++ [(r, xs ++ [x])] else (gs ++ [(r, xs)]) ++ [(x % m, [x])] := by
  unfold groupS
  simp only [List.getLast?_concat, List.dropLast_concat]
theorem grD_can (g : Int × List Int) : (grD g).canLay0 = true := by
  show (true && (PyData.canLayAll0 (g.2.map PyData.int) && true)) = true
  rw [ints_can]
  rfl
theorem grD_dep (g : Int × List Int) : (grD g).depth ≤ 2 := by
  have := depAll (f := PyData.int) (n := 0) (fun _ => Nat.le_refl _) g.2
  show max 0 (max (PyData.depthAll (g.2.map PyData.int) + 1) 0) + 1 ≤ 2
  omega
theorem grs_shaped (gs : List (Int × List Int)) : SeqAt.shaped (.list (gs.map grD)) = true := by
  have h1 := depAll grD_dep gs
  show ((PyData.canLayAll0 (gs.map grD)) && decide (PyData.depthAll (gs.map grD) + 1 ≤ 64)) = true
  rw [canAll grD_can, Bool.true_and]
  exact decide_eq_true (by omega)
theorem group_take {m : Int} {ns : List Int} {i : Nat} {x : Int} (h : ns[i]? = some x) : groupI m (ns.take (i + 1)) = groupS m (groupI m (ns.take i)) x := by
  unfold groupI
  rw [take_succ h, List.foldl_append]
  rfl
theorem group_len (m : Int) (ns : List Int) : (groupI m ns).length ≤ ns.length ∧ ∀ g ∈ groupI m ns, g.2.length ≤ ns.length := by
  have step : ∀ i, i ≤ ns.length → (groupI m (ns.take i)).length ≤ i ∧ ∀ g ∈ groupI m (ns.take i), g.2.length ≤ i := by
    intro i
    induction i with
    | zero => intro _; exact ⟨Nat.le_refl _, fun g hg => by cases hg⟩
    | succ i ih =>
      intro hi
      obtain ⟨h1, h2⟩ := ih (by omega)
      have hx : ns[i]? = some ns[i] := List.getElem?_eq_getElem (by omega)
      rw [group_take hx]
      rcases List.eq_nil_or_concat (groupI m (ns.take i)) with e | ⟨gs, ⟨r, xs⟩, e⟩
      · rw [e]
        refine ⟨by show 1 ≤ i + 1; omega, fun g hg => ?_⟩
        have hg : g ∈ [(ns[i] % m, [ns[i]])] := hg
        rw [List.mem_singleton.mp hg]
        show 1 ≤ i + 1
        omega
      · rw [List.concat_eq_append] at e
        rw [e] at h1 h2 ⊢
        rw [groupS_snoc]
        rw [List.length_append] at h1
        have hl : ([(r, xs)] : List (Int × List Int)).length = 1 := rfl
        split
        · refine ⟨by rw [List.length_append]; simp; omega, fun g hg => ?_⟩
          rcases List.mem_append.mp hg with hg | hg
          · have := h2 g (List.mem_append.mpr (.inl hg)); omega
          · rw [List.mem_singleton.mp hg]
            have h3 : xs.length ≤ i := h2 (r, xs) (List.mem_append.mpr (.inr (List.mem_singleton.mpr rfl)))
            show (xs ++ [_]).length ≤ i + 1
            rw [List.length_append]
            simp
            omega
        · refine ⟨by rw [List.length_append, List.length_append]; simp; omega, fun g hg => ?_⟩
          rcases List.mem_append.mp hg with hg | hg
          · have := h2 g hg; omega
          · rw [List.mem_singleton.mp hg]
            show 1 ≤ i + 1
            omega
  have := step ns.length (Nat.le_refl _)
  rw [List.take_length] at this
  exact this
theorem lst_ty {K : PySem.W.Frag} {H : Hp} {l : Addr} {xs : List V} (h : H l = some (.lst xs)) : tyV K "list" (.ref l) H := Or.inl ⟨rfl, _, SqL.of h⟩
theorem acc_raw {K : PySem.W.Frag} {H : Hp} {p : Addr} {ns : List Int} (h : Acc K H p (ns.map PyData.int)) : H p = some (.lst (ns.map V.int)) := by
  obtain ⟨xs, e, i⟩ := h
  rw [Ims.of_ints _ i] at e
  exact e
theorem raw_acc {K : PySem.W.Frag} {H : Hp} {p : Addr} {ns : List Int} (h : H p = some (.lst (ns.map V.int))) : Acc K H p (ns.map PyData.int) := ⟨_, h, Ims.ints _⟩
theorem ixN_int {n : Nat} {a : Int} (h0 : 0 ≤ a) (h1 : a < n) : ixN n a = some a.toNat := by
  unfold ixN
  rw [if_pos h0, if_pos h1]
/-- the loop of a comprehension's clause over zip -/
theorem loop_zip {K : PySem.W.Frag} {a b : Addr} {xs ys : List V} {B : (Hp → Prop) → V → Hp → Prop} {E : Hp → Prop} {H1 : Hp} (Pv : Nat → Hp → Prop) (h0 : Pv 0 H1) (hl : ∀ i H, Pv i H → SqL K H a xs ∧ SqL K H b ys)
    (hs : ∀ i x y T H H2, xs[i]? = some x → ys[i]? = some y → Pv i H → H T = none → Same H H2 → H2 T = some (.tup [x, y]) → B (Pv (i + 1)) (.ref T) H2) (hd : ∀ H, Pv (min xs.length ys.length) H → E H) :
    ∃ W : Nat → Nat → Hp → Prop, (∃ m, W 0 m H1) ∧ ∀ i m H, W i m H →
      ((Itz K a b).stop i H ∧ E H) ∨ ((Itz K a b).go i H ∧ ∃ Nx : Hp → Prop, (∀ H', Nx H' → ∃ m', m' < m ∧ W (i + 1) m' H') ∧ ∀ x H', (Itz K a b).yld i H x H' → B Nx x H') := by
  refine ⟨fun i m H => m = min xs.length ys.length - i ∧ i ≤ min xs.length ys.length ∧ Pv i H, ⟨min xs.length ys.length, by simp, Nat.zero_le _, h0⟩, ?_⟩
  rintro i m H ⟨rfl, hi, p⟩
  obtain ⟨qx, qy⟩ := hl i H p
  by_cases hlt : i < min xs.length ys.length
  · have hx : xs[i]? = some xs[i] := List.getElem?_eq_getElem (by omega)
    have hy : ys[i]? = some ys[i] := List.getElem?_eq_getElem (by omega)
    refine .inr ⟨⟨xs, ys, _, _, qx, qy, hx, hy⟩, Pv (i + 1), fun H' p' => ⟨min xs.length ys.length - (i + 1), by omega, rfl, hlt, p'⟩, fun v H' y => ?_⟩
    obtain ⟨T, x', y', rfl, hT, rfl, f1, f2⟩ := y
    exact hs i x' y' T H _ (f1 xs qx) (f2 ys qy) p hT (same_new hT) upd_same
  · have e : i = min xs.length ys.length := by omega
    subst e
    exact .inl ⟨⟨xs, ys, qx, qy, by omega⟩, hd H p⟩
/-- what a line gives of its one other's items, of its two others' -/
def oneD (l : Ln) (g : List PyData) : List PyData :=
  match l with
  | .map ds _ => g.map (doneAll ds)
  | .keep ts _ => g.filter (met ts)
  | .whil ts _ => g.takeWhile (met ts)
  | .take n _ => g.take n.toNat
  | .skip n _ => g.drop n.toNat
  | .group m _ => (groupI m (g.map toI)).map grD
  | .window n _ => windows n.toNat g
  | .fold f n _ => (foldI f n (g.map toI)).map PyData.int
  | _ => []
def twoD (l : Ln) (g h : List PyData) : List PyData :=
  match l with
  | .chain _ _ => g ++ h
  | .pair _ _ => List.zipWith (fun x y => .tuple [x, y]) g h
  | .merge _ _ => (mergeI (g.map toI) (h.map toI)).map PyData.int
  | _ => []
theorem listD_one {l : Ln} {a : Int} (e : l.names = [a]) (made : List (List PyData)) (lists : List (List Int)) : listD l made lists = oneD l (made.getD a.toNat []) := by
  cases l <;> first | (cases e; rfl) | exact absurd (congrArg List.length e) (by simp [Ln.names])
theorem listD_two {l : Ln} {a b : Int} (e : l.names = [a, b]) (made : List (List PyData)) (lists : List (List Int)) : listD l made lists = twoD l (made.getD a.toNat []) (made.getD b.toNat []) := by
  cases l <;> first | (cases e; rfl) | exact absurd (congrArg List.length e) (by simp [Ln.names])
/-- the stretches of a group in the making: tuples of a rest and a list -/
inductive GrH (K : PySem.W.Frag) (H : Hp) : List Addr → List Addr → List (Int × List Int) → Prop
  | nil : GrH K H [] [] []
  | cons {t l : Addr} {ts lw : List Addr} {g : Int × List Int} {gs : List (Int × List Int)} (ht : SqT K H t [.int g.1, .ref l]) (hl : Acc K H l (g.2.map PyData.int)) (r : GrH K H ts lw gs) : GrH K H (t :: ts) (l :: lw) (g :: gs)
section
variable {K : PySem.W.Frag} {H H' : Hp}
theorem GrH.len : ∀ {ts lw : List Addr} {gs : List (Int × List Int)}, GrH K H ts lw gs → ts.length = gs.length ∧ lw.length = gs.length
  | _, _, _, .nil => ⟨rfl, rfl⟩
  | _, _, _, .cons _ _ r => ⟨congrArg Nat.succ r.len.1, congrArg Nat.succ r.len.2⟩
theorem GrH.keep (tk : TK K H H') : ∀ {ts lw : List Addr} {gs : List (Int × List Int)}, GrH K H ts lw gs → (∀ a ∈ lw, ∀ xs, H a = some (.lst xs) → H' a = some (.lst xs)) → GrH K H' ts lw gs
  | _, _, _, .nil, _ => .nil
  | _, _, _, .cons h1 h2 t, e => .cons (tk.t _ _ h1) (h2.keep tk (e _ List.mem_cons_self)) (GrH.keep tk t fun a ha => e a (List.mem_cons_of_mem _ ha))
theorem GrH.same {ts lw : List Addr} {gs : List (Int × List Int)} (r : GrH K H ts lw gs) (s : Same H H') : GrH K H' ts lw gs := r.keep (same_tk s) fun a _ _ e => s _ _ e
theorem GrH.but {D : Addr} {ts lw : List Addr} {gs : List (Int × List Int)} (r : GrH K H ts lw gs) (s : But D H H') (t : TK K H H') (ne : D ∉ lw) : GrH K H' ts lw gs :=
  r.keep t fun a ha _ e => s _ _ (fun z => ne (z ▸ ha)) e
theorem GrH.snoc {t l : Addr} {g : Int × List Int} (ht : SqT K H t [.int g.1, .ref l]) (hl : Acc K H l (g.2.map PyData.int)) : ∀ {ts lw : List Addr} {gs : List (Int × List Int)}, GrH K H ts lw gs → GrH K H (ts ++ [t]) (lw ++ [l]) (gs ++ [g])
  | _, _, _, .nil => .cons ht hl .nil
  | _, _, _, .cons h1 h2 r => .cons h1 h2 (GrH.snoc ht hl r)
theorem GrH.unsnoc : ∀ {ts lw : List Addr} {gs : List (Int × List Int)} {g : Int × List Int}, GrH K H ts lw (gs ++ [g]) → ∃ ts' lw' t l, ts = ts' ++ [t] ∧ lw = lw' ++ [l] ∧ GrH K H ts' lw' gs ∧ SqT K H t [.int g.1, .ref l] ∧ Acc K H l (g.2.map PyData.int)
  | _, _, [], g, h => by
    cases h with
    | cons h1 h2 r => cases r; exact ⟨[], [], _, _, rfl, rfl, .nil, h1, h2⟩
  | _, _, g0 :: gs, g, h => by
    cases h with
    | cons h1 h2 r =>
      obtain ⟨ts', lw', t, l, rfl, rfl, r', a, b⟩ := GrH.unsnoc (gs := gs) r
      exact ⟨_ :: ts', _ :: lw', t, l, rfl, rfl, .cons h1 h2 r', a, b⟩
theorem GrH.mem {ts lw : List Addr} {gs : List (Int × List Int)} (r : GrH K H ts lw gs) : ∀ a ∈ lw, ∃ xs, H a = some (.lst xs) := by
  induction r with
  | nil => intro a h; cases h
  | cons h1 h2 r ih =>
    intro a h
    rcases List.mem_cons.mp h with rfl | h
    · exact h2.at
    · exact ih a h
theorem GrH.get : ∀ {ts lw : List Addr} {gs : List (Int × List Int)} {i : Nat} {g : Int × List Int}, GrH K H ts lw gs → gs[i]? = some g → ∃ t l, ts[i]? = some t ∧ SqT K H t [.int g.1, .ref l] ∧ Acc K H l (g.2.map PyData.int)
  | _, _, _, i, _, .nil, e => by simp at e
  | _, _, _, 0, _, .cons h1 h2 _, e => by simp at e; subst e; exact ⟨_, _, rfl, h1, h2⟩
  | _, _, _, i + 1, g, .cons _ _ r, e => by
    obtain ⟨t, l, a, b, c⟩ := GrH.get (i := i) (g := g) r (by simpa using e)
    exact ⟨t, l, by simpa using a, b, c⟩
end
open PySem PySem.Spec PyProof.Rows L2
/-! ### str of data, whatever is under way: some text that is not too long -/
def Shows (prog : Program) (w : World) (h₀ : Heap) (d : Nat) (x : Value) (m : Nat) : Prop :=
  ∀ (b : Nat), b + m ≤ sizeLine → ∀ (A : Around) (E : Value → Shared → Prop) (s : Shared) (Q : Str → Shared → Prop), A.units + d < cLine → (∀ a o, h₀.get? a = some o → s.heap.get? a = some o) →
    (∀ (t : Str) tk, t.length ≤ m → Q t { s with toks := tk }) → wpAny (model prog w) A (pyReprUnder b x) Q E s
inductive ShowsAll (prog : Program) (w : World) (h₀ : Heap) (d : Nat) : List Value → List Nat → Prop
  | nil : ShowsAll prog w h₀ d [] []
  | cons {x : Value} {m : Nat} {l : List Value} {ms : List Nat} : Shows prog w h₀ d x m → ShowsAll prog w h₀ d l ms → ShowsAll prog w h₀ d (x :: l) (m :: ms)
section
variable {prog : Program} {w : World} {A : Around} {E : Value → Shared → Prop} {h₀ : Heap} {d : Nat}
theorem Shows.of {x : Value} {t : Str} (h : ReprIs prog w x t) : Shows prog w h₀ d x t.length := fun b hb A E s Q _ _ k => h b hb A E s Q fun tk => k t tk (Nat.le_refl _)
theorem Shows.mono {x : Value} {m n : Nat} (h : Shows prog w h₀ d x m) (le : m ≤ n) : Shows prog w h₀ d x n :=
  fun b hb A E s Q hu hk k => h b (by omega) A E s Q hu hk fun t tk ht => k t tk (by omega)
theorem tup_fold : ∀ (l : List Value) (ms : List Nat) (acc : Array Str) (n : Nat) (s : Shared) (Q : (Array Str × Nat) → Shared → Prop), ShowsAll prog w h₀ d l ms → n + (ms.map (· + 2)).sum ≤ sizeLine →
    A.units + d < cLine → (∀ a o, h₀.get? a = some o → s.heap.get? a = some o) →
    (∀ (ts : List Str) k tk, ts.length = l.length → piled ts ≤ (ms.map (· + 2)).sum → Q ⟨acc ++ ts.toArray, k⟩ { s with toks := tk }) → wpAny (model prog w) A (forIn l (⟨acc, n⟩ : (Array Str × Nat)) tupBody) Q E s := by
  intro l
  induction l with
  | nil =>
    intro ms acc n s Q hT hn _ _ h
    cases hT
    have h0 := h [] n s.toks rfl (Nat.zero_le _)
    simp only [List.forIn_nil]
    exact wpAny_pure (by simpa using h0)
  | cons x l ih =>
    intro ms acc n s Q hT hn hu hk h
    cases hT with
    | cons hx hl =>
      rename_i m ms'
      rw [List.map_cons, List.sum_cons] at hn
      rw [List.forIn_cons]
      refine wpAny_bind (wpAny_bind (hx (n + 1) (by omega) _ _ _ _ hu hk fun t tk ht => wpAny_pure ?_))
      refine ih ms' (acc.push t) (n + (t.length + 2)) _ Q hl (by omega) hu hk fun ts k tk' hlen hp => ?_
      have h1 := h (t :: ts) k tk' (by rw [List.length_cons, List.length_cons, hlen]) (by rw [piled_cons, List.map_cons, List.sum_cons]; omega)
      simpa using h1
theorem join_short (ts : List Str) (n : Nat) (hn : n = ts.length) : (("(" : Str) ++ Str.join ", " ts ++ (if n == 1 then ",)" else ")" : String)).length ≤ piled ts + 2 := by
  subst hn
  exact fmt_text ts
theorem tup_rest {s : Shared} {a : Addr} {o : Obj} {items : Array Value} {n b : Nat} {ms : List Nat} {Q : Fin → Shared → Prop} (ha : h₀.get? a = some o) (hd : o.data = .seq items n)
    (hT : ShowsAll prog w h₀ d items.toList ms) (hu : A.units + d < cLine) (hk : ∀ a o, h₀.get? a = some o → s.heap.get? a = some o)
    (h : ∀ (t : Str) u tk, t.length ≤ (ms.map (· + 2)).sum + 5 → Q (.done (.ret (.str t u))) { s with toks := tk }) (hsz : b + ((ms.map (· + 2)).sum + 5) ≤ sizeLine) :
    wpAny (model prog w) A (tupleReprRest b (.ref a)) Q E s := by
  unfold tupleReprRest Builtin.Tuple.tupleItemsOf
  refine wpAny_bind (wpAny_bind (wpAny_seqItems (hk _ _ ha) hd (wpAny_pure ?_)))
  rw [← Array.forIn_toList]
  refine wpAny_bind (tup_fold _ ms _ _ _ _ hT (by omega) hu hk fun ts k tk hl hp => ?_)
  have hj := join_short ts items.size (by rw [hl]; simp)
  refine wpAny_bind (wpAny_mkStr (wpAny_pure ?_) ?_)
  · have h1 := h _ tk (tk + 1) (Nat.le_trans hj (by omega))
    simpa using h1
  · simp only [Array.empty_append] at *
    exact Nat.le_trans hj (by omega)
theorem tup_at {s : Shared} {a : Addr} {o : Obj} {items : Array Value} {n b : Nat} {ms : List Nat} {Q : Fin → Shared → Prop} (ha : h₀.get? a = some o) (hd : o.data = .seq items n)
    (hT : ShowsAll prog w h₀ d items.toList ms) (hu : A.units + d < cLine) (hk : ∀ a o, h₀.get? a = some o → s.heap.get? a = some o)
    (h : ∀ (t : Str) u tk, t.length ≤ (ms.map (· + 2)).sum + 5 → Q (.done (.ret (.str t u))) { s with toks := tk }) (hsz : b + ((ms.map (· + 2)).sum + 5) ≤ sizeLine) :
    wpAny (model prog w) A (Builtin.tupleReprAt b ⟨[.ref a], []⟩) Q E s := by
  rw [tuple_repr_tree]
  refine wpAny_bind (fmt_underWay fun u => ?_)
  cases u with
  | true =>
    refine PySem.W.KFB.if_so rfl ?_
    refine wpAny_bind (wpAny_rule ?_)
    refine wpAny_bind (wpAny_mkStr (wpAny_pure ?_) (by decide +kernel))
    exact h "(...)" _ _ (Nat.le_trans fmt_way (Nat.le_add_left _ _))
  | false =>
    refine PySem.W.KFB.if_not rfl ?_
    exact tup_rest ha hd hT hu hk h hsz
theorem Shows.tup {a : Addr} {o : Obj} {items : Array Value} {n : Nat} {ms : List Nat} (ha : h₀.get? a = some o) (hc : o.cls = .type "tuple") (hd : o.data = .seq items n)
    (hT : ShowsAll prog w h₀ d items.toList ms) : Shows prog w h₀ (d + 1) (.ref a) ((ms.map (· + 2)).sum + 5) := by
  intro b hb A E s Q hu hk k
  refine wpAny_pyReprUnder_ref (by omega) ?_
  refine wpAny_pyReprObjUnder_twin (twin := "tuple.__repr__.under") ⟨o, hk _ _ ha, hc⟩ F.slot_tuple_repr rfl (by omega) ?_
  refine call_twin_own (F.quiet_tuple_repr_under _) F.entry_tuple_repr_under F.check_tuple_repr_under ⟨o, hk _ _ ha, hc⟩ F.slot_tuple_repr (F.args_tuple_repr_1 _)
    (wpOwn_of_wpAny (tup_at ha hd hT (by rw [units_under_tuple_repr_under]; omega) hk (fun t u tk ht => ?_) hb))
  exact ⟨⟨_, _, rfl⟩, t, u, rfl, k t tk ht⟩
theorem tup_repr_call {s : Shared} {Q : Value → Shared → Prop} {a : Addr} {o : Obj} {items : Array Value} {n : Nat} {ms : List Nat} (ha : h₀.get? a = some o) (hc : o.cls = .type "tuple") (hd : o.data = .seq items n)
    (hT : ShowsAll prog w h₀ d items.toList ms) (hu : A.units + (d + 1) < cLine) (hk : ∀ a o, h₀.get? a = some o → s.heap.get? a = some o) (hsz : (ms.map (· + 2)).sum + 5 ≤ sizeLine)
    (h : ∀ (t : Str) u tk, t.length ≤ (ms.map (· + 2)).sum + 5 → Q (.str t u) { s with toks := tk }) : wpAny (model prog w) A (call (.builtin "tuple.__repr__") [.ref a]) Q E s := by
  refine wpAny_call (codeAny_call_builtin_own (Code.quiet_builtin _ (by decide +kernel)) F.entry_tuple_repr (F.slot_tuple_repr.check _ _ _ _ _ _ _ _ ⟨o, hk _ _ ha, hc⟩ (F.args_tuple_repr_1 _) (wpOwn_of_wpAny ?_)))
  exact tup_at (b := 0) ha hd hT (by rw [units_under_tuple_repr]; omega) hk (fun t u tk ht => h t u tk ht) (by omega)
end
/-! ### words: numbers and short texts -/
def isW : PyData → Prop
  | .int i => 0 ≤ i ∧ i < 10000000
  | .str x => x.length ≤ 10 ∧ ∀ c ∈ x.cps.toList, c < 16 ^ 8
  | _ => False
theorem log_small {i : Int} (h0 : 0 ≤ i) (h : i < 10000000) : i.natAbs.log2 < 1920 := by
  have e : i.natAbs < 2 ^ 1920 := Nat.lt_of_lt_of_le (show i.natAbs < 10000000 by omega) (by decide +kernel)
  by_cases z : i.natAbs = 0
  · rw [z]; decide
  · exact (Nat.log2_lt z).mpr e
def numS (i : Int) : Str := Str.ofString (toString i)
theorem numS_len {i : Int} (h0 : 0 ≤ i) (h : i < 10000000) : (numS i).length ≤ 8 := by
  have e := int_text_length_le10 (a := i) (k := 7) (by decide) (by omega)
  unfold numS
  rw [PySem.ofString_length]
  exact e
def wordS : PyData → Str
  | .str x => x
  | .int i => numS i
  | _ => Str.empty
theorem wordS_len {d : PyData} (h : isW d) : (wordS d).length ≤ 10 := by
  cases d with
  | int i => exact Nat.le_trans (numS_len h.1 h.2) (by decide)
  | str x => exact h.1
  | _ => exact h.elim
section
variable {K : PySem.W.Frag} {H : Hp} {prog : Program} {w : World}
theorem shows_word {h₀ : Heap} {v : V} {u : Value} {d : PyData} (iv : Im K H v d) (hw : isW d) (r : RelV v u) : Shows prog w h₀ 0 u 110 := by
  cases d with
  | int i =>
    obtain rfl := iv.i
    obtain ⟨t, rfl⟩ := (show ∃ t, u = Value.int i t from r)
    have e := numS_len hw.1 hw.2
    exact (Shows.of (ReprIs.int t (log_small hw.1 hw.2))).mono (by unfold numS at e; omega)
  | str x =>
    obtain rfl := iv.s
    obtain ⟨t, rfl⟩ := (show ∃ t, u = Value.str x t from r)
    have e := StrLaws.reprText_len x hw.2
    have e2 := hw.1
    refine (Shows.of (ReprIs.str x t ?_)).mono (by omega)
    rw [sizeLine_eq]; omega
  | _ => exact hw.elim
theorem shows_words {h₀ : Heap} : ∀ {vs : List V} {us : List Value} {ds : List PyData}, Ims K H vs ds → (∀ d ∈ ds, isW d) → Vals vs us → ShowsAll prog w h₀ 0 us (ds.map fun _ => 110)
  | _, _, _, .nil, _, r => by cases r; exact .nil
  | _, _, _, .cons i t, h, r => by
    cases r with
    | cons r1 r2 => exact .cons (shows_word i (h _ List.mem_cons_self) r1) (shows_words t (fun d hd => h d (List.mem_cons_of_mem _ hd)) r2)
theorem sum_const {α : Type} (l : List α) (n : Nat) : ((l.map fun _ => n).map (· + 2)).sum = (n + 2) * l.length := by
  induction l with
  | nil => rfl
  | cons a l ih => rw [List.map_cons, List.map_cons, List.sum_cons, ih, List.length_cons, Nat.mul_succ]; omega
end
section
variable {X : Cx}
theorem shows_part {prog : Program} {w : World} {pins : List (Addr × Obj)} {s : Shared} {σ : L2.St} {H : Hp} {v : V} {u : Value} {ds : List PyData} (I : Inv X pins σ H s) (iv : Im X.K H v (.tuple ds)) (hw : ∀ d ∈ ds, isW d) (hl : ds.length ≤ 3) (r : RelV v u) :
    Shows prog w s.heap 1 u 350 := by
  obtain ⟨a, xs, rfl, ht, is⟩ := iv.t
  obtain rfl : u = Value.ref a := r
  obtain ⟨its, rv, ⟨o, ho, hc, n, hd⟩, _⟩ := I.tuple ht
  refine (Shows.tup ho hc hd (shows_words is hw rv)).mono ?_
  rw [sum_const]
  omega
theorem shows_parts {prog : Program} {w : World} {pins : List (Addr × Obj)} {s : Shared} {σ : L2.St} {H : Hp} (I : Inv X pins σ H s) : ∀ {vs : List V} {us : List Value} {ps : List (List PyData)}, Ims X.K H vs (ps.map PyData.tuple) → (∀ p ∈ ps, p.length ≤ 3 ∧ ∀ d ∈ p, isW d) → Vals vs us →
    ShowsAll prog w s.heap 1 us (ps.map fun _ => 350)
  | _, _, [], i, _, r => by cases i; cases r; exact .nil
  | _, _, p :: ps, i, h, r => by
    cases i with
    | cons i t =>
      cases r with
      | cons r1 r2 => exact .cons (shows_part I i (h p List.mem_cons_self).2 (h p List.mem_cons_self).1 r1) (shows_parts I t (fun q hq => h q (List.mem_cons_of_mem _ hq)) r2)
theorem str_some {prog : Program} {w : World} {h₀ : Heap} {d : Nat} {A : Around} {E : Value → Shared → Prop} {s : Shared} {Q : Value → Shared → Prop} {a : Addr} {o : Obj} {items : Array Value} {n : Nat} {ms : List Nat} (ha : h₀.get? a = some o) (hc : o.cls = .type "tuple") (hd : o.data = .seq items n)
    (hT : ∀ prog w, ShowsAll prog w h₀ d items.toList ms) (hu : A.units + (d + 5) < cLine) (hk : ∀ a o, h₀.get? a = some o → s.heap.get? a = some o) (hsz : (ms.map (· + 2)).sum + 5 ≤ sizeLine)
    (h : ∀ (t : Str) u tk, Q (.str t u) { s with toks := tk }) : wpAny (model prog w) A (call (.type "str") [.ref a]) Q E s :=
  callType_new F.called_str (by decide) (F.typeCall_str_1 _) (F.newCall_str_1 _) (fun obj => F.args_object_init_2 obj _) F.entry_str_new
    (meets_str_new (S := fun A' R s' => A'.units + (d + 4) < cLine ∧ (∀ b o, h₀.get? b = some o → s'.heap.get? b = some o) ∧ ∀ (t : Str) u tk, R (.ok (.ret (.str t u))) { s' with toks := tk })
      fun prog' w' A' R s' h => wpAny_strOf_slot rfl (by show A'.units + 1 + 1 < cLine; have := h.1; omega) ⟨o, h.2.1 _ _ ha, hc⟩ F.slot_tuple_str F.slot_tuple_repr
        (tup_repr_call ha hc hd (hT prog' w') (by show A'.units + 1 + 1 + (d + 1) < cLine; have := h.1; omega) h.2.1 hsz fun t u tk ht => ⟨_, _, rfl, h.2.2 t u tk⟩))
    ⟨by show A.units + 1 + (d + 4) < cLine; omega, hk, fun t u tk => ⟨typeIs_str _ _ _, h t u tk⟩⟩
/-- str(x) of a number or a text -/
def rStrW (xs : List V) (H : Hp) (Q : VK) : Prop := ∃ v d, xs = [v] ∧ (v = .str (wordS d) ∧ d = .str (wordS d) ∨ ∃ i, v = .int i ∧ d = .int i) ∧ isW d ∧ Q (.str (wordS d)) H
theorem call_strW : CallR X (.type "str") rStrW := by
  intro pins s σ H xs us Q I rv h
  obtain ⟨v, d, rfl, h, hw, q⟩ := h
  rcases h with ⟨rfl, hd⟩ | ⟨i, rfl, rfl⟩
  · exact SkE.call_str_str pins s σ H _ us Q I rv ⟨_, rfl, q⟩
  · exact call_str_int pins s σ H _ us Q I rv ⟨i, rfl, log_small hw.1 hw.2, q⟩
/-- str(x) of a number, or of a tuple of tuples of words -/
def rStrP (K : PySem.W.Frag) (xs : List V) (H : Hp) (Q : VK) : Prop := (∃ i, xs = [.int i] ∧ 0 ≤ i ∧ i < 10000000 ∧ Q (.str (numS i)) H) ∨
  ∃ (v : V) (ps : List (List PyData)), xs = [v] ∧ Im K H v (.tuple (ps.map PyData.tuple)) ∧ ps.length ≤ 100 ∧ (∀ p ∈ ps, p.length ≤ 3 ∧ ∀ d ∈ p, isW d) ∧ ∀ t, Q (.str t) H
theorem call_strP {k : Nat} (hr : Room k X.A) : CallR X (.type "str") (rStrP X.K) := by
  intro pins s σ H xs us Q I rv h
  rcases h with ⟨i, rfl, h0, h1, q⟩ | ⟨v, ps, rfl, iv, hl, hp, q⟩
  · exact call_str_int pins s σ H _ us Q I rv ⟨i, rfl, log_small h0 h1, q⟩
  · obtain ⟨u, rfl, r1⟩ := vals1 rv
    obtain ⟨a, xs, rfl, ht, is⟩ := iv.t
    obtain rfl : u = Value.ref a := r1
    obtain ⟨its, rvs, ⟨o, ho, hc, n, hd⟩, _⟩ := I.tuple ht
    have hu := hr.un
    refine str_some (d := 1) (h₀ := s.heap) (ms := ps.map fun _ => 350) ho hc hd (fun prog w => shows_parts I is hp rvs) (by omega) (fun _ _ e => e) ?_ fun t u tk => ⟨.str t, H, I.tok _, ⟨u, rfl⟩, q t⟩
    rw [sum_const, sizeLine_eq]; omega
end
open PySem PySem.Spec PyProof.Rows L2
/-! ### a weave as a text -/
def Deed.ws : Deed → List PyData
  | .add n => [.str "add", .int n]
  | .times n => [.str "times", .int n]
  | .minus => [.str "minus"]
  | .first => [.str "first"]
  | .second => [.str "second"]
  | .both => [.str "both"]
  | .sum => [.str "sum"]
  | .many => [.str "many"]
def Tst.ws : Tst → List PyData
  | .below n => [.str "below", .int n]
  | .over n => [.str "over", .int n]
  | .rest m r => [.str "rest", .int m, .int r]
theorem Deed.d_ws (d : Deed) : d.d = .tuple d.ws := by cases d <;> rfl
theorem Tst.d_ws (d : Tst) : d.d = .tuple d.ws := by cases d <;> rfl
def sideS (ws : List PyData) : Str := Str.join " " (ws.map wordS)
def partsS (ps : List (List PyData)) : Str := Str.join ", " (ps.map sideS)
def Ln.row : Ln → Str
  | .source k => ("source " : Str) ++ numS k
  | .map ds a => ("map" : Str) ++ (" " : Str) ++ partsS (ds.map Deed.ws) ++ (" of " : Str) ++ numS a
  | .keep ts a => ("keep" : Str) ++ (" " : Str) ++ partsS (ts.map Tst.ws) ++ (" of " : Str) ++ numS a
  | .whil ts a => ("while" : Str) ++ (" " : Str) ++ partsS (ts.map Tst.ws) ++ (" of " : Str) ++ numS a
  | .take n a => ("take" : Str) ++ (" " : Str) ++ numS n ++ (" of " : Str) ++ numS a
  | .skip n a => ("skip" : Str) ++ (" " : Str) ++ numS n ++ (" of " : Str) ++ numS a
  | .group n a => ("group" : Str) ++ (" " : Str) ++ numS n ++ (" of " : Str) ++ numS a
  | .window n a => ("window" : Str) ++ (" " : Str) ++ numS n ++ (" of " : Str) ++ numS a
  | .fold w n a => ("fold " : Str) ++ w.s ++ (" " : Str) ++ numS n ++ (" of " : Str) ++ numS a
  | .chain a b => ("chain" : Str) ++ (" " : Str) ++ numS a ++ (" " : Str) ++ numS b
  | .pair a b => ("pair" : Str) ++ (" " : Str) ++ numS a ++ (" " : Str) ++ numS b
  | .merge a b => ("merge" : Str) ++ (" " : Str) ++ numS a ++ (" " : Str) ++ numS b
section
variable {X : Cx} {o e : Expr} {to te : TE}
/-- s.join(l), l a list of texts -/
def rJoin (K : PySem.W.Frag) (x : V) (xs : List V) (H : Hp) (Q : VK) : Prop := ∃ a p, ∃ ys : List Str, x = .str a ∧ xs = [.ref p] ∧ SqL K H p (ys.map V.str) ∧ (ys.map (·.length)).sum + ys.length * a.length ≤ 16777216 ∧ Q (.str (Str.join a ys)) H
theorem pe_joinK {K : PySem.W.Frag} {apos pos : Pos} (hK : X.K = K) (ho : PE X o to) (he : PE X e te) (hs : starEach [e] X.env = [(false, eval e X.env)] := by rfl) (hbase : attributeBase o "join" X.env (eval o X.env) = eval o X.env := by rfl) (hline : (apos.endLine == pos.line) = true := by rfl) :
    PE X (.Call (.Attribute o "join" apos) [e] [] pos) (fun σ H Q => to σ H fun x H1 => (∃ a, x = .str a) ∧ te σ H1 fun y H2 => rJoin K x [y] H2 Q) := by
  subst hK
  exact pe_m1 F.slot_str_join F.type_str_join (MtR.imp mt_join fun x xs H Q q => by
    obtain ⟨a, p, ys, e1, e2, h, l, q⟩ := q
    exact ⟨a, p, ys, e1, e2, .inl h, l, by rw [TL.join_eq]; exact q⟩) ho he hs hbase hline
end
theorem word_or {K : PySem.W.Frag} {H : Hp} {v : V} {d : PyData} (h : Im K H v d) (hw : isW d) : v = .str (wordS d) ∧ d = .str (wordS d) ∨ ∃ i, v = .int i ∧ d = .int i := by
  cases d with
  | int i => exact .inr ⟨i, h.i, rfl⟩
  | str x => exact .inl ⟨h.s, rfl⟩
  | _ => exact hw.elim
theorem app_assoc (a b c : Str) : a ++ b ++ c = a ++ (b ++ c) := by
  show (⟨(a.cps ++ b.cps) ++ c.cps⟩ : Str) = ⟨a.cps ++ (b.cps ++ c.cps)⟩
  rw [Array.append_assoc]
theorem emp_app (a : Str) : Str.empty ++ a = a := by
  show (⟨#[] ++ a.cps⟩ : Str) = a
  rw [Array.empty_append]
theorem side2 (a b : PyData) : sideS [a, b] = wordS a ++ (" " : Str) ++ wordS b := rfl
theorem side3 (a b c : PyData) : sideS [a, b, c] = wordS a ++ (" " : Str) ++ wordS b ++ (" " : Str) ++ wordS c := by
  show wordS a ++ (" " : Str) ++ (wordS b ++ (" " : Str) ++ wordS c) = _
  rw [← app_assoc, ← app_assoc]
/-- its numbers are small -/
def Ln.sm (l : Ln) : Prop := numOk l = true ∧ (∀ a ∈ l.names, 0 ≤ a ∧ a < 1000) ∧ (∀ k, l.src = some k → 0 ≤ k ∧ k < 1000)
theorem isW_num {n : Int} (h : Num n) : isW (.int n) := ⟨h.1, by have := h.2; omega⟩
theorem Deed.isW {d : Deed} (h : d.Ok) : d.ws.length ≤ 3 ∧ ∀ x ∈ d.ws, isW x := by
  cases d with
  | add n => exact ⟨(by decide : 2 ≤ 3), fun x hx => by rcases List.mem_cons.mp hx with rfl | hx; exact ⟨by decide +kernel, by decide +kernel⟩; rw [List.mem_singleton.mp hx]; exact isW_num h⟩
  | times n => exact ⟨(by decide : 2 ≤ 3), fun x hx => by rcases List.mem_cons.mp hx with rfl | hx; exact ⟨by decide +kernel, by decide +kernel⟩; rw [List.mem_singleton.mp hx]; exact isW_num h⟩
  | _ => exact ⟨(by decide : 1 ≤ 3), fun x hx => by rw [List.mem_singleton.mp hx]; exact ⟨by decide +kernel, by decide +kernel⟩⟩
theorem Tst.isW {d : Tst} (h : d.Ok) : d.ws.length ≤ 3 ∧ ∀ x ∈ d.ws, isW x := by
  cases d with
  | below n => exact ⟨(by decide : 2 ≤ 3), fun x hx => by rcases List.mem_cons.mp hx with rfl | hx; exact ⟨by decide +kernel, by decide +kernel⟩; rw [List.mem_singleton.mp hx]; exact isW_num h⟩
  | over n => exact ⟨(by decide : 2 ≤ 3), fun x hx => by rcases List.mem_cons.mp hx with rfl | hx; exact ⟨by decide +kernel, by decide +kernel⟩; rw [List.mem_singleton.mp hx]; exact isW_num h⟩
  | rest m r =>
    obtain ⟨h1, h2, h3⟩ := h
    refine ⟨(by decide : 3 ≤ 3), fun x hx => ?_⟩
    rcases List.mem_cons.mp hx with rfl | hx
    · exact ⟨by decide +kernel, by decide +kernel⟩
    rcases List.mem_cons.mp hx with rfl | hx
    · exact isW_num h1
    rw [List.mem_singleton.mp hx]
    exact ⟨h2, by have := h1.2; omega⟩
theorem len_app (a b : Str) : (a ++ b).length = a.length + b.length := strLen_append a b
theorem jl {acc y : Str} (h : acc.length + y.length ≤ 10000) : (acc ++ y).length ≤ sizeLine := by rw [len_app, sizeLine_eq]; omega
theorem emp_len : Str.empty.length = 0 := rfl
theorem join_len (s : Str) : ∀ xs : List Str, (Str.join s xs).length ≤ (xs.map (·.length)).sum + xs.length * s.length
  | [] => Nat.zero_le _
  | [x] => by
    show x.length ≤ (x.length + 0) + 1 * s.length
    omega
  | x :: y :: r => by
    have ih := join_len s (y :: r)
    show (x ++ s ++ Str.join s (y :: r)).length ≤ _
    rw [len_app, len_app, List.map_cons, List.sum_cons, List.length_cons, Nat.succ_mul]
    omega
theorem sum_bound {xs : List Str} {n : Nat} (h : ∀ x ∈ xs, x.length ≤ n) : (xs.map (·.length)).sum ≤ n * xs.length := by
  induction xs with
  | nil => exact Nat.zero_le _
  | cons x xs ih =>
    have h1 := h x List.mem_cons_self
    have h2 := ih fun y hy => h y (List.mem_cons_of_mem _ hy)
    rw [List.map_cons, List.sum_cons, List.length_cons, Nat.mul_succ]
    omega
theorem side_len {ws : List PyData} (hl : ws.length ≤ 4) (hw : ∀ x ∈ ws, isW x) : (sideS ws).length ≤ 50 := by
  have h1 := join_len " " (ws.map wordS)
  have h2 := sum_bound (xs := ws.map wordS) (n := 10) fun x hx => by
    obtain ⟨d, hd, rfl⟩ := List.mem_map.mp hx
    exact wordS_len (hw d hd)
  rw [List.length_map] at h1 h2
  have h3 : ((" " : Str)).length = 1 := by decide +kernel
  rw [h3] at h1
  unfold sideS
  omega
theorem parts_len {ps : List (List PyData)} (hl : ps.length ≤ 100) (hp : ∀ p ∈ ps, p.length ≤ 3 ∧ ∀ d ∈ p, isW d) : (partsS ps).length ≤ 5200 ∧ ((ps.map sideS).map (·.length)).sum ≤ 5000 := by
  have h1 := join_len ", " (ps.map sideS)
  have h2 := sum_bound (xs := ps.map sideS) (n := 50) fun x hx => by
    obtain ⟨d, hd, rfl⟩ := List.mem_map.mp hx
    exact side_len (Nat.le_trans (hp d hd).1 (by decide)) (hp d hd).2
  rw [List.length_map] at h1 h2
  have h3 : ((", " : Str)).length = 2 := by decide +kernel
  rw [h3] at h1
  unfold partsS
  constructor <;> omega
theorem isW_lit {x : Str} (h : x.length ≤ 10 ∧ x.cps.toList.all (fun c => decide (c < 16 ^ 8)) = true) : isW (.str x) := ⟨h.1, fun c hc => of_decide_eq_true (List.all_eq_true.mp h.2 c hc)⟩
theorem fw_isW (w : Fw) : isW (.str w.s) := by cases w <;> exact isW_lit (by decide +kernel)
theorem sm_num {l : Ln} (h : l.sm) : ∀ a ∈ l.names, isW (.int a) := fun a ha => ⟨(h.2.1 a ha).1, by have := (h.2.1 a ha).2; omega⟩
theorem deeds_ws {ds : List Deed} (h : deedsCan ds = true) : ds.length ≤ 64 ∧ ∀ p ∈ ds.map Deed.ws, p.length ≤ 3 ∧ ∀ d ∈ p, isW d := by
  unfold deedsCan at h
  rw [Bool.and_eq_true, Bool.and_eq_true, decide_eq_true_eq, decide_eq_true_eq, List.all_eq_true] at h
  refine ⟨h.1.2, fun p hp => ?_⟩
  obtain ⟨d, hd, rfl⟩ := List.mem_map.mp hp
  exact Deed.isW (deedNum_iff.mp (h.2 d hd))
theorem tests_ws {ds : List Tst} (h : testsCan ds = true) : ds.length ≤ 64 ∧ ∀ p ∈ ds.map Tst.ws, p.length ≤ 3 ∧ ∀ d ∈ p, isW d := by
  unfold testsCan at h
  rw [Bool.and_eq_true, Bool.and_eq_true, decide_eq_true_eq, decide_eq_true_eq, List.all_eq_true] at h
  refine ⟨h.1.2, fun p hp => ?_⟩
  obtain ⟨d, hd, rfl⟩ := List.mem_map.mp hp
  exact Tst.isW (tstNum_iff.mp (h.2 d hd))
theorem num10 {n : Int} (h0 : 0 ≤ n) (h1 : n < 10000000) : (numS n).length ≤ 10 := Nat.le_trans (numS_len h0 h1) (by decide)
theorem row_len {l : Ln} (h : l.sm) : l.row.length ≤ 6000 := by
  obtain ⟨hn, ha, hs⟩ := h
  have l1 : ((" " : Str)).length = 1 := by decide +kernel
  have l2 : ((" of " : Str)).length = 4 := by decide +kernel
  have w1 : ((("map" : Str)).length = 3 ∧ (("keep" : Str)).length = 4 ∧ (("while" : Str)).length = 5 ∧ (("take" : Str)).length = 4 ∧ (("skip" : Str)).length = 4) := by decide +kernel
  have w2 : ((("group" : Str)).length = 5 ∧ (("window" : Str)).length = 6 ∧ (("fold " : Str)).length = 5 ∧ (("chain" : Str)).length = 5 ∧ (("pair" : Str)).length = 4 ∧ (("merge" : Str)).length = 5 ∧ (("source " : Str)).length = 7) := by decide +kernel
  obtain ⟨w1a, w1b, w1c, w1d, w1e⟩ := w1
  obtain ⟨w2a, w2b, w2c, w2d, w2e, w2f, w2g⟩ := w2
  have nm : ∀ a ∈ l.names, (numS a).length ≤ 10 := fun a h => num10 (ha a h).1 (by have := (ha a h).2; omega)
  cases l with
  | source k =>
    have := num10 (hs k rfl).1 (by have := (hs k rfl).2; omega)
    simp only [Ln.row, len_app]; omega
  | map ds a =>
    obtain ⟨h1, h2⟩ := deeds_ws hn
    have := (parts_len (by rw [List.length_map]; omega) h2).1
    have := nm a List.mem_cons_self
    simp only [Ln.row, len_app]; omega
  | keep ds a =>
    obtain ⟨h1, h2⟩ := tests_ws hn
    have := (parts_len (by rw [List.length_map]; omega) h2).1
    have := nm a List.mem_cons_self
    simp only [Ln.row, len_app]; omega
  | whil ds a =>
    obtain ⟨h1, h2⟩ := tests_ws hn
    have := (parts_len (by rw [List.length_map]; omega) h2).1
    have := nm a List.mem_cons_self
    simp only [Ln.row, len_app]; omega
  | take n a =>
    have h : (decide (0 ≤ n) && decide (n ≤ 9999)) = true := hn
    rw [Bool.and_eq_true, decide_eq_true_eq, decide_eq_true_eq] at h
    have := num10 h.1 (by omega)
    have := nm a List.mem_cons_self
    simp only [Ln.row, len_app]; omega
  | skip n a =>
    have h : (decide (0 ≤ n) && decide (n ≤ 9999)) = true := hn
    rw [Bool.and_eq_true, decide_eq_true_eq, decide_eq_true_eq] at h
    have := num10 h.1 (by omega)
    have := nm a List.mem_cons_self
    simp only [Ln.row, len_app]; omega
  | group n a =>
    have h : (decide (1 ≤ n) && isNum n) = true := hn
    rw [Bool.and_eq_true, decide_eq_true_eq, isNum_iff] at h
    have := num10 h.2.1 (by have := h.2.2; omega)
    have := nm a List.mem_cons_self
    simp only [Ln.row, len_app]; omega
  | window n a =>
    have h : (decide (1 ≤ n) && decide (n ≤ 9)) = true := hn
    rw [Bool.and_eq_true, decide_eq_true_eq, decide_eq_true_eq] at h
    have := num10 (n := n) (by omega) (by omega)
    have := nm a List.mem_cons_self
    simp only [Ln.row, len_app]; omega
  | fold w n a =>
    have h : isNum n = true := hn
    rw [isNum_iff] at h
    have := num10 h.1 (by have := h.2; omega)
    have := nm a List.mem_cons_self
    have := (fw_isW w).1
    simp only [Ln.row, len_app]; omega
  | chain a b =>
    have := nm a List.mem_cons_self
    have := nm b (List.mem_cons_of_mem _ List.mem_cons_self)
    simp only [Ln.row, len_app]; omega
  | pair a b =>
    have := nm a List.mem_cons_self
    have := nm b (List.mem_cons_of_mem _ List.mem_cons_self)
    simp only [Ln.row, len_app]; omega
  | merge a b =>
    have := nm a List.mem_cons_self
    have := nm b (List.mem_cons_of_mem _ List.mem_cons_self)
    simp only [Ln.row, len_app]; omega
theorem good_sm {many : Int} {ls : List Ln} {ks : List Kd} (w : GoodW many ls ks) (hm : many ≤ 1000) (hl : ls.length ≤ 1000) : ∀ l ∈ ls, l.sm := by
  intro l h
  obtain ⟨i, hi, e⟩ := List.getElem_of_mem h
  obtain ⟨k, _, hp, hn, _⟩ := w.at (i := i) (l := l) (by rw [List.getElem?_eq_getElem hi, e])
  refine ⟨hn, fun a ha => ?_, fun k hk => ?_⟩
  · have := place_names hp a ha
    exact ⟨this.1, by omega⟩
  · cases l with
    | source j =>
      obtain rfl : j = k := Option.some.inj hk
      have h : ((decide (0 ≤ j) && decide (j < many)) && !decide (j ∈ srcs (ls.take i))) = true := hp
      rw [Bool.and_eq_true, Bool.and_eq_true, decide_eq_true_eq, decide_eq_true_eq] at h
      exact ⟨h.1.1, by omega⟩
    | _ => cases hk
open PySem PySem.Spec PyProof.Rows L2
/-! ### a text read -/
def numR (w : Str) : Option Int :=
  if (Txt.isascii w && Txt.isdigit w) = false ∨ 9 < w.length then none
  else if w.cps.toList.head? = some 48 ∧ w ≠ "0" then none
  else some ((NumText.digitsVal w.cps.toList : Nat) : Int)
theorem dig_small : ∀ c : Nat, c < 128 → Unicode.isDigit c = true → 48 ≤ c ∧ c ≤ 57 := by decide +kernel
theorem small_dig : ∀ c : Nat, c < 58 → 48 ≤ c → Unicode.isDigit c = true := by decide +kernel
theorem ascii_digits {w : Str} (h1 : Txt.isascii w = true) (h2 : Txt.isdigit w = true) : w.cps.toList ≠ [] ∧ w.cps.toList.all (fun c => decide (48 ≤ c) && decide (c ≤ 57)) = true := by
  have h1 : w.cps.all (· < 128) = true := h1
  have h2 : (decide (w.length > 0) && w.cps.all Unicode.isDigit) = true := h2
  rw [Bool.and_eq_true, decide_eq_true_eq, ← Array.all_toList, List.all_eq_true] at h2
  rw [← Array.all_toList, List.all_eq_true] at h1
  refine ⟨fun z => ?_, List.all_eq_true.mpr fun c hc => ?_⟩
  · have := h2.1
    unfold Str.length at this
    rw [← Array.length_toList, z] at this
    exact absurd this (Nat.lt_irrefl 0)
  · have a := of_decide_eq_true (h1 c hc)
    obtain ⟨b1, b2⟩ := dig_small c a (h2.2 c hc)
    rw [decide_eq_true b1, decide_eq_true b2]
    rfl
theorem int_of_digits {w : Str} (h1 : Txt.isascii w = true) (h2 : Txt.isdigit w = true) (h3 : w.length ≤ 9) : intText? w = some ((NumText.digitsVal w.cps.toList : Nat) : Int) := by
  obtain ⟨a, b⟩ := ascii_digits h1 h2
  exact SX.int_S (a := w.cps.toList) b a (by rw [Array.length_toList]; unfold Str.length at h3; omega)
section
variable {X : Cx} {o e : Expr} {to te : TE}
/-- s.split(t): a new list of texts -/
def rSplit (x : V) (xs : List V) (H : Hp) (Q : VK) : Prop := ∃ a b, x = .str a ∧ xs = [.str b] ∧ (b.length == 0) = false ∧ a.length + 2 ≤ sizeLine ∧ ∀ p H', H p = none → Same H H' → H' p = some (.lst ((Txt.split a b).map V.str)) → Q (.ref p) H'
theorem pe_splitK {apos pos : Pos} (ho : PE X o to) (he : PE X e te) (hs : starEach [e] X.env = [(false, eval e X.env)] := by rfl) (hbase : attributeBase o "split" X.env (eval o X.env) = eval o X.env := by rfl) (hline : (apos.endLine == pos.line) = true := by rfl) :
    PE X (.Call (.Attribute o "split" apos) [e] [] pos) (fun σ H Q => to σ H fun x H1 => (∃ a, x = .str a) ∧ te σ H1 fun y H2 => rSplit x [y] H2 Q) :=
  pe_m1 F.slot_str_split F.type_str_split (MtR.imp mt_split fun x xs H Q q => by
    obtain ⟨a, b, e1, e2, h, l, q⟩ := q
    exact ⟨a, b, e1, e2, h, l, fun p n => q p _ n (same_new n) upd_same⟩) ho he hs hbase hline
end
theorem atI_zero {α : Type} (c : α) (r : List α) : atI (c :: r) 0 = some c := by
  have e : ixN (c :: r).length 0 = some 0 := by
    unfold ixN
    simp
  unfold atI
  rw [e]
  rfl
def numsR : List Str → Option (List Int)
  | [] => some []
  | w :: r => match numR w, numsR r with
    | some n, some l => some (n :: l)
    | _, _ => none
def headR (ws : List Str) (m : Nat) : Option (List PyData) :=
  match ws with
  | [] => none
  | w :: r => match numsR r with
    | some l => if l.length = m then some (.str w :: l.map PyData.int) else none
    | none => none
def bare : List Str := ["minus", "first", "second", "both", "sum", "many"]
def manyOf (w : Str) : Nat := if w ∈ bare then 0 else if w = "rest" then 2 else 1
def deedW : List Str := ["add", "times", "minus", "first", "second", "both", "sum", "many"]
def testW : List Str := ["below", "over", "rest"]
def foldW : List Str := ["add", "times", "least", "most"]
def partR (known ws : List Str) : Option (List PyData) :=
  match ws with
  | [] => none
  | w :: _ => if w ∈ known then headR ws (manyOf w) else none
def allR {α : Type} : List (Option α) → Option (List α)
  | [] => some []
  | x :: r => match x, allR r with
    | some n, some l => some (n :: l)
    | _, _ => none
def partsR (known ws : List Str) : Option (List PyData) :=
  match ws with
  | [] => none
  | w :: r => match allR ((Txt.split (Str.join " " r) ", ").map fun p => partR known (Txt.split p " ")) with
    | some ps => some [.str w, .tuple (ps.map PyData.tuple)]
    | none => none
def foldTail : List Str → Bool
  | [f, _] => decide (f ∈ foldW)
  | _ => false
def foldR : List Str → Option (List PyData)
  | [f, n] => (numR n).map fun n => [.str "fold", .str f, .int n]
  | _ => none
def aheadC (w : Str) (r : List Str) : Option (List PyData) :=
  if w ∈ (["take", "skip", "group", "window"] : List Str) then headR (w :: r) 1
  else if w = "fold" ∧ foldTail r = true then foldR r
  else if w = "map" then partsR deedW (w :: r)
  else if w ∈ (["keep", "while"] : List Str) then partsR testW (w :: r)
  else none
def aheadR (ws : List Str) : Option (List PyData) :=
  match ws with
  | [] => none
  | w :: r => aheadC w r
def lineR (ws : List Str) : Option (List PyData) :=
  match ws with
  | [] => none
  | w :: _ =>
    if w = "source" then headR ws 1
    else if w ∈ (["chain", "pair", "merge"] : List Str) then headR ws 2
    else if ws.length < 3 ∨ ws[ws.length - 2]? ≠ some "of" then none
    else match aheadR (ws.take (ws.length - 2)), (ws[ws.length - 1]?).bind numR with
      | some l, some a => some (l ++ [.int a])
      | _, _ => none
def rowR (row : Str) : Option (List PyData) := lineR (Txt.split row " ")
def rowsR : Nat → List Str → Nat ⊕ List (List PyData)
  | _, [] => .inr []
  | k, r :: rs => match rowR r with
    | none => .inl k
    | some l => match rowsR (k + 1) rs with
      | .inl e => .inl e
      | .inr ls => .inr (l :: ls)
def badRows : List Str := [("" : Str), ("source" : Str), ("source 01" : Str), ("source -1" : Str), ("source 1 2" : Str), ("sources 1" : Str), ("source 1234567890" : Str), (" source 1" : Str),
  ("source 1 " : Str), ("map add 1" : Str), ("map add of 0" : Str), ("map add 1 2 of 0" : Str), ("map add 1,minus of 0" : Str), ("map  add 1 of 0" : Str),
  ("map below 3 of 0" : Str), ("keep add 3 of 0" : Str), ("keep of 0" : Str), ("while rest 3 of 0" : Str), ("map of 0" : Str), ("take of 0" : Str),
  ("take 3 0" : Str), ("take 3 of" : Str), ("take 3 of 0 of 1" : Str), ("take 3  of 0" : Str), ("skip x of 0" : Str), ("window +3 of 0" : Str),
  ("fold add of 0" : Str), ("fold minus 1 of 0" : Str), ("fold 1 add of 0" : Str), ("chain 0" : Str), ("chain 0 1 2" : Str), ("pair 0  1" : Str),
  ("merge 0, 1" : Str), ("merge 0 of 1" : Str), ("Map minus of 0" : Str), ("map minus, of 0" : Str), ("map , minus of 0" : Str), ("of 0" : Str)]
theorem bad_none : (badRows.all fun r => (rowR r).isNone) = true := by decide +kernel
theorem map_none : rowR "map" = none := by decide +kernel

/-! what a reading hands back -/
def ans (o : Option Int) : V := match o with
  | some n => .int n
  | none => .non
/-- a reading: parts under way, or None -/
def Ans (K : PySem.W.Frag) (H : Hp) (Q : VK) (o : Option (List PyData)) : Prop := match o with
  | some ds => ∀ v H', Same H H' → Im K H' v (.tuple ds) → Q v H'
  | none => ∀ H', Same H H' → Q .non H'
theorem Ans.same {K : PySem.W.Frag} {H H' : Hp} {Q : VK} {o : Option (List PyData)} (a : Ans K H Q o) (s : Same H H') : Ans K H' Q o := by
  cases o with
  | none => exact fun H2 s2 => a H2 (s.trans s2)
  | some ds => exact fun v H2 s2 i => a v H2 (s.trans s2) i
/-- short words -/
def Shorts (ws : List Str) : Prop := ws.length ≤ 1000000 ∧ ∀ w ∈ ws, w.length ≤ 1000000
theorem cut1 (x : V) (xs : List V) : cutV (x :: xs) (some 1) none = xs := by
  unfold cutV
  have e1 : HT.sIx (x :: xs).length 0 (some 1) = 1 := by
    simp [HT.sIx]
  have e2 : HT.sIx (x :: xs).length (x :: xs).length none = (x :: xs).length := rfl
  rw [e1, e2]
  simp
theorem nums_in : ∀ (r : List Str), inV .non ((r.map numR).map ans) = (numsR r).isNone
  | [] => rfl
  | w :: r => by
    have ih := nums_in r
    unfold inV at ih ⊢
    rw [List.map_cons, List.map_cons, List.any_cons, ih]
    show (eqV (ans (numR w)) .non || (numsR r).isNone) = (match numR w, numsR r with
      | some n, some l => some (n :: l)
      | _, _ => none).isNone
    cases numR w with
    | none => cases numsR r <;> rfl
    | some n => cases numsR r <;> rfl
theorem nums_some : ∀ {r : List Str} {l : List Int}, numsR r = some l → (r.map numR).map ans = l.map V.int
  | [], l, h => by cases h; rfl
  | w :: r, l, h => by
    unfold numsR at h
    cases e : numR w with
    | none => rw [e] at h; cases h
    | some n =>
      cases e2 : numsR r with
      | none => rw [e, e2] at h; cases h
      | some l2 =>
        rw [e, e2] at h
        cases h
        rw [List.map_cons, List.map_cons, nums_some e2, e]
        rfl
theorem numsR_len : ∀ {r : List Str} {l : List Int}, numsR r = some l → l.length = r.length
  | [], l, h => by cases h; rfl
  | w :: r, l, h => by
    have h : (match numR w, numsR r with
      | some n, some l => some (n :: l)
      | _, _ => none) = some l := h
    cases e : numR w with
    | none => rw [e] at h; cases numsR r <;> cases h
    | some n =>
      cases e2 : numsR r with
      | none => rw [e, e2] at h; cases h
      | some l2 =>
        rw [e, e2] at h
        cases h
        rw [List.length_cons, List.length_cons, numsR_len e2]
theorem head_eq {u : Str} {r : List Str} {n : Nat} : headR (u :: r) n = (match numsR r with
    | some l => if l.length = n then some (.str u :: l.map PyData.int) else none
    | none => none) := rfl
theorem head_len {u : Str} {r : List Str} {n : Nat} (h : r.length ≠ n) : headR (u :: r) n = none := by
  rw [head_eq]
  cases e : numsR r with
  | none => rfl
  | some l => exact if_neg (by rw [numsR_len e]; exact h)
theorem head_none {u : Str} {r : List Str} {n : Nat} (h : numsR r = none) : headR (u :: r) n = none := by rw [head_eq, h]
theorem head_some {u : Str} {r : List Str} {n : Nat} {l : List Int} (h : numsR r = some l) (hn : r.length = n) : headR (u :: r) n = some (.str u :: l.map PyData.int) := by
  rw [head_eq, h]
  exact if_pos ((numsR_len h).trans hn)
theorem ans_flat : ∀ l : List (Option Int), (l.map ans).all flatV = true
  | [] => rfl
  | o :: l => by
    rw [List.map_cons, List.all_cons, ans_flat l]
    cases o <;> rfl
theorem in_strs (u : Str) : ∀ l : List Str, inV (.str u) (l.map V.str) = decide (u ∈ l)
  | [] => rfl
  | w :: l => by
    have ih := in_strs u l
    unfold inV at ih ⊢
    rw [List.map_cons, List.any_cons, ih, Bool.eq_iff_iff, Bool.or_eq_true, decide_eq_true_eq, decide_eq_true_eq, List.mem_cons]
    have e : eqV (.str w) (.str u) = true ↔ u = w := by
      simp [eqV]
      exact eq_comm
    rw [e]
theorem strs_flat : ∀ l : List Str, (l.map V.str).all flatV = true
  | [] => rfl
  | _ :: l => strs_flat l
/-! lengths -/
theorem spl_len (S : List Nat) : ∀ (l : List Nat) (k : Nat) (acc : List Nat), ((TL.spl S k acc l).map List.length).sum + (TL.spl S k acc l).length ≤ acc.length + l.length + 1
  | [], k, acc => by rw [TL.spl_nil]; show acc.length + 0 + 1 ≤ _; omega
  | c :: r, 0, acc => by
    cases h : TL.pre S (c :: r) with
    | true =>
      rw [TL.spl_hit h]
      have := spl_len S r (S.length - 1) []
      simp only [List.map_cons, List.sum_cons, List.length_cons, List.length_nil] at this ⊢
      omega
    | false =>
      rw [TL.spl_miss h]
      have := spl_len S r 0 (acc ++ [c])
      simp only [List.length_append, List.length_cons, List.length_nil] at this ⊢
      omega
  | c :: r, k + 1, acc => by
    show ((TL.spl S k acc r).map List.length).sum + (TL.spl S k acc r).length ≤ _
    have := spl_len S r k acc
    simp only [List.length_cons] at this ⊢
    omega
theorem spl_ne (S : List Nat) : ∀ (l : List Nat) (k : Nat) (acc : List Nat), TL.spl S k acc l ≠ []
  | [], k, acc => by rw [TL.spl_nil]; simp
  | c :: r, 0, acc => by
    cases h : TL.pre S (c :: r) with
    | true => rw [TL.spl_hit h]; simp
    | false => rw [TL.spl_miss h]; exact spl_ne S r 0 _
  | c :: r, k + 1, acc => spl_ne S r k acc
/-- short words, short together -/
def Wds (ws : List Str) : Prop := (ws.map (·.length)).sum + ws.length ≤ 1000000
theorem len_list (x : Str) : x.length = x.cps.toList.length := by
  unfold Str.length
  rw [Array.length_toList]
theorem split_row {x y : Str} (hy : y.cps.toList ≠ []) (hk : y.cps.all (· < 256) = true) : Txt.split x y ≠ [] ∧ ((Txt.split x y).map (·.length)).sum + (Txt.split x y).length ≤ x.length + 1 := by
  have e := TL.split_spl x y hy (TL.kind_ok hk)
  have a := spl_len y.cps.toList x.cps.toList 0 []
  rw [← e] at a
  rw [List.map_map, List.length_map] at a
  have b : (Txt.split x y).map (·.length) = (Txt.split x y).map (List.length ∘ TL.tl) := List.map_congr_left fun z _ => len_list z
  rw [b, len_list x]
  refine ⟨fun z => ?_, by simp only [List.length_nil] at a; omega⟩
  rw [z] at e
  exact spl_ne _ _ _ _ e.symm
theorem mem_sum {l : List Str} {w : Str} (h : w ∈ l) : w.length ≤ (l.map (·.length)).sum := by
  induction l with
  | nil => cases h
  | cons a l ih =>
    rw [List.map_cons, List.sum_cons]
    rcases List.mem_cons.mp h with rfl | h
    · omega
    · have := ih h; omega
theorem Wds.shorts {ws : List Str} (h : Wds ws) : Shorts ws := ⟨by unfold Wds at h; omega, fun w hw => by have := mem_sum hw; unfold Wds at h; omega⟩
theorem Wds.one {ws : List Str} (h : Wds ws) {w : Str} (hw : w ∈ ws) : w.length + 1 ≤ 1000000 := by
  have := mem_sum hw
  have := List.length_pos_of_mem hw
  unfold Wds at h; omega
theorem split_sp {x : Str} (h : x.length + 1 ≤ 1000000) : ∃ w r, Txt.split x " " = w :: r ∧ Wds (w :: r) := by
  obtain ⟨a, b⟩ := split_row (x := x) (y := " ") (by decide +kernel) (by decide +kernel)
  obtain ⟨w, r, e⟩ := List.exists_cons_of_ne_nil a
  exact ⟨w, r, e, by rw [e] at b; unfold Wds; omega⟩
theorem split_cm {x : Str} (h : x.length + 1 ≤ 1000000) : Wds (Txt.split x ", ") := by
  obtain ⟨a, b⟩ := split_row (x := x) (y := ", ") (by decide +kernel) (by decide +kernel)
  unfold Wds; omega
theorem Wds.tail {w : Str} {r : List Str} (h : Wds (w :: r)) : (r.map (·.length)).sum + r.length + 1 ≤ 1000000 := by
  unfold Wds at h
  simp only [List.map_cons, List.sum_cons, List.length_cons] at h
  omega
theorem Wds.join {w : Str} {r : List Str} (h : Wds (w :: r)) : (Str.join " " r).length + 1 ≤ 1000000 := by
  have a := join_len " " r
  have b := h.tail
  have c : ((" " : Str)).length = 1 := by decide +kernel
  rw [c] at a
  omega
/-- parts read so far -/
def dOf (o : Option (List PyData)) : PyData := match o with
  | some ds => .tuple ds
  | none => .none
theorem allR_cons {α : Type} (o : Option α) (os : List (Option α)) : allR (o :: os) = (match o, allR os with
  | some n, some l => some (n :: l)
  | _, _ => none) := rfl
theorem none_any : ∀ os : List (Option (List PyData)), (os.map dOf).any (fun z => PyData.eqv z .none) = (allR os).isNone
  | [] => rfl
  | o :: os => by
    rw [List.map_cons, List.any_cons, none_any os, allR_cons]
    cases o with
    | none => cases allR os <;> rfl
    | some ds => cases allR os <;> rfl
/-- a part that was read -/
def POk (known : List Str) (o : Option (List PyData)) : Prop := ∀ ds, o = some ds → ∃ w, ∃ l : List Int, ds = .str w :: l.map PyData.int ∧ w ∈ known
theorem headR_form {ws : List Str} {n : Nat} {ds : List PyData} (h : headR ws n = some ds) : ∃ w r, ∃ l : List Int, ws = w :: r ∧ ds = .str w :: l.map PyData.int := by
  cases ws with
  | nil => cases h
  | cons w r =>
    rw [head_eq] at h
    cases e : numsR r with
    | none => rw [e] at h; cases h
    | some l =>
      rw [e] at h
      by_cases c : l.length = n
      · have h : (if l.length = n then some (PyData.str w :: l.map PyData.int) else none) = some ds := h
        rw [if_pos c] at h
        cases h
        exact ⟨w, r, l, rfl, rfl⟩
      · have h : (if l.length = n then some (PyData.str w :: l.map PyData.int) else none) = some ds := h
        rw [if_neg c] at h
        cases h
theorem partR_ok (known ws : List Str) : POk known (partR known ws) := fun ds h => by
  cases ws with
  | nil => cases h
  | cons w r =>
    have h : (if w ∈ known then headR (w :: r) (manyOf w) else none) = some ds := h
    by_cases c : w ∈ known
    · rw [if_pos c] at h
      obtain ⟨w', r', l, e, rfl⟩ := headR_form h
      cases e
      exact ⟨w, l, rfl, c⟩
    · rw [if_neg c] at h
      cases h
theorem part_can {known : List Str} (hk : ∀ w ∈ known, PyData.strOk w = true) {o : Option (List PyData)} (h : POk known o) : (dOf o).canLay0 = true ∧ (dOf o).depth ≤ 1 := by
  cases o with
  | none => exact ⟨rfl, Nat.zero_le _⟩
  | some ds =>
    obtain ⟨w, l, rfl, hw⟩ := h ds rfl
    have h1 := canAll (f := PyData.int) (fun _ => rfl) l
    have h2 := depAll (f := PyData.int) (n := 0) (fun _ => Nat.le_refl _) l
    constructor
    · show (PyData.strOk w && PyData.canLayAll0 (l.map PyData.int)) = true
      rw [hk w hw, h1]; rfl
    · show max 0 (PyData.depthAll (l.map PyData.int)) + 1 ≤ 1
      omega
theorem parts_can {known : List Str} (hk : ∀ w ∈ known, PyData.strOk w = true) : ∀ {os : List (Option (List PyData))}, (∀ o ∈ os, POk known o) → PyData.canLayAll0 (os.map dOf) = true ∧ PyData.depthAll (os.map dOf) ≤ 1
  | [], _ => ⟨rfl, Nat.zero_le _⟩
  | o :: os, h => by
    obtain ⟨a, b⟩ := part_can hk (h o List.mem_cons_self)
    obtain ⟨c, d⟩ := parts_can hk (os := os) fun x hx => h x (List.mem_cons_of_mem _ hx)
    constructor
    · show ((dOf o).canLay0 && PyData.canLayAll0 (os.map dOf)) = true
      rw [a, c]; rfl
    · show max (dOf o).depth (PyData.depthAll (os.map dOf)) ≤ 1
      omega
theorem parts_shaped {known : List Str} (hk : ∀ w ∈ known, PyData.strOk w = true) {os : List (Option (List PyData))} (h : ∀ o ∈ os, POk known o) : SeqAt.shaped (.list (os.map dOf)) = true := by
  obtain ⟨a, b⟩ := parts_can hk h
  show ((PyData.canLayAll0 (os.map dOf)) && decide (PyData.depthAll (os.map dOf) + 1 ≤ 64)) = true
  rw [a, Bool.true_and]
  exact decide_eq_true (by omega)
theorem all_some : ∀ {os : List (Option (List PyData))} {ps : List (List PyData)}, allR os = some ps → os.map dOf = ps.map PyData.tuple
  | [], ps, h => by cases h; rfl
  | o :: os, ps, h => by
    rw [allR_cons] at h
    cases o with
    | none => cases allR os <;> cases h
    | some d =>
      cases e : allR os with
      | none => rw [e] at h; cases h
      | some l =>
        rw [e] at h
        cases h
        rw [List.map_cons, List.map_cons, all_some e]
        rfl
theorem fold_tail : ∀ {r : List Str}, foldTail r = true → ∃ f n, r = [f, n] ∧ f ∈ foldW
  | [f, n], h => ⟨f, n, rfl, of_decide_eq_true h⟩
  | [], h => by cases h
  | [_], h => by cases h
  | _ :: _ :: _ :: _, h => by cases h
theorem last_two {α : Type} (r : List α) (h : 2 ≤ r.length) : ∃ r0 x y, r = r0 ++ [x, y] := by
  have e := (List.take_append_drop (r.length - 2) r).symm
  have l : (r.drop (r.length - 2)).length = 2 := by rw [List.length_drop]; omega
  match d : r.drop (r.length - 2), l with
  | [x, y], _ => exact ⟨r.take (r.length - 2), x, y, by rw [d] at e; exact e⟩
theorem atI_back2 {α : Type} (l : List α) (x y : α) : atI (l ++ [x, y]) (-2) = some x := by
  have hl : (l ++ [x, y]).length = l.length + 2 := by simp
  unfold atI ixN
  rw [if_neg (by omega), if_pos (by rw [hl]; omega), hl]
  show (l ++ [x, y])[(-2 + ((l.length + 2 : Nat) : Int)).toNat]? = some x
  rw [show (-2 + ((l.length + 2 : Nat) : Int)).toNat = l.length by omega, List.getElem?_append_right (Nat.le_refl _), Nat.sub_self]
  rfl
theorem atI_back1 {α : Type} (l : List α) (x y : α) : atI (l ++ [x, y]) (-1) = some y := by
  have hl : (l ++ [x, y]).length = l.length + 2 := by simp
  unfold atI ixN
  rw [if_neg (by omega), if_pos (by rw [hl]; omega), hl]
  show (l ++ [x, y])[(-1 + ((l.length + 2 : Nat) : Int)).toNat]? = some y
  rw [show (-1 + ((l.length + 2 : Nat) : Int)).toNat = l.length + 1 by omega, List.getElem?_append_right (by omega), show l.length + 1 - l.length = 1 by omega]
  rfl
theorem cut_back2 (l : List V) (x y : V) : cutV (l ++ [x, y]) none (some (-2)) = l := by
  have hl : (l ++ [x, y]).length = l.length + 2 := by simp
  unfold cutV
  have e1 : HT.sIx (l ++ [x, y]).length 0 none = 0 := rfl
  have e2 : HT.sIx (l ++ [x, y]).length (l ++ [x, y]).length (some (-2)) = l.length := by
    rw [hl]
    simp only [HT.sIx]
    first
      | omega
      | (split <;> omega)
      | simp
  rw [e1, e2]
  simp
theorem line_short {u : Str} {r : List Str} (h1 : u ≠ "source") (h2 : u ∉ (["chain", "pair", "merge"] : List Str)) (h : r.length < 2) : lineR (u :: r) = none := by
  unfold lineR
  show (if u = "source" then _ else if u ∈ (["chain", "pair", "merge"] : List Str) then _ else _) = _
  rw [if_neg h1, if_neg h2, if_pos (.inl (by rw [List.length_cons]; omega))]
theorem line_eq {u x y : Str} {r : List Str} (h1 : u ≠ "source") (h2 : u ∉ (["chain", "pair", "merge"] : List Str)) : lineR (u :: (r ++ [x, y])) = if x ≠ "of" then none else (match aheadR (u :: r), numR y with
    | some l, some a => some (l ++ [PyData.int a])
    | _, _ => none) := by
  have hl : (u :: (r ++ [x, y])).length = r.length + 3 := by simp
  have e1 : (u :: (r ++ [x, y]))[r.length + 1]? = some x := by
    rw [List.getElem?_cons_succ, List.getElem?_append_right (Nat.le_refl _), Nat.sub_self]
    rfl
  have e2 : (u :: (r ++ [x, y]))[r.length + 2]? = some y := by
    rw [List.getElem?_cons_succ, List.getElem?_append_right (by omega), show r.length + 1 - r.length = 1 by omega]
    rfl
  have e3 : (u :: (r ++ [x, y])).take (r.length + 1) = u :: r := by
    rw [List.take_succ_cons, List.take_left']
    rfl
  unfold lineR
  show (if u = "source" then _ else if u ∈ (["chain", "pair", "merge"] : List Str) then _ else _) = _
  rw [if_neg h1, if_neg h2, hl, show r.length + 3 - 2 = r.length + 1 by omega, show r.length + 3 - 1 = r.length + 2 by omega, e1, e2, e3]
  by_cases hx : x = "of"
  · rw [if_neg (by rw [hx]; simp), if_neg (by simpa using hx)]
    rfl
  · rw [if_pos (.inr (by simpa using hx)), if_pos hx]
theorem head_size {ws : List Str} {n : Nat} {ds : List PyData} (h : headR ws n = some ds) : ds.length = n + 1 := by
  cases ws with
  | nil => cases h
  | cons w r =>
    rw [head_eq] at h
    cases e : numsR r with
    | none => rw [e] at h; cases h
    | some l =>
      rw [e] at h
      have h : (if l.length = n then some (PyData.str w :: l.map PyData.int) else none) = some ds := h
      by_cases c : l.length = n
      · rw [if_pos c] at h
        cases h
        rw [List.length_cons, List.length_map, c]
      · rw [if_neg c] at h
        cases h
theorem parts_size {known ws : List Str} {ds : List PyData} (h : partsR known ws = some ds) : ds.length = 2 := by
  cases ws with
  | nil => cases h
  | cons w r =>
    have h : (match allR ((Txt.split (Str.join " " r) ", ").map fun p => partR known (Txt.split p " ")) with
      | some ps => some [PyData.str w, PyData.tuple (ps.map PyData.tuple)]
      | none => none) = some ds := h
    cases e : allR ((Txt.split (Str.join " " r) ", ").map fun p => partR known (Txt.split p " ")) with
    | none => rw [e] at h; cases h
    | some ps => rw [e] at h; cases h; rfl
theorem ahead_size {ws : List Str} {ds : List PyData} (h : aheadR ws = some ds) : ds.length ≤ 3 := by
  cases ws with
  | nil => cases h
  | cons w r =>
    have h : aheadC w r = some ds := h
    unfold aheadC at h
    split at h
    · have := head_size h; omega
    split at h
    · rename_i c
      obtain ⟨f, n, rfl, _⟩ := fold_tail c.2
      have h : (numR n).map (fun n => [PyData.str "fold", .str f, .int n]) = some ds := h
      cases e : numR n with
      | none => rw [e] at h; cases h
      | some m => rw [e] at h; cases h; exact Nat.le_refl _
    split at h
    · have := parts_size h; omega
    split at h
    · have := parts_size h; omega
    · cases h
theorem Wds.front {u : Str} {r s : List Str} (h : Wds (u :: (r ++ s))) : Wds (u :: r) := by
  unfold Wds at h ⊢
  simp only [List.map_cons, List.map_append, List.sum_cons, List.sum_append, List.length_cons, List.length_append] at h ⊢
  omega
theorem Ims.strs {K : PySem.W.Frag} {H : Hp} : ∀ ws : List Str, Ims K H (ws.map V.str) (ws.map PyData.str)
  | [] => .nil
  | w :: ws => .cons (.str w) (Ims.strs ws)
/-! ### written, then read -/
/-- a number that is read back -/
def N9 (i : Int) : Prop := 0 ≤ i ∧ i < 1000000000
theorem tl_numS {i : Int} (h : 0 ≤ i) : (numS i).cps.toList = TL.numL i.toNat := by
  have e : ((i.toNat : Nat) : Int) = i := Int.toNat_of_nonneg h
  have := TL.tl_num i.toNat
  rw [e] at this
  exact this
theorem numL_head : ∀ n : Nat, (TL.numL n).head? = some 48 → n = 0 := by
  intro n
  induction n using Nat.strongRecOn with
  | _ n ih =>
    intro h
    by_cases z : n < 10
    · rw [TL.numL_lt z] at h
      have := Option.some.inj h
      omega
    · rw [TL.numL_step (by omega)] at h
      have ne := TL.numL_ne (n / 10)
      cases e : TL.numL (n / 10) with
      | nil => exact absurd e ne
      | cons c r =>
        rw [e] at h
        have := ih (n / 10) (by omega) (by rw [e]; exact h)
        omega
theorem ascii_num {i : Int} (h : 0 ≤ i) : (Txt.isascii (numS i) && Txt.isdigit (numS i)) = true := by
  have d := TL.numL_digits i.toNat
  have ne := TL.numL_ne i.toNat
  have e := tl_numS h
  rw [Bool.and_eq_true]
  constructor
  · show (numS i).cps.all (· < 128) = true
    rw [← Array.all_toList, e, List.all_eq_true]
    intro c hc
    have := d c hc
    exact decide_eq_true (by omega)
  · show (decide ((numS i).length > 0) && (numS i).cps.all Unicode.isDigit) = true
    rw [Bool.and_eq_true, decide_eq_true_eq, ← Array.all_toList, e, List.all_eq_true]
    constructor
    · unfold Str.length
      rw [← Array.length_toList, e]
      exact List.length_pos_iff.mpr ne
    · intro c hc
      have := d c hc
      exact small_dig c (by omega) (by omega)
theorem numR_numS {i : Int} (h : N9 i) : numR (numS i) = some i := by
  have e := tl_numS h.1
  have l : (numS i).length ≤ 9 := by
    unfold Str.length
    rw [← Array.length_toList, e]
    exact TL.numL_len (by decide) (by have := h.2; omega)
  unfold numR
  rw [if_neg (by rw [ascii_num h.1]; exact fun z => z.elim (fun z => by cases z) (by omega)), if_neg, e, TL.numL_val]
  · congr 1
    exact Int.toNat_of_nonneg h.1
  · intro ⟨a, b⟩
    rw [e] at a
    have z := numL_head _ a
    have : i = 0 := by have := h.1; omega
    subst this
    exact b rfl
theorem numsR_nums {l : List Int} (h : ∀ i ∈ l, N9 i) : numsR (l.map numS) = some l := by
  induction l with
  | nil => rfl
  | cons i l ih =>
    have a := numR_numS (h i List.mem_cons_self)
    have b := ih fun j hj => h j (List.mem_cons_of_mem _ hj)
    unfold List.map numsR
    rw [a, b]
theorem headR_nums {w : Str} {l : List Int} {m : Nat} (h : ∀ i ∈ l, N9 i) (hm : l.length = m) : headR (w :: l.map numS) m = some (.str w :: l.map PyData.int) := by
  show (match numsR (l.map numS) with
    | some l => if l.length = m then some (PyData.str w :: l.map PyData.int) else none
    | none => none) = _
  rw [numsR_nums h]
  exact if_pos hm
/-! texts joined and split -/
/-- a sign that does not stand in it -/
def Free (s : Nat) (x : Str) : Prop := s ∉ x.cps.toList
instance (s : Nat) (x : Str) : Decidable (Free s x) := by unfold Free; infer_instance
theorem free_num {s : Nat} {i : Int} (hs : s < 48 ∨ 57 < s) (h : 0 ≤ i) : Free s (numS i) := by
  unfold Free
  rw [tl_numS h]
  exact TL.numL_free hs
theorem free_app {s : Nat} {a b : Str} (ha : Free s a) (hb : Free s b) : Free s (a ++ b) := by
  unfold Free
  rw [show (a ++ b).cps.toList = a.cps.toList ++ b.cps.toList from TL.tl_append a b]
  exact fun h => (List.mem_append.mp h).elim ha hb
theorem free_join {s : Nat} {y : Str} (hy : Free s y) : ∀ {xs : List Str}, (∀ x ∈ xs, Free s x) → Free s (Str.join y xs)
  | [], _ => fun h => absurd h List.not_mem_nil
  | [x], h => h x List.mem_cons_self
  | x :: z :: r, h => free_app (free_app (h x List.mem_cons_self) hy) (free_join hy fun w hw => h w (List.mem_cons_of_mem _ hw))
theorem split_rows {rs : List Str} (ne : rs ≠ []) (h : ∀ r ∈ rs, Free 10 r) : Txt.split (Str.join "\n" rs) "\n" = rs := by
  rw [← TL.join_eq]
  exact TL.split_join (y := "\n") (s := 10) (S := []) (by decide +kernel) (by decide +kernel) ne h
theorem split_words {rs : List Str} (ne : rs ≠ []) (h : ∀ r ∈ rs, Free 32 r) : Txt.split (Str.join " " rs) " " = rs := by
  rw [← TL.join_eq]
  exact TL.split_join (y := " ") (s := 32) (S := []) (by decide +kernel) (by decide +kernel) ne h
theorem split_parts {rs : List Str} (ne : rs ≠ []) (h : ∀ r ∈ rs, Free 44 r) : Txt.split (Str.join ", " rs) ", " = rs := by
  rw [← TL.join_eq]
  exact TL.split_join (y := ", ") (s := 44) (S := [32]) (by decide +kernel) (by decide +kernel) ne h
theorem join_cons {y a : Str} {l : List Str} (ne : l ≠ []) : Str.join y (a :: l) = a ++ y ++ Str.join y l := by
  cases l with
  | nil => exact absurd rfl ne
  | cons b l => rfl
theorem join_app {y : Str} : ∀ {l m : List Str}, l ≠ [] → m ≠ [] → Str.join y (l ++ m) = Str.join y l ++ y ++ Str.join y m
  | [], _, h, _ => absurd rfl h
  | [a], m, _, hm => join_cons hm
  | a :: b :: l, m, _, hm => by
    rw [List.cons_append, join_cons (by simp), join_app (l := b :: l) (by simp) hm, join_cons (y := y) (a := a) (l := b :: l) (by simp)]
    simp only [app_assoc]
/-- with a comma behind it -/
def comma : List Str → List Str
  | [] => []
  | [x] => [x ++ ","]
  | x :: y :: r => x :: comma (y :: r)
theorem comma_ne : ∀ {s : List Str}, s ≠ [] → comma s ≠ []
  | [], h => absurd rfl h
  | [x], _ => by simp [comma]
  | x :: y :: r, _ => by simp [comma]
theorem comma_free {s : List Str} (h : ∀ x ∈ s, Free 32 x) : ∀ x ∈ comma s, Free 32 x := by
  induction s with
  | nil => exact h
  | cons a s ih =>
    cases s with
    | nil =>
      intro x hx
      rw [show comma [a] = [a ++ ","] from rfl, List.mem_singleton] at hx
      subst hx
      exact free_app (h a List.mem_cons_self) (by decide +kernel)
    | cons b s =>
      intro x hx
      rcases List.mem_cons.mp (show x ∈ a :: comma (b :: s) from hx) with rfl | hx
      · exact h _ List.mem_cons_self
      · exact ih (fun z hz => h z (List.mem_cons_of_mem _ hz)) x hx
theorem join_comma {q : List Str} (hq : q ≠ []) : ∀ {s : List Str}, s ≠ [] → Str.join " " (comma s ++ q) = Str.join " " s ++ (", " : Str) ++ Str.join " " q
  | [], h => absurd rfl h
  | [x], _ => by
    have e : (", " : Str) = ("," : Str) ++ (" " : Str) := by decide +kernel
    rw [show comma [x] ++ q = (x ++ ",") :: q from rfl, join_cons hq, e, show Str.join " " [x] = x from rfl]
    simp only [app_assoc]
  | x :: y :: r, _ => by
    rw [show comma (x :: y :: r) ++ q = x :: (comma (y :: r) ++ q) from rfl, join_cons (by simp [comma_ne]), join_comma hq (s := y :: r) (by simp), join_cons (a := x) (l := y :: r) (by simp)]
    simp only [app_assoc]
/-- the words of parts -/
def pw : List (List Str) → List Str
  | [] => []
  | [s] => s
  | s :: t :: r => comma s ++ pw (t :: r)
theorem pw_ne : ∀ {ps : List (List Str)}, ps ≠ [] → (∀ p ∈ ps, p ≠ []) → pw ps ≠ []
  | [], h, _ => absurd rfl h
  | [s], _, h => h s List.mem_cons_self
  | s :: t :: r, _, h => by
    intro z
    exact comma_ne (h s List.mem_cons_self) (List.append_eq_nil_iff.mp z).1
theorem pw_free : ∀ {ps : List (List Str)}, (∀ p ∈ ps, ∀ x ∈ p, Free 32 x) → ∀ x ∈ pw ps, Free 32 x
  | [], _ => fun x hx => absurd hx List.not_mem_nil
  | [s], h => h s List.mem_cons_self
  | s :: t :: r, h => fun x hx => (List.mem_append.mp hx).elim (comma_free (h s List.mem_cons_self) x) (pw_free (ps := t :: r) (fun p hp => h p (List.mem_cons_of_mem _ hp)) x)
theorem pw_join : ∀ {ps : List (List Str)}, ps ≠ [] → (∀ p ∈ ps, p ≠ []) → Str.join " " (pw ps) = Str.join ", " (ps.map (Str.join " "))
  | [], h, _ => absurd rfl h
  | [s], _, h => rfl
  | s :: t :: r, _, h => by
    have h2 : ∀ p ∈ t :: r, p ≠ [] := fun p hp => h p (List.mem_cons_of_mem _ hp)
    rw [show pw (s :: t :: r) = comma s ++ pw (t :: r) from rfl, join_comma (pw_ne (by simp) h2) (h s List.mem_cons_self), pw_join (by simp) h2]
    rfl
/-! a part: a word and numbers -/
structure Part (known : List Str) (ws : List PyData) : Prop where
  out : ∃ w, ∃ l : List Int, ws = .str w :: l.map PyData.int ∧ w ∈ known ∧ l.length = manyOf w ∧ (∀ i ∈ l, N9 i) ∧ Free 32 w ∧ Free 44 w
theorem word_nums (l : List Int) : (l.map PyData.int).map wordS = l.map numS := by
  rw [List.map_map]
  rfl
theorem Part.read {known : List Str} {ws : List PyData} (h : Part known ws) : partR known (ws.map wordS) = some ws := by
  obtain ⟨w, l, rfl, hk, hm, hn, _, _⟩ := h.out
  show partR known (w :: (l.map PyData.int).map wordS) = _
  rw [word_nums]
  show (if w ∈ known then headR (w :: l.map numS) (manyOf w) else none) = _
  rw [if_pos hk, headR_nums hn hm]
theorem Part.ne {known : List Str} {ws : List PyData} (h : Part known ws) : ws.map wordS ≠ [] := by
  obtain ⟨w, l, rfl, _⟩ := h.out
  simp
theorem Part.free {known : List Str} {ws : List PyData} (h : Part known ws) {s : Nat} (hs : s = 32 ∨ s = 44) : ∀ x ∈ ws.map wordS, Free s x := by
  obtain ⟨w, l, rfl, hk, hm, hn, f1, f2⟩ := h.out
  intro x hx
  rcases List.mem_cons.mp (show x ∈ w :: (l.map PyData.int).map wordS from hx) with rfl | hx
  · rcases hs with rfl | rfl
    · exact f1
    · exact f2
  · rw [word_nums] at hx
    obtain ⟨i, hi, rfl⟩ := List.mem_map.mp hx
    exact free_num (by omega) (hn i hi).1
theorem allR_some {α : Type} (l : List α) : allR (l.map some) = some l := by
  induction l with
  | nil => rfl
  | cons a l ih =>
    unfold List.map allR
    rw [ih]
theorem partsR_row {known : List Str} {w : Str} {ps : List (List PyData)} (ne : ps ≠ []) (h : ∀ p ∈ ps, Part known p) : partsR known (w :: pw (ps.map (·.map wordS))) = some [.str w, .tuple (ps.map PyData.tuple)] := by
  show (match allR ((Txt.split (Str.join " " (pw (ps.map (·.map wordS)))) ", ").map fun p => partR known (Txt.split p " ")) with
    | some ps => some [PyData.str w, PyData.tuple (ps.map PyData.tuple)]
    | none => none) = _
  have n1 : ∀ p ∈ ps.map (·.map wordS), p ≠ [] := fun p hp => by
    obtain ⟨q, hq, rfl⟩ := List.mem_map.mp hp
    exact (h q hq).ne
  rw [pw_join (by simpa using ne) n1, split_parts (by simpa using ne)]
  · rw [List.map_map, List.map_map]
    have e : List.map (((fun p => partR known (Txt.split p " ")) ∘ Str.join " ") ∘ fun x => x.map wordS) ps = ps.map some := by
      refine List.map_congr_left fun p hp => ?_
      show partR known (Txt.split (Str.join " " (p.map wordS)) " ") = some p
      rw [split_words (h p hp).ne ((h p hp).free (.inl rfl))]
      exact (h p hp).read
    rw [e, allR_some]
  · intro r hr
    obtain ⟨q, hq, rfl⟩ := List.mem_map.mp hr
    obtain ⟨p, hp, rfl⟩ := List.mem_map.mp hq
    exact free_join (by decide +kernel) ((h p hp).free (.inr rfl))
theorem parts_row (ps : List (List PyData)) (ne : ps ≠ []) (h : ∀ p ∈ ps, p.map wordS ≠ []) : partsS ps = Str.join " " (pw (ps.map (·.map wordS))) := by
  rw [pw_join (by simpa using ne) fun p hp => by
    obtain ⟨q, hq, rfl⟩ := List.mem_map.mp hp
    exact h q hq, List.map_map]
  rfl
theorem lineR_of {w x : Str} {r : List Str} {l : List PyData} {a : Int} (h1 : w ≠ "source") (h2 : w ∉ (["chain", "pair", "merge"] : List Str)) (ha : aheadR (w :: r) = some l) (hn : numR x = some a) :
    lineR (w :: (r ++ [("of" : Str), x])) = some (l ++ [.int a]) := by
  have hl : (w :: (r ++ [("of" : Str), x])).length = r.length + 3 := by simp
  have e1 : (w :: (r ++ [("of" : Str), x]))[r.length + 1]? = some "of" := by
    rw [List.getElem?_cons_succ, List.getElem?_append_right (Nat.le_refl _), Nat.sub_self]
    rfl
  have e2 : (w :: (r ++ [("of" : Str), x]))[r.length + 2]? = some x := by
    rw [List.getElem?_cons_succ, List.getElem?_append_right (by omega), show r.length + 1 - r.length = 1 by omega]
    rfl
  have e3 : (w :: (r ++ [("of" : Str), x])).take (r.length + 1) = w :: r := by
    rw [List.take_succ_cons, List.take_left']
    rfl
  unfold lineR
  show (if w = "source" then _ else if w ∈ (["chain", "pair", "merge"] : List Str) then _ else _) = _
  rw [if_neg h1, if_neg h2, hl, show r.length + 3 - 2 = r.length + 1 by omega, show r.length + 3 - 1 = r.length + 2 by omega, e1, e2, e3, if_neg (by simp), ha]
  show (match some l, numR x with
      | some l, some a => some (l ++ [PyData.int a])
      | _, _ => none) = _
  rw [hn]
/-! the rows of a weave -/
def Ln.its : Ln → List PyData
  | .source k => [.str "source", .int k]
  | .map ds a => [.str "map", .tuple (ds.map Deed.d), .int a]
  | .keep ts a => [.str "keep", .tuple (ts.map Tst.d), .int a]
  | .whil ts a => [.str "while", .tuple (ts.map Tst.d), .int a]
  | .take n a => [.str "take", .int n, .int a]
  | .skip n a => [.str "skip", .int n, .int a]
  | .group n a => [.str "group", .int n, .int a]
  | .window n a => [.str "window", .int n, .int a]
  | .fold w n a => [.str "fold", .str w.s, .int n, .int a]
  | .chain a b => [.str "chain", .int a, .int b]
  | .pair a b => [.str "pair", .int a, .int b]
  | .merge a b => [.str "merge", .int a, .int b]
theorem Ln.d_its (l : Ln) : l.d = .tuple l.its := by cases l <;> rfl
theorem deed_part {d : Deed} (h : d.Ok) : Part deedW d.ws := by
  cases d with
  | add n => exact ⟨"add", [n], rfl, by decide +kernel, (show 1 = manyOf "add" by decide +kernel), fun i hi => by rw [List.mem_singleton.mp hi]; exact ⟨h.1, by have := h.2; omega⟩, by decide +kernel, by decide +kernel⟩
  | times n => exact ⟨"times", [n], rfl, by decide +kernel, (show 1 = manyOf "times" by decide +kernel), fun i hi => by rw [List.mem_singleton.mp hi]; exact ⟨h.1, by have := h.2; omega⟩, by decide +kernel, by decide +kernel⟩
  | minus => exact ⟨"minus", [], rfl, by decide +kernel, by decide +kernel, (by intro i hi; cases hi), by decide +kernel, by decide +kernel⟩
  | first => exact ⟨"first", [], rfl, by decide +kernel, by decide +kernel, (by intro i hi; cases hi), by decide +kernel, by decide +kernel⟩
  | second => exact ⟨"second", [], rfl, by decide +kernel, by decide +kernel, (by intro i hi; cases hi), by decide +kernel, by decide +kernel⟩
  | both => exact ⟨"both", [], rfl, by decide +kernel, by decide +kernel, (by intro i hi; cases hi), by decide +kernel, by decide +kernel⟩
  | sum => exact ⟨"sum", [], rfl, by decide +kernel, by decide +kernel, (by intro i hi; cases hi), by decide +kernel, by decide +kernel⟩
  | many => exact ⟨"many", [], rfl, by decide +kernel, by decide +kernel, (by intro i hi; cases hi), by decide +kernel, by decide +kernel⟩
theorem test_part {d : Tst} (h : d.Ok) : Part testW d.ws := by
  cases d with
  | below n => exact ⟨"below", [n], rfl, by decide +kernel, (show 1 = manyOf "below" by decide +kernel), fun i hi => by rw [List.mem_singleton.mp hi]; exact ⟨h.1, by have := h.2; omega⟩, by decide +kernel, by decide +kernel⟩
  | over n => exact ⟨"over", [n], rfl, by decide +kernel, (show 1 = manyOf "over" by decide +kernel), fun i hi => by rw [List.mem_singleton.mp hi]; exact ⟨h.1, by have := h.2; omega⟩, by decide +kernel, by decide +kernel⟩
  | rest m r =>
    obtain ⟨h1, h2, h3⟩ := h
    refine ⟨"rest", [m, r], rfl, by decide +kernel, (show 2 = manyOf "rest" by decide +kernel), fun i hi => ?_, by decide +kernel, by decide +kernel⟩
    rcases List.mem_cons.mp hi with rfl | hi
    · exact ⟨h1.1, by have := h1.2; omega⟩
    · rw [List.mem_singleton.mp hi]
      exact ⟨h2, by have := h1.2; omega⟩
theorem deeds_part {ds : List Deed} (h : deedsCan ds = true) : ds ≠ [] ∧ ∀ p ∈ ds.map Deed.ws, Part deedW p := by
  unfold deedsCan at h
  rw [Bool.and_eq_true, Bool.and_eq_true, decide_eq_true_eq, decide_eq_true_eq, List.all_eq_true] at h
  refine ⟨fun z => by subst z; exact absurd h.1.1 (by decide), fun p hp => ?_⟩
  obtain ⟨d, hd, rfl⟩ := List.mem_map.mp hp
  exact deed_part (deedNum_iff.mp (h.2 d hd))
theorem tests_part {ds : List Tst} (h : testsCan ds = true) : ds ≠ [] ∧ ∀ p ∈ ds.map Tst.ws, Part testW p := by
  unfold testsCan at h
  rw [Bool.and_eq_true, Bool.and_eq_true, decide_eq_true_eq, decide_eq_true_eq, List.all_eq_true] at h
  refine ⟨fun z => by subst z; exact absurd h.1.1 (by decide), fun p hp => ?_⟩
  obtain ⟨d, hd, rfl⟩ := List.mem_map.mp hp
  exact test_part (tstNum_iff.mp (h.2 d hd))
theorem of_eq : (" of " : Str) = (" " : Str) ++ ("of" : Str) ++ (" " : Str) := by decide +kernel
theorem row_of {ws : List Str} {r : Str} {l : List PyData} (e : r = Str.join " " ws) (ne : ws ≠ []) (h : ∀ x ∈ ws, Free 32 x) (hl : lineR ws = some l) : rowR r = some l := by
  unfold rowR
  rw [e, split_words ne h, hl]
/-- `w A of a`, A under way as words -/
theorem row_ahead {w A : Str} {r : List Str} {l : List PyData} {a : Int} (hw : Free 32 w) (h1 : w ≠ "source") (h2 : w ∉ (["chain", "pair", "merge"] : List Str)) (hA : A = Str.join " " r) (ne : r ≠ []) (hr : ∀ x ∈ r, Free 32 x)
    (ha : aheadR (w :: r) = some l) (hn : N9 a) : rowR (w ++ (" " : Str) ++ A ++ (" of " : Str) ++ numS a) = some (l ++ [.int a]) := by
  refine row_of (ws := w :: (r ++ [("of" : Str), numS a])) ?_ (by simp) (fun x hx => ?_) (lineR_of h1 h2 ha (numR_numS hn))
  · rw [join_cons (by simp), join_app ne (by simp), of_eq, hA, show Str.join " " [("of" : Str), numS a] = ("of" : Str) ++ (" " : Str) ++ numS a from rfl]
    simp only [app_assoc]
  · rcases List.mem_cons.mp hx with rfl | hx
    · exact hw
    rcases List.mem_append.mp hx with hx | hx
    · exact hr x hx
    rcases List.mem_cons.mp hx with rfl | hx
    · decide +kernel
    · rw [List.mem_singleton.mp hx]
      exact free_num (by omega) hn.1
theorem row_two {w : Str} {a b : Int} (hw : Free 32 w) (h1 : w ≠ "source") (h2 : w ∈ (["chain", "pair", "merge"] : List Str)) (ha : N9 a) (hb : N9 b) : rowR (w ++ (" " : Str) ++ numS a ++ (" " : Str) ++ numS b) = some [.str w, .int a, .int b] := by
  refine row_of (ws := [w, numS a, numS b]) ?_ (by simp) (fun x hx => ?_) ?_
  · rw [show Str.join " " [w, numS a, numS b] = w ++ (" " : Str) ++ (numS a ++ (" " : Str) ++ numS b) from rfl]
    simp only [app_assoc]
  · rcases List.mem_cons.mp hx with rfl | hx
    · exact hw
    rcases List.mem_cons.mp hx with rfl | hx
    · exact free_num (by omega) ha.1
    · rw [List.mem_singleton.mp hx]
      exact free_num (by omega) hb.1
  · show (if w = "source" then _ else if w ∈ (["chain", "pair", "merge"] : List Str) then headR (w :: [a, b].map numS) 2 else _) = _
    rw [if_neg h1, if_pos h2]
    exact headR_nums (fun i hi => by
      rcases List.mem_cons.mp hi with rfl | hi
      · exact ha
      · rw [List.mem_singleton.mp hi]; exact hb) rfl
theorem row_num {w : Str} {n a : Int} (hw : w ∈ (["take", "skip", "group", "window"] : List Str)) (hn : N9 n) (ha : N9 a) : rowR (w ++ (" " : Str) ++ numS n ++ (" of " : Str) ++ numS a) = some [.str w, .int n, .int a] := by
  have k : ∀ w ∈ (["take", "skip", "group", "window"] : List Str), Free 32 w ∧ w ≠ "source" ∧ w ∉ (["chain", "pair", "merge"] : List Str) := by decide +kernel
  obtain ⟨k1, k2, k3⟩ := k w hw
  refine row_ahead (r := [numS n]) (l := [.str w, .int n]) k1 k2 k3 rfl (by simp) (fun x hx => ?_) ?_ ha
  · rw [List.mem_singleton.mp hx]
    exact free_num (by omega) hn.1
  · show aheadC w ([n].map numS) = _
    unfold aheadC
    rw [if_pos hw]
    exact headR_nums (fun i hi => by rw [List.mem_singleton.mp hi]; exact hn) rfl
theorem row_parts {w : Str} {known : List Str} {ps : List (List PyData)} {a : Int} (hw : w = "map" ∧ known = deedW ∨ (w = "keep" ∨ w = "while") ∧ known = testW) (ne : ps ≠ []) (h : ∀ p ∈ ps, Part known p) (ha : N9 a) :
    rowR (w ++ (" " : Str) ++ partsS ps ++ (" of " : Str) ++ numS a) = some [.str w, .tuple (ps.map PyData.tuple), .int a] := by
  have k : Free 32 w ∧ w ≠ "source" ∧ w ∉ (["chain", "pair", "merge"] : List Str) := by
    rcases hw with ⟨rfl, _⟩ | ⟨rfl | rfl, _⟩ <;> decide +kernel
  obtain ⟨k1, k2, k3⟩ := k
  have n1 : ∀ p ∈ ps, p.map wordS ≠ [] := fun p hp => (h p hp).ne
  refine row_ahead (r := pw (ps.map (·.map wordS))) (l := [.str w, .tuple (ps.map PyData.tuple)]) k1 k2 k3 (parts_row ps ne n1) (pw_ne (by simpa using ne) fun p hp => ?_) (pw_free fun p hp => ?_) ?_ ha
  · obtain ⟨q, hq, rfl⟩ := List.mem_map.mp hp
    exact n1 q hq
  · obtain ⟨q, hq, rfl⟩ := List.mem_map.mp hp
    exact (h q hq).free (.inl rfl)
  · have z := partsR_row (w := w) ne h
    rcases hw with ⟨rfl, rfl⟩ | ⟨rfl | rfl, rfl⟩
    · show aheadC _ _ = _
      unfold aheadC
      rw [if_neg (by decide +kernel), if_neg (fun q => absurd q.1 (by decide +kernel)), if_pos rfl]
      exact z
    · show aheadC _ _ = _
      unfold aheadC
      rw [if_neg (by decide +kernel), if_neg (fun q => absurd q.1 (by decide +kernel)), if_neg (by decide +kernel), if_pos (by decide +kernel)]
      exact z
    · show aheadC _ _ = _
      unfold aheadC
      rw [if_neg (by decide +kernel), if_neg (fun q => absurd q.1 (by decide +kernel)), if_neg (by decide +kernel), if_pos (by decide +kernel)]
      exact z
theorem fw_word (w : Fw) : w.s ∈ foldW ∧ Free 32 w.s := by cases w <;> decide +kernel
theorem row_fold {w : Fw} {n a : Int} (hn : N9 n) (ha : N9 a) : rowR (("fold " : Str) ++ w.s ++ (" " : Str) ++ numS n ++ (" of " : Str) ++ numS a) = some [.str "fold", .str w.s, .int n, .int a] := by
  obtain ⟨k1, k2⟩ := fw_word w
  have z := row_ahead (w := "fold") (A := w.s ++ (" " : Str) ++ numS n) (r := [w.s, numS n]) (l := [.str "fold", .str w.s, .int n]) (a := a) (by decide +kernel) (by decide +kernel) (by decide +kernel) rfl (by simp) (fun x hx => by
    rcases List.mem_cons.mp hx with rfl | hx
    · exact k2
    · rw [List.mem_singleton.mp hx]; exact free_num (by omega) hn.1) (by
    show aheadC _ _ = _
    unfold aheadC
    rw [if_neg (by decide +kernel), if_pos ⟨rfl, decide_eq_true k1⟩]
    show (numR (numS n)).map _ = _
    rw [numR_numS hn]
    rfl) ha
  rw [show ("fold " : Str) = ("fold" : Str) ++ (" " : Str) by decide +kernel]
  simp only [app_assoc] at z ⊢
  exact z
theorem row_source {k : Int} (hk : N9 k) : rowR (("source " : Str) ++ numS k) = some [.str "source", .int k] := by
  refine row_of (ws := [("source" : Str), numS k]) ?_ (by simp) (fun x hx => ?_) ?_
  · rw [show ("source " : Str) = ("source" : Str) ++ (" " : Str) by decide +kernel]
    rfl
  · rcases List.mem_cons.mp hx with rfl | hx
    · decide +kernel
    · rw [List.mem_singleton.mp hx]
      exact free_num (by omega) hk.1
  · unfold lineR
    show (if ("source" : Str) = "source" then headR ("source" :: [k].map numS) 1 else _) = _
    rw [if_pos rfl]
    exact headR_nums (fun i hi => by rw [List.mem_singleton.mp hi]; exact hk) rfl
theorem sm_n9 {l : Ln} (h : l.sm) : ∀ a ∈ l.names, N9 a := fun a ha => ⟨(h.2.1 a ha).1, by have := (h.2.1 a ha).2; omega⟩
theorem num_n9 {n : Int} (h : Num n) : N9 n := ⟨h.1, by have := h.2; omega⟩
theorem map_d {α : Type} {f : α → PyData} {g : α → List PyData} (l : List α) (h : ∀ a, f a = .tuple (g a)) : l.map f = (l.map g).map PyData.tuple := by
  rw [List.map_map]
  exact List.map_congr_left fun a _ => h a
/-- a row that was written is read as it stood -/
theorem row_read {l : Ln} (h : l.sm) : rowR l.row = some l.its := by
  have hp := sm_n9 h
  obtain ⟨hn, ha, hs⟩ := h
  cases l with
  | source k => exact row_source ⟨(hs k rfl).1, by have := (hs k rfl).2; omega⟩
  | map ds a =>
    obtain ⟨h1, h2⟩ := deeds_part hn
    have z := row_parts (w := "map") (a := a) (.inl ⟨rfl, rfl⟩) (by simpa using h1) h2 (hp a List.mem_cons_self)
    rw [← map_d ds Deed.d_ws] at z
    exact z
  | keep ds a =>
    obtain ⟨h1, h2⟩ := tests_part hn
    have z := row_parts (w := "keep") (a := a) (.inr ⟨.inl rfl, rfl⟩) (by simpa using h1) h2 (hp a List.mem_cons_self)
    rw [← map_d ds Tst.d_ws] at z
    exact z
  | whil ds a =>
    obtain ⟨h1, h2⟩ := tests_part hn
    have z := row_parts (w := "while") (a := a) (.inr ⟨.inr rfl, rfl⟩) (by simpa using h1) h2 (hp a List.mem_cons_self)
    rw [← map_d ds Tst.d_ws] at z
    exact z
  | take n a =>
    have h : (decide (0 ≤ n) && decide (n ≤ 9999)) = true := hn
    rw [Bool.and_eq_true, decide_eq_true_eq, decide_eq_true_eq] at h
    exact row_num (by decide +kernel) ⟨h.1, by omega⟩ (hp a List.mem_cons_self)
  | skip n a =>
    have h : (decide (0 ≤ n) && decide (n ≤ 9999)) = true := hn
    rw [Bool.and_eq_true, decide_eq_true_eq, decide_eq_true_eq] at h
    exact row_num (by decide +kernel) ⟨h.1, by omega⟩ (hp a List.mem_cons_self)
  | group n a =>
    have h : (decide (1 ≤ n) && isNum n) = true := hn
    rw [Bool.and_eq_true, decide_eq_true_eq, isNum_iff] at h
    exact row_num (by decide +kernel) (num_n9 h.2) (hp a List.mem_cons_self)
  | window n a =>
    have h : (decide (1 ≤ n) && decide (n ≤ 9)) = true := hn
    rw [Bool.and_eq_true, decide_eq_true_eq, decide_eq_true_eq] at h
    exact row_num (by decide +kernel) ⟨by omega, by omega⟩ (hp a List.mem_cons_self)
  | fold w n a =>
    have h : isNum n = true := hn
    rw [isNum_iff] at h
    exact row_fold (num_n9 h) (hp a List.mem_cons_self)
  | chain a b => exact row_two (by decide +kernel) (by decide +kernel) (by decide +kernel) (hp a List.mem_cons_self) (hp b (List.mem_cons_of_mem _ List.mem_cons_self))
  | pair a b => exact row_two (by decide +kernel) (by decide +kernel) (by decide +kernel) (hp a List.mem_cons_self) (hp b (List.mem_cons_of_mem _ List.mem_cons_self))
  | merge a b => exact row_two (by decide +kernel) (by decide +kernel) (by decide +kernel) (hp a List.mem_cons_self) (hp b (List.mem_cons_of_mem _ List.mem_cons_self))
theorem skip_read : rowR "skip 999999999 of 0" = some [.str "skip", .int 999999999, .int 0] := by
  have z := row_num (w := "skip") (n := 999999999) (a := 0) (by decide +kernel) ⟨by decide, by decide⟩ ⟨by decide, by decide⟩
  rw [show (("skip" : Str) ++ (" " : Str) ++ numS 999999999 ++ (" of " : Str) ++ numS 0) = "skip 999999999 of 0" by decide +kernel] at z
  exact z
/-! no row of a weave has a line break -/
theorem free_row {s : Nat} (hs : s = 10) {l : Ln} (h : l.sm) : Free s l.row := by
  subst hs
  have hp := sm_n9 h
  obtain ⟨hn, ha, hss⟩ := h
  have fn : ∀ i : Int, 0 ≤ i → Free 10 (numS i) := fun i h => free_num (by omega) h
  have fw : ∀ p : List PyData, (∃ known, Part known p ∧ ∀ w ∈ known, Free 10 w) → Free 10 (sideS p) := fun p ⟨known, hk, f⟩ => by
    obtain ⟨w, l, rfl, hk, hm, hn, _, _⟩ := hk.out
    refine free_join (by decide +kernel) fun x hx => ?_
    rcases List.mem_cons.mp (show x ∈ w :: (l.map PyData.int).map wordS from hx) with rfl | hx
    · exact f _ hk
    · rw [word_nums] at hx
      obtain ⟨i, hi, rfl⟩ := List.mem_map.mp hx
      exact fn i (hn i hi).1
  have fp : ∀ ps : List (List PyData), (∃ known, (∀ p ∈ ps, Part known p) ∧ ∀ w ∈ known, Free 10 w) → Free 10 (partsS ps) := fun ps ⟨known, hk, f⟩ => by
    refine free_join (by decide +kernel) fun x hx => ?_
    obtain ⟨p, hp, rfl⟩ := List.mem_map.mp hx
    exact fw p ⟨known, hk p hp, f⟩
  have fo : Free 10 " of " := by decide +kernel
  have fs : Free 10 " " := by decide +kernel
  cases l with
  | source k => exact free_app (by decide +kernel) (fn k (hss k rfl).1)
  | map ds a => exact free_app (free_app (free_app (free_app (by decide +kernel) fs) (fp _ ⟨deedW, (deeds_part hn).2, by decide +kernel⟩)) fo) (fn a (hp a List.mem_cons_self).1)
  | keep ds a => exact free_app (free_app (free_app (free_app (by decide +kernel) fs) (fp _ ⟨testW, (tests_part hn).2, by decide +kernel⟩)) fo) (fn a (hp a List.mem_cons_self).1)
  | whil ds a => exact free_app (free_app (free_app (free_app (by decide +kernel) fs) (fp _ ⟨testW, (tests_part hn).2, by decide +kernel⟩)) fo) (fn a (hp a List.mem_cons_self).1)
  | take n a =>
    have h : (decide (0 ≤ n) && decide (n ≤ 9999)) = true := hn
    rw [Bool.and_eq_true, decide_eq_true_eq, decide_eq_true_eq] at h
    exact free_app (free_app (free_app (free_app (by decide +kernel) fs) (fn n h.1)) fo) (fn a (hp a List.mem_cons_self).1)
  | skip n a =>
    have h : (decide (0 ≤ n) && decide (n ≤ 9999)) = true := hn
    rw [Bool.and_eq_true, decide_eq_true_eq, decide_eq_true_eq] at h
    exact free_app (free_app (free_app (free_app (by decide +kernel) fs) (fn n h.1)) fo) (fn a (hp a List.mem_cons_self).1)
  | group n a =>
    have h : (decide (1 ≤ n) && isNum n) = true := hn
    rw [Bool.and_eq_true, decide_eq_true_eq, isNum_iff] at h
    exact free_app (free_app (free_app (free_app (by decide +kernel) fs) (fn n h.2.1)) fo) (fn a (hp a List.mem_cons_self).1)
  | window n a =>
    have h : (decide (1 ≤ n) && decide (n ≤ 9)) = true := hn
    rw [Bool.and_eq_true, decide_eq_true_eq, decide_eq_true_eq] at h
    exact free_app (free_app (free_app (free_app (by decide +kernel) fs) (fn n (by omega))) fo) (fn a (hp a List.mem_cons_self).1)
  | fold w n a =>
    have h : isNum n = true := hn
    rw [isNum_iff] at h
    exact free_app (free_app (free_app (free_app (free_app (by decide +kernel) (by cases w <;> decide +kernel)) fs) (fn n h.1)) fo) (fn a (hp a List.mem_cons_self).1)
  | chain a b => exact free_app (free_app (free_app (free_app (by decide +kernel) fs) (fn a (hp a List.mem_cons_self).1)) fs) (fn b (hp b (List.mem_cons_of_mem _ List.mem_cons_self)).1)
  | pair a b => exact free_app (free_app (free_app (free_app (by decide +kernel) fs) (fn a (hp a List.mem_cons_self).1)) fs) (fn b (hp b (List.mem_cons_of_mem _ List.mem_cons_self)).1)
  | merge a b => exact free_app (free_app (free_app (free_app (by decide +kernel) fs) (fn a (hp a List.mem_cons_self).1)) fs) (fn b (hp b (List.mem_cons_of_mem _ List.mem_cons_self)).1)
theorem bad_free : (badRows.all fun r => decide (Free 10 r)) = true := by decide +kernel
theorem bad_at {i : Nat} {r : Str} (h : badRows[i]? = some r) : rowR r = none ∧ Free 10 r := by
  have m : r ∈ badRows := List.mem_of_getElem? h
  exact ⟨Option.isNone_iff_eq_none.mp (List.all_eq_true.mp bad_none r m), of_decide_eq_true (List.all_eq_true.mp bad_free r m)⟩
/-- all of a weave's rows -/
theorem rows_read : ∀ {ls : List Ln} {k : Nat}, (∀ l ∈ ls, l.sm) → rowsR k (ls.map Ln.row) = .inr (ls.map Ln.its)
  | [], _, _ => rfl
  | l :: ls, k, h => by
    have e := row_read (h l List.mem_cons_self)
    have ih := rows_read (ls := ls) (k := k + 1) fun x hx => h x (List.mem_cons_of_mem _ hx)
    show (match rowR l.row with
      | none => Sum.inl k
      | some l => match rowsR (k + 1) (ls.map Ln.row) with
        | .inl e => .inl e
        | .inr ls => .inr (l :: ls)) = _
    rw [e, ih]
    rfl
/-- the first bad row -/
theorem rows_bad {b : Str} {rest : List Str} (hb : rowR b = none) : ∀ {ls : List Ln} {k : Nat}, (∀ l ∈ ls, l.sm) → rowsR k (ls.map Ln.row ++ b :: rest) = .inl (k + ls.length)
  | [], k, _ => by
    show (match rowR b with
      | none => Sum.inl k
      | some l => match rowsR (k + 1) rest with
        | .inl e => .inl e
        | .inr ls => .inr (l :: ls)) = _
    rw [hb]
    rfl
  | l :: ls, k, h => by
    have e := row_read (h l List.mem_cons_self)
    have ih := rows_bad (rest := rest) hb (ls := ls) (k := k + 1) fun x hx => h x (List.mem_cons_of_mem _ hx)
    show (match rowR l.row with
      | none => Sum.inl k
      | some l => match rowsR (k + 1) (ls.map Ln.row ++ b :: rest) with
        | .inl e => .inl e
        | .inr ls => .inr (l :: ls)) = _
    rw [e, ih]
    show Sum.inl (k + 1 + ls.length) = Sum.inl (k + (ls.length + 1))
    congr 1
    omega
/-! whole texts -/
theorem text_read {ls : List Ln} (ne : ls ≠ []) (h : ∀ l ∈ ls, l.sm) : rowsR 0 (Txt.split (Str.join "\n" (ls.map Ln.row)) "\n") = .inr (ls.map Ln.its) := by
  rw [split_rows (by simpa using ne) fun r hr => by
    obtain ⟨l, hl, rfl⟩ := List.mem_map.mp hr
    exact free_row rfl (h l hl)]
  exact rows_read h
/-- a bad row among good ones; more behind it -/
theorem text_bad {ls : List Ln} {b : Str} {more : List Str} {k : Nat} (hk : k ≤ ls.length) (h : ∀ l ∈ ls, l.sm) (hb : rowR b = none) (fb : Free 10 b) (fm : ∀ r ∈ more, Free 10 r) :
    rowsR 0 (Txt.split (Str.join "\n" ((ls.map Ln.row).take k ++ [b] ++ (ls.map Ln.row).drop k ++ more)) "\n") = .inl k := by
  have fr : ∀ r ∈ ls.map Ln.row, Free 10 r := fun r hr => by
    obtain ⟨l, hl, rfl⟩ := List.mem_map.mp hr
    exact free_row rfl (h l hl)
  rw [split_rows (by simp) fun r hr => by
    rcases List.mem_append.mp hr with hr | hr
    · rcases List.mem_append.mp hr with hr | hr
      · rcases List.mem_append.mp hr with hr | hr
        · exact fr r (List.mem_of_mem_take hr)
        · rw [List.mem_singleton.mp hr]; exact fb
      · exact fr r (List.mem_of_mem_drop hr)
    · exact fm r hr]
  have e : (ls.map Ln.row).take k ++ [b] ++ (ls.map Ln.row).drop k ++ more = (ls.take k).map Ln.row ++ b :: ((ls.map Ln.row).drop k ++ more) := by
    rw [List.map_take]
    simp
  rw [e, rows_bad hb fun l hl => h l (List.mem_of_mem_take hl), List.length_take, Nat.min_eq_left hk, Nat.zero_add]
theorem text_empty : rowsR 0 (Txt.split "" "\n") = .inl 0 := by
  have e : Txt.split "" "\n" = [("" : Str)] := by decide +kernel
  have f : rowR "" = none := (bad_at (i := 0) rfl).1
  rw [e]
  show (match rowR "" with
    | none => Sum.inl 0
    | some l => match rowsR 1 [] with
      | .inl e => .inl e
      | .inr ls => .inr (l :: ls)) = _
  rw [f]
/-- a break behind the last row -/
theorem text_tail {ls : List Ln} (ne : ls ≠ []) (h : ∀ l ∈ ls, l.sm) : rowsR 0 (Txt.split (Str.join "\n" (ls.map Ln.row) ++ ("\n" : Str)) "\n") = .inl ls.length := by
  have e : Str.join "\n" (ls.map Ln.row) ++ ("\n" : Str) = Str.join "\n" (ls.map Ln.row ++ [("" : Str)]) := by
    rw [join_app (by simpa using ne) (by simp)]
    show _ = Str.join "\n" (ls.map Ln.row) ++ ("\n" : Str) ++ ("" : Str)
    rw [show (("" : Str)) = Str.empty by decide +kernel]
    show (⟨_⟩ : Str) = ⟨_ ++ #[]⟩
    rw [Array.append_empty]
    rfl
  rw [e, split_rows (by simp) fun r hr => by
    rcases List.mem_append.mp hr with hr | hr
    · obtain ⟨l, hl, rfl⟩ := List.mem_map.mp hr
      exact free_row rfl (h l hl)
    · rw [List.mem_singleton.mp hr]; decide +kernel]
  rw [rows_bad (b := "") (rest := []) (bad_at (i := 0) rfl).1 h, Nat.zero_add]
/-- what was read so far, then the rest -/
def comb (ls : List (List PyData)) : Nat ⊕ List (List PyData) → Nat ⊕ List (List PyData)
  | .inl e => .inl e
  | .inr l => .inr (ls ++ l)
theorem comb_nil (r : Nat ⊕ List (List PyData)) : comb [] r = r := by cases r <;> rfl
theorem comb_step (ls : List (List PyData)) (l : List PyData) (r : Nat ⊕ List (List PyData)) : comb ls (match r with | .inl e => .inl e | .inr ls => .inr (l :: ls)) = comb (ls ++ [l]) r := by
  cases r with
  | inl e => rfl
  | inr m => show Sum.inr (ls ++ l :: m) = Sum.inr ((ls ++ [l]) ++ m); rw [List.append_assoc]; rfl
theorem drop_next {α : Type} {l : List α} {i : Nat} {x : α} (h : l[i]? = some x) : l.drop i = x :: l.drop (i + 1) := by
  obtain ⟨hi, e⟩ := List.getElem?_eq_some_iff.mp h
  rw [List.drop_eq_getElem_cons hi, e]
open PySem PySem.Spec PyProof.Rows L2
/-! ### constants of a module: a tuple of texts, a dict of numbers -/
structure TupAt (K : PySem.W.Frag) (mg : Str → Option Value) (x : Str) (ws : List Str) where
  a : Addr
  g : mg x = some (.ref a)
  h : ∀ H, SqT K H a (ws.map V.str)
def textOf : Value → Option Str
  | .str x _ => some x
  | _ => none
def numOf : Value → Option Int
  | .int i _ => some i
  | _ => none
theorem texts_vals : ∀ {its : List Value} {ws : List Str}, its.map textOf = ws.map some → Vals (ws.map V.str) its
  | [], [], _ => .nil
  | [], _ :: _, h => by cases h
  | _ :: _, [], h => by cases h
  | v :: its, w :: ws, h => by
    injection h with h1 h2
    refine .cons ?_ (texts_vals h2)
    cases v with
    | str x t =>
      injection h1 with h1
      subst h1
      exact ⟨t, rfl⟩
    | _ => cases h1
theorem tup_mk {K : PySem.W.Frag} {a : Addr} {o : Obj} {its : Array Value} {n : Nat} {ws : List Str} (l : K.lookup a = some o) (hc : o.cls = .type "tuple") (hd : o.data = .seq its n) (hl : its.size ≤ sizeLine) (hm : its.toList.map textOf = ws.map some) (H : Hp) : SqT K H a (ws.map V.str) :=
  .inr ⟨o, its, n, l, hc, hd, hl, texts_vals hm⟩
def entOf (d : DictEntry) : Option Str × Option Int := (textOf d.key, numOf d.val)
def KNums (K : PySem.W.Frag) (w : World) (a : Addr) (ks : List (Str × Int)) : Prop :=
  (a == sysModules) = false ∧ ∃ es n, K.lookup a = some ⟨.type "dict", none, .dict es n, #[]⟩ ∧ PySem.W.KeysLit w.params es.toList ∧ es.toList.map entOf = ks.map fun p => (some p.1, some p.2)
structure NumsAt (K : PySem.W.Frag) (w : World) (mg : Str → Option Value) (x : Str) (ks : List (Str × Int)) where
  a : Addr
  g : mg x = some (.ref a)
  h : KNums K w a ks
def numsGet (ks : List (Str × Int)) (z : Str) : Option Int := (ks.find? fun p => p.1 == z).map (·.2)
theorem ents_find (z : Str) : ∀ {l : List DictEntry} {ks : List (Str × Int)}, (l.map entOf = ks.map fun p => (some p.1, some p.2)) →
    ((l.find? (·.key.isStr z)).map (·.val)).bind numOf = numsGet ks z ∧ ((l.find? (·.key.isStr z)).map (·.val)).isSome = (numsGet ks z).isSome ∧ l.any (·.refKey) = false
  | [], [], _ => ⟨rfl, rfl, rfl⟩
  | [], _ :: _, h => by cases h
  | _ :: _, [], h => by cases h
  | ⟨hs, k, v⟩ :: l, (x, i) :: ks, h => by
    injection h with h1 h2
    injection h1 with h3 h4
    obtain ⟨a, b, c⟩ := ents_find z h2
    cases k with
    | str y t =>
      injection h3 with h3
      subst h3
      have r : (List.any (⟨hs, .str y t, v⟩ :: l) fun e => e.refKey) = false := by
        rw [List.any_cons, c]; rfl
      by_cases e : (y == z) = true
      · have f1 : (List.find? (fun e : DictEntry => e.key.isStr z) (⟨hs, .str y t, v⟩ :: l)) = some ⟨hs, .str y t, v⟩ := List.find?_cons_of_pos e
        have f2 : numsGet ((y, i) :: ks) z = some i := by
          unfold numsGet
          rw [List.find?_cons_of_pos (by exact e)]
          rfl
        rw [f1, f2]
        exact ⟨h4, rfl, r⟩
      · have f1 : (List.find? (fun e : DictEntry => e.key.isStr z) (⟨hs, .str y t, v⟩ :: l)) = l.find? (·.key.isStr z) := List.find?_cons_of_neg e
        have f2 : numsGet ((y, i) :: ks) z = numsGet ks z := by
          unfold numsGet
          rw [List.find?_cons_of_neg (by exact e)]
        rw [f1, f2]
        exact ⟨a, b, r⟩
    | _ => cases h3
theorem nums_find {es : Array DictEntry} {ks : List (Str × Int)} (h : es.toList.map entOf = ks.map fun p => (some p.1, some p.2)) (z : Str) :
    match numsGet ks z with
    | some i => ∃ t, findBy Value.isStrOf es z = some (.int i t)
    | none => findBy Value.isStrOf es z = none := by
  obtain ⟨a, b, _⟩ := ents_find z h
  have q : findBy Value.isStrOf es z = (es.toList.find? (·.key.isStr z)).map (·.val) := by
    obtain ⟨l⟩ := es
    have q : (fun d : DictEntry => Value.isStrOf z d.key) = fun d => d.key.isStr z := funext fun d => (PySem.W.isStr_of z d.key).symm
    unfold findBy
    rw [List.find?_toArray, q]
  rw [q]
  cases e : numsGet ks z with
  | none =>
    rw [e] at b
    exact Option.isSome_eq_false_iff.mp b |> Option.isNone_iff_eq_none.mp
  | some i =>
    rw [e] at a
    obtain ⟨v, hv, hn⟩ := Option.bind_eq_some_iff.mp a
    rw [hv]
    cases v with
    | int j t =>
      injection hn with hn
      subst hn
      exact ⟨t, rfl⟩
    | _ => cases hn
def tKGet (K : PySem.W.Frag) (w : World) (td ty tx : TE) : TE := fun σ H Q => td σ H fun x H1 => ∃ a ks, x = .ref a ∧ KNums K w a ks ∧ ty σ H1 fun y H2 => tx σ H2 fun z H3 => ∃ s, y = .str s ∧ Q (match numsGet ks s with | some i => .int i | none => z) H3
section
variable {X : Cx} {o e f : Expr} {apos cpos : Pos} {td ty tx : TE}
theorem pe_kget (ho : PE X o td) (he : PE X e ty) (hf : PE X f tx) (m : M2 X o "get" apos e f cpos) : PE X (.Call (.Attribute o "get" apos) [e, f] [] cpos) (tKGet X.K X.w td ty tx) := by
  refine ⟨fun pins s σ H Q I h => ?_⟩
  refine wpAny_Call_method m.base m.few m.line PySem.F.plainAttrs_dict PySem.F.slot_dict_get PySem.F.type_dict_get (thn (ho.run pins s σ H _ I h) fun u s1 ⟨x, H1, I1, rx, a, ks, ex, ⟨low, es, n, hl, hk, hm⟩, q1⟩ => ?_)
  subst ex
  obtain rfl : u = Value.ref a := rx
  have hm1 := PySem.W.mapOf_K (prog := X.prog) (w := X.w) I1.kIn hl hk
  refine ⟨hm1.typeIs, fun b q => ?_, ?_⟩
  · cases q
    exact ⟨_, I1.kIn _ _ hl, rfl⟩
  rw [m.trees]
  refine Calls.callWith_builtin rfl (Calls.evalArgs_plain (Calls.spliced_cons (thn (he.run pins s1 σ H1 _ I1 q1) fun iv s2 ⟨y, H2, I2, ry, q2⟩ =>
    Calls.spliced_cons (thn (hf.run pins s2 σ H2 _ I2 q2) fun fv s3 ⟨z, H3, I3, rz, s, ey, q3⟩ => Calls.spliced_nil ?_))))
  subst ey
  obtain ⟨t, rfl⟩ := (show ∃ t, iv = Value.str s t from ry)
  have hm3 := PySem.W.mapOf_K (prog := X.prog) (w := X.w) I3.kIn hl hk
  refine call_meetsIn PySem.F.slot_dict_get hm3.typeIs PySem.F.entry_dict_get (PySem.F.args_dict_get_3 _ _ _) (meets_dict_get_default (strKind X.prog X.w) a (strKind_is X.prog X.w s t) low fv) ⟨_, hm3, ?_⟩
  have g := nums_find hm s
  cases e : numsGet ks s with
  | none =>
    rw [e] at g q3
    refine ⟨_, H3, I3.tok _, ?_, q3⟩
    show RelV z ((findBy Value.isStrOf es s).getD fv)
    rw [g]
    exact rz
  | some i =>
    rw [e] at g q3
    obtain ⟨t, g⟩ := g
    refine ⟨_, H3, I3.tok _, ?_, q3⟩
    show RelV (.int i) ((findBy Value.isStrOf es s).getD fv)
    rw [g]
    exact ⟨t, rfl⟩
end
def numbersC : List (Str × Int) := [("minus", 0), ("first", 0), ("second", 0), ("both", 0), ("sum", 0), ("many", 0), ("rest", 2)]
theorem many_in : ∀ u ∈ numbersC.map (·.1), numsGet numbersC u = some (manyOf u : Int) := by decide +kernel
theorem many_out {u : Str} (h : u ∉ numbersC.map (·.1)) : numsGet numbersC u = none ∧ manyOf u = 1 := by
  constructor
  · unfold numsGet
    rw [List.find?_eq_none.mpr]
    · rfl
    · intro p hp z
      have e : p.1 = u := eq_of_beq z
      exact h (e ▸ List.mem_map_of_mem hp)
  · unfold manyOf
    rw [if_neg, if_neg]
    · intro z
      exact h (z ▸ (by decide +kernel))
    · intro z
      refine h ?_
      have k : ∀ u ∈ bare, u ∈ numbersC.map (·.1) := by decide +kernel
      exact k u z
theorem many_get (u : Str) : (match numsGet numbersC u with | some i => V.int i | none => V.int 1) = V.int (manyOf u : Nat) := by
  by_cases h : u ∈ numbersC.map (·.1)
  · rw [many_in u h]
  · obtain ⟨a, b⟩ := many_out h
    rw [a, b]
    rfl
theorem many_le (u : Str) : manyOf u ≤ 2 := by
  unfold manyOf
  split
  · omega
  · split <;> omega
open PySem PySem.Spec PyProof.Rows L2
/-! ### a method whose first row is super().__init__(..) -/
/-- what the top has of such a method f of the class C; g: the method that super() finds -/
structure SupF (P : Program) (K : PySem.W.Frag) (C f cc cda g : Addr) (name qual : Str) (st : Stmt) (fd : FuncData) : Prop where
  lk : ∃ (oc : Value) (od : Option Addr) (dV kV doc pm : Value) (an : Option Addr) (ct : Value) (sl : Array (Option Value)),
    K.lookup f = some ⟨oc, od, .func fd, sl⟩ ∧ fd = PySem.W.fnX name qual (defArgs st) (defBody st) (defScope st) [("__class__", cc)] dV kV doc pm an (.ref cda) ct
  cd : PySem.W.codeIn K (.ref cda) qual = true
  cell : ∃ (cl : Value) (cld : Option Addr) (csl : Array (Option Value)), K.lookup cc = some ⟨cl, cld, .cell (some (.ref C)), csl⟩
  code : ∃ (ccl : Value) (cdd : Option Addr) (vs : Array Value) (ccs : Array (Option Value)) (file : Str) (tf : Tok), K.lookup cda = some ⟨ccl, cdd, .fields vs, ccs⟩ ∧ vs[2]? = some (.str file tf) ∧ ((P.main.file : Str) == file) = true
  top : (P.main.scope.names.lookup ("super" : Str)).isSome = false
  cls : PySem.W.isClsIn K C = true
  sub : PySem.W.mroIn K C (.ref C) = some true
  op : PySem.W.nsIn K cStatics "thirdparty.any" = some none
  sup : PySem.W.ks_superIn K C C "__init__" = some (some (.ref g))
  ty : PySem.W.typeIn K (.ref g) = some (.type "function")
  fi : PySem.W.fnIn K g = true
abbrev supF (name qual : Str) (st : Stmt) (cc cda : Addr) : NdefX.NF := ⟨name, qual, defArgs st, defBody st, defScope st, [("__class__", cc)], cda⟩
abbrev supX (P : Program) (w : World) (K : PySem.W.Frag) (mg : Str → Option Value) (base : Heap) (N : List Str) (name qual : Str) (st : Stmt) (cc cda f : Addr) (A : Around) (outer : List Env) (s : Shared) (H : Hp) (E : XK) : Cx :=
  NdefX.ncx CX0 P w K mg base N (supF name qual st cc cda) f A outer s H E
section
variable {P : Program} {w : World} {K : PySem.W.Frag} {mg : Str → Option Value} {base : Heap}
theorem fn_super {k : Nat} {C f cc cda g : Addr} {name qual : Str} {st : Stmt} {fd : FuncData} {N ps : List Str} {sp sp2 : Sp} {rest : List Stmt} {p0 p1 apos cpos epos : Pos} {e : Expr} {es : List Expr} {ar : Arg}
    (SF : SupF P K C f cc cda g name qual st fd) (S : NdefX.NScope N ps ["__class__"] (defScope st))
    (hbd : defBody st = .Expr (.Call (.Attribute (.Call (.Name "super" p0) [] [] p1) "__init__" apos) (e :: es) [] cpos) epos :: rest)
    (har : ((defArgs st).posonlyargs ++ (defArgs st).args).head? = some ar) (hps : ps.head? = some ar.arg) (hms : mg "super" = none) (hks : (defScope st).names.lookup ("super" : Str) = some .globalImplicit)
    (F2 : FnR P w K mg base CX0 k g sp2) (len : ∀ vs H Q E, sp vs H Q E → vs.length = ps.length)
    (hin : ∀ L, interactive (NdefX.envF (supF name qual st cc cda) f L) = false)
    (hsw : ∀ L, swapsWith (.Call (.Attribute (.Call (.Name "super" p0) [] [] p1) "__init__" apos) (e :: es) [] cpos) none epos.line (NdefX.envF (supF name qual st cc cda) f L) = pure false)
    {pl : Addr → Sem Bool}
    (ht : ∀ L, eval (.Call (.Attribute (.Call (.Name "super" p0) [] [] p1) "__init__" apos) (e :: es) [] cpos) (NdefX.envF (supF name qual st cc cda) f L) = (do
      let ov ← attributeBase (.Call (.Name "super" p0) [] [] p1) "__init__" (NdefX.envF (supF name qual st cc cda) f L) (eval (.Call (.Name "super" p0) [] [] p1) (NdefX.envF (supF name qual st cc cda) f L))
      standAt apos.atName
      let (f', first) ← holding [ov] (getMethod ov "__init__" (pl L))
      callWith cpos f' first (backTo cpos (starEach (e :: es) (NdefX.envF (supF name qual st cc cda) f L))) []))
    (hst : ∀ L, starEach (e :: es) (NdefX.envF (supF name qual st cc cda) f L) = (false, eval e (NdefX.envF (supF name qual st cc cda) f L)) :: starEach es (NdefX.envF (supF name qual st cc cda) f L))
    (hpn : ∀ L, (backTo cpos (starEach es (NdefX.envF (supF name qual st cc cda) f L))).any (·.1) = false)
    (hbody : ∀ (A : Around) (outer : List Env) (s : Shared) (H : Hp) (vs : List V) (Q : VK) (E : XK), Room k (A.deeper (NdefX.envF (supF name qual st cc cda) f s.heap.objs.size)) → sp vs H Q E →
      ∃ (x dx : Addr) (fs : List (Str × V)) (rvs : List V) (t : TA) (u : TS), vs = .ref x :: rvs ∧ H x = some (.ins C dx fs) ∧ PA (supX P w K mg base N name qual st cc cda f A outer s H E) (e :: es) t ∧
        PSs (supX P w K mg base N name qual st cc cda f A outer s H E) rest u ∧
        t (NdefX.startF N vs [none]) H (fun ws H1 => sp2 (.ref x :: ws) H1 (fun _ H2 => u { nx := fun _ H' => Q .non H', rt := Q } (NdefX.startF N vs [none]) H2) E0)) :
    FnOk P w K mg base CX0 (k + 1) f fd ps sp := by
  refine ⟨len, fun A outer s H args us vs Q E hr e0 hb r hsp => ?_⟩
  have hl := len _ _ _ _ hsp
  have KX : K.In s.heap := e0.mod.kin.keeps fun b o e => (e0.bs b o e).1
  have lim : s.heap.NoLimit := e0.mod.nolimit.keeps fun b o e => (e0.bs b o e).1
  obtain ⟨oc, od, dV, kV, doc, pm, an, ct, sl, lk, rfl⟩ := SF.lk
  obtain ⟨cl, cld, csl, lcell⟩ := SF.cell
  obtain ⟨ccl, cdd, cvs, ccs, file, tf, lcode, hvs, hfile⟩ := SF.code
  obtain ⟨x, dx, fs, rvs, t, u, rfl, hx, hPA, hPS, hq⟩ := hbody A outer s H vs Q E (hr.deeper _) hsp
  refine ks_codeAny_call_defAt (binds := ps.zip us) hr.depth (KX _ _ lk) rfl lim (PySem.W.codeRec_of KX SF.cd) rfl hb S.nocell (fun ⟨n, _⟩ hy => S.par n (List.of_mem_zip hy).1) (fun h1 hns kp => ?_) S.co S.gen S.kind
  have kp2 : ∀ b o, s.heap.get? b = some o → h1.get? b = some o := kp
  have Hcc : H cc = none := (e0.bs cc _ (e0.mod.kin _ _ lcell)).2
  have CA : NdefX.CellsAt [("__class__", cc)] ["__class__"] [none] s.heap H := by
    refine ⟨rfl, fun y c e => ?_, fun y z c e1 e2 => ?_, fun i y e => ?_⟩
    · have hc : c = cc := by
        rw [List.lookup_cons] at e
        split at e
        · exact (Option.some.inj e).symm
        · cases e
      subst hc
      exact ⟨Hcc, _, _, KX _ _ lcell, rfl⟩
    · rw [List.lookup_cons] at e1 e2
      split at e1
      · split at e2
        · rename_i _ a1 _ a2
          rw [eq_of_beq a1, eq_of_beq a2]
        · cases e2
      · cases e1
    · cases i with
      | zero =>
        obtain rfl : "__class__" = y := Option.some.inj e
        exact ⟨cc, rfl, fun v hv => by cases hv⟩
      | succ i => simp at e
  have I : Inv (supX P w K mg base N name qual st cc cda f A outer s H E) [] (NdefX.startF N (.ref x :: rvs) [none]) H { s with heap := h1, toks := s.toks + (ps.zip us).length } := NdefX.inv_startN (F := supF name qual st cc cda) S hr.hd e0 hl r CA hns kp
  show _root_.PySem.wpAt _ _ (.func (defBody st) (NdefX.envF (supF name qual st cc cda) f s.heap.objs.size)) (execs (defBody st) (NdefX.envF (supF name qual st cc cda) f s.heap.objs.size)) _ _ _
  rw [hbd]
  refine ks_wpAt_execs_cons ?_
  refine ks_wpAt_Expr_any ?_ (hin _) (hsw _)
  refine ks_wpAt_MethodCall ?_ (ht _)
  refine ks_wpAt_super_base (env := NdefX.envF (supF name qual st cc cda) f s.heap.objs.size) hks ?_ (by decide +kernel) rfl (I.kIn _ _ lk) rfl har rfl (I.kIn _ _ lcode) rfl hvs hfile SF.top ?_
  · exact S.frk _ List.mem_cons_self
  obtain ⟨mb, hb1, hb2⟩ := I.mod.blt
  refine PySem.W.ks_loadName_global S.kind hks (Calls.loadGlobal_builtin (I.mod.glob.keeps I.bk) hms (hb1.keeps I.bk) ((hb2 "super" (by decide)).trans (by rfl : bootBuiltins "super" = some (.type "super"))) ⟨rfl, ?_⟩)
  refine wpAny_loadName_free S.kind (S.frk _ List.mem_cons_self) rfl ⟨_, I.kIn _ _ lcell, rfl⟩ ?_
  have hloc : ((ps.zip us).reverse.lookup ar.arg) = some (.ref x) := by
    cases r with
    | cons r1 r2 =>
      rename_i u0 us0
      obtain rfl : u0 = Value.ref x := r1
      have ndP : ps.Nodup := by
        have q : (ps ++ [("__class__" : Str)]).Nodup := by
          rw [← S.pre]
          exact S.nd.sublist (List.take_sublist _ _)
        exact (List.nodup_append.mp q).1
      exact NdefX.zip_look (i := 0) ndP (by rw [← hps, List.head?_eq_getElem?]) rfl
  have hself : (defScope st).names.lookup ar.arg = some .local := S.par _ (by
    cases ps with
    | nil => cases hps
    | cons a b => cases hps; exact List.mem_cons_self)
  refine wpAny_loadName_local S.kind hself hns hloc ?_
  obtain ⟨cd, hcd⟩ := Option.isSome_iff_exists.mp (show (PySem.W.clsIn K C).isSome = true from SF.cls)
  obtain ⟨oD, hD1, hD2⟩ : ∃ oD, h1.get? C = some oD ∧ oD.data = .cls cd := by
    have hD := hcd
    unfold PySem.W.clsIn at hD
    split at hD
    · rename_i c d cd' sl ho
      cases hD
      exact ⟨_, I.kIn _ _ ho, rfl⟩
    · cases hD
  refine ks_wpAny_isType_cls hD1 hD2 ⟨rfl, ?_⟩
  obtain ⟨_, _, _, hxo, _⟩ := I.hok x _ hx
  refine ks_wpAny_call_super hD1 hD2 hxo rfl (fun c z => nomatch z) (PySem.W.looks_mroIn I.kIn SF.sub) (fun h2 e2 k2 => ?_)
  have I2 := ClX.pin_new (h' := h2) (t' := s.toks + (ps.zip us).length) I k2 (Nat.le_refl _) e2 (fun v z => nomatch z)
  have I2h := I2.kIn
  obtain ⟨of_, hof, hofc⟩ : ∃ of_, h2.get? g = some of_ ∧ of_.cls = .type "function" := by
    have ht' : (K.lookup g).map (·.cls) = some (.type "function") := SF.ty
    cases z : K.lookup g with
    | none => rw [z] at ht'; cases ht'
    | some of_ => rw [z] at ht'; exact ⟨of_, I2h _ _ z, Option.some.inj ht'⟩
  have hsup := SF.sup
  unfold PySem.W.ks_superIn at hsup
  rw [hcd] at hsup
  have xC : x ≠ C := by
    rintro rfl
    rw [hxo] at hD1
    cases hD1
    cases hD2
  refine ks_wpAny_getMethod_super e2 (PySem.W.looks_opaque I2h SF.op) (l₀ := cd.mro) (fun A Q E s k q => wpAny_bind ((PySem.W.looks_clsIn I2h hcd) A _ E s k (wpAny_pure q))) rfl I2h hsup hof hofc xC (by decide +kernel) ?_
  have I3 := ClX.met_new (C := x) (g := g) I2
  refine ClX.callwith_cm (C := x) (g := g) I3 (ClX.base_none I2 (Nat.le_refl _)) SF.fi (thn (hPA.run cpos _ _ _ H _ I3 hq) fun us2 s3 ⟨ws, H2, I4, rv, q2⟩ => ⟨⟨ClX.pin_at I4, I4.kIn⟩, ?_⟩) (hst _) (hpn _)
  refine thn (ClX.run_cm F2 (hr.deeper _) pass0 I4 rv q2) fun v s4 ⟨v', H3, I5, rv', q3⟩ => ?_
  have I6 := I5.pins_of (pins' := []) fun p hp => (by cases hp)
  show _root_.PySem.wpAt _ _ _ (execs rest _) _ _ _
  refine wpAt_of_wpAny (wpAny_mono (hPS.run [] s4 _ H3 _ I6 q3) (fun fl s' hs => ?_) fun e s' hs => hs)
  have fin : ∀ {σ' : L2.St} {H' : Hp} {v : V} {u : Value}, Inv (supX P w K mg base N name qual st cc cda f A outer s H E) [] σ' H' s' → L2.RelV v u → Q v H' → CE outer P w H s Q u s' :=
    fun {σ' H' v u} J rv q => ⟨v, H', J.os, J.bare, J.base, J.hok, rv, q⟩
  cases fl with
  | ret u =>
    obtain ⟨v, σ', H', J, rv, q⟩ := hs
    exact fin J rv q
  | next =>
    obtain ⟨σ', H', J, q⟩ := hs
    exact fin (v := V.non) (u := Value.none) J rfl q
  | brk =>
    obtain ⟨_, _, _, q⟩ := hs
    exact False.elim q
  | cont =>
    obtain ⟨_, _, _, q⟩ := hs
    exact False.elim q
end
open PySem PySem.Spec PyProof.Rows L2
/-! ### an own exception whose __init__ begins with super().__init__(..) -/
structure SupE (P : Program) (K : PySem.W.Frag) (C f cc cda : Addr) (name qual : Str) (st : Stmt) (fd : FuncData) : Prop where
  lk : ∃ (oc : Value) (od : Option Addr) (dV kV doc pm : Value) (an : Option Addr) (ct : Value) (sl : Array (Option Value)),
    K.lookup f = some ⟨oc, od, .func fd, sl⟩ ∧ fd = PySem.W.fnX name qual (defArgs st) (defBody st) (defScope st) [("__class__", cc)] dV kV doc pm an (.ref cda) ct
  cd : PySem.W.codeIn K (.ref cda) qual = true
  cell : ∃ (cl : Value) (cld : Option Addr) (csl : Array (Option Value)), K.lookup cc = some ⟨cl, cld, .cell (some (.ref C)), csl⟩
  code : ∃ (ccl : Value) (cdd : Option Addr) (vs : Array Value) (ccs : Array (Option Value)) (file : Str) (tf : Tok), K.lookup cda = some ⟨ccl, cdd, .fields vs, ccs⟩ ∧ vs[2]? = some (.str file tf) ∧ ((P.main.file : Str) == file) = true
  top : (P.main.scope.names.lookup ("super" : Str)).isSome = false
  cls : PySem.W.isClsIn K C = true
  sub : PySem.W.mroIn K C (.ref C) = some true
  op : PySem.W.nsIn K cStatics "thirdparty.any" = some none
  sup : PySem.W.ks_superIn K C C "__init__" = some (some (.builtin "ValueError.__init__"))
  ve : PySem.W.subIn K (.ref C) (.type "ValueError") = some true
  ox : OexC K C
section
variable {X : Cx} {pins : List (Addr × Obj)} {σ : L2.St} {H : Hp} {s : Shared} {x C u : Addr}
/-- the wrapper called: nothing of it is told -/
theorem call_mw {rest : List Value} {Q : Value → Shared → Prop} {E : Value → Shared → Prop} {A : Around} (T : OexC X.K C) (I : Inv X pins σ H s) (hu : s.heap.get? u = some (PySem.W.kxs_mw "ValueError.__init__" x)) (e : H x = some (exo x C none)) (hl : rest.length ≤ sizeLine)
    (h : ∀ s', Inv X pins σ H s' → Q .none s') : wpAny (model X.prog X.w) A (call (.ref u) rest) Q E s := by
  obtain ⟨nm, q, N, bs, bm, sn, sub, ab, col, dd, k0, k1, k2, k3, k5, hC, hbm⟩ := T.cls
  obtain ⟨t1, ho⟩ := exo_at I.hok e
  have hCh := I.kIn _ _ hC
  obtain ⟨hp, g, d, t, os⟩ := s
  refine wpAny_call (codeAny_of_tree ?_)
  show wpAny _ A.in1 (callAny (.ref u) ⟨rest, []⟩) _ _ _
  simp only [callAny]
  refine wpAny_bind (wpAny_load hu ?_)
  simp only [PySem.W.kxs_mw, show (Value.type "method-wrapper" == Value.type "method" || Value.type "method-wrapper" == Value.type "builtin_function_or_method" || Value.type "method-wrapper" == Value.type "method-wrapper") = true by decide, if_true]
  refine PySem.W.KFB.if_so (by decide) ?_
  refine wpAny_bind (PySem.W.check_bound_init PySem.F.excBase_ValueError.toExcCallFacts hCh ho rfl ?_)
  refine wpAny_bind (wpAny_pure (wpAny_pure ?_))
  refine ⟨plainId_quiet PySem.F.excBase_ValueError.init.plain _, codeAny_builtin PySem.F.excBase_ValueError.initEntry ?_⟩
  refine PySem.W.exc_init_tree (cls := .ref C) (t0 := t1) (dv := none) (c2 := .none) (c3 := .none) (b4 := .bool false) ho hl fun h' k hx ht => ?_
  have J := I.write (t' := t) (x := x) (e := x) (o := exo x C none) (by rw [e]; exact True.intro) (.inl rfl) k ⟨_, hx⟩ (exo_ok hx)
  have eu : upd H x (exo x C none) = H := by
    funext b
    by_cases hb : b = x
    · rw [hb, upd_same, e]
    · rw [upd_ne hb]
  rw [eu] at J
  exact h _ J
end
section
variable {P : Program} {w : World} {K : PySem.W.Frag} {mg : Str → Option Value} {base : Heap}
theorem cells_one {C cc : Addr} {A : Around} {outer : List Env} {s : Shared} {H : Hp} {cl : Value} {cld : Option Addr} {csl : Array (Option Value)} (e0 : Env0 P w K mg base A outer s H) (lcell : K.lookup cc = some ⟨cl, cld, .cell (some (.ref C)), csl⟩) : NdefX.CellsAt [("__class__", cc)] ["__class__"] [none] s.heap H := by
  have KX : K.In s.heap := e0.mod.kin.keeps fun b o e => (e0.bs b o e).1
  have Hcc : H cc = none := (e0.bs cc _ (e0.mod.kin _ _ lcell)).2
  refine ⟨rfl, fun y c e => ?_, fun y z c e1 e2 => ?_, fun i y e => ?_⟩
  · have hc : c = cc := by
      rw [List.lookup_cons] at e
      split at e
      · exact (Option.some.inj e).symm
      · cases e
    subst hc
    exact ⟨Hcc, _, _, KX _ _ lcell, rfl⟩
  · rw [List.lookup_cons] at e1 e2
    split at e1
    · split at e2
      · rename_i _ a1 _ a2
        rw [eq_of_beq a1, eq_of_beq a2]
      · cases e2
    · cases e1
  · cases i with
    | zero =>
      obtain rfl : "__class__" = y := Option.some.inj e
      exact ⟨cc, rfl, fun v hv => by cases hv⟩
    | succ i => simp at e
theorem self_loc {N ps : List Str} {sc : Scope} {ar : Arg} {us : List Value} {x : Addr} {rvs : List V} (S : NdefX.NScope N ps ["__class__"] sc) (hps : ps.head? = some ar.arg) (r : Vals (.ref x :: rvs) us) : ((ps.zip us).reverse.lookup ar.arg) = some (.ref x) := by
  cases r with
  | cons r1 r2 =>
    rename_i u0 us0
    obtain rfl : u0 = Value.ref x := r1
    have q : (ps ++ [("__class__" : Str)]).Nodup := by
      rw [← S.pre]
      exact S.nd.sublist (List.take_sublist _ _)
    exact NdefX.zip_look (i := 0) (List.nodup_append.mp q).1 (by rw [← hps, List.head?_eq_getElem?]) rfl
theorem fn_superE {k : Nat} {C f cc cda : Addr} {name qual : Str} {st : Stmt} {fd : FuncData} {N ps : List Str} {sp : Sp} {rest : List Stmt} {p0 p1 apos cpos epos : Pos} {e : Expr} {es : List Expr} {ar : Arg}
    (SF : SupE P K C f cc cda name qual st fd) (S : NdefX.NScope N ps ["__class__"] (defScope st))
    (hbd : defBody st = .Expr (.Call (.Attribute (.Call (.Name "super" p0) [] [] p1) "__init__" apos) (e :: es) [] cpos) epos :: rest)
    (har : ((defArgs st).posonlyargs ++ (defArgs st).args).head? = some ar) (hps : ps.head? = some ar.arg) (hms : mg "super" = none) (hks : (defScope st).names.lookup ("super" : Str) = some .globalImplicit)
    (len : ∀ vs H Q E, sp vs H Q E → vs.length = ps.length)
    (hin : ∀ L, interactive (NdefX.envF (supF name qual st cc cda) f L) = false)
    (hsw : ∀ L, swapsWith (.Call (.Attribute (.Call (.Name "super" p0) [] [] p1) "__init__" apos) (e :: es) [] cpos) none epos.line (NdefX.envF (supF name qual st cc cda) f L) = pure false)
    {pl : Addr → Sem Bool}
    (ht : ∀ L, eval (.Call (.Attribute (.Call (.Name "super" p0) [] [] p1) "__init__" apos) (e :: es) [] cpos) (NdefX.envF (supF name qual st cc cda) f L) = (do
      let ov ← attributeBase (.Call (.Name "super" p0) [] [] p1) "__init__" (NdefX.envF (supF name qual st cc cda) f L) (eval (.Call (.Name "super" p0) [] [] p1) (NdefX.envF (supF name qual st cc cda) f L))
      standAt apos.atName
      let (f', first) ← holding [ov] (getMethod ov "__init__" (pl L))
      callWith cpos f' first (backTo cpos (starEach (e :: es) (NdefX.envF (supF name qual st cc cda) f L))) []))
    (hst : ∀ L, starEach (e :: es) (NdefX.envF (supF name qual st cc cda) f L) = (false, eval e (NdefX.envF (supF name qual st cc cda) f L)) :: starEach es (NdefX.envF (supF name qual st cc cda) f L))
    (hpn : ∀ L, (backTo cpos (starEach es (NdefX.envF (supF name qual st cc cda) f L))).any (·.1) = false)
    (hbody : ∀ (A : Around) (outer : List Env) (s : Shared) (H : Hp) (vs : List V) (Q : VK) (E : XK), Room k (A.deeper (NdefX.envF (supF name qual st cc cda) f s.heap.objs.size)) → sp vs H Q E →
      ∃ (x : Addr) (rvs : List V) (t : TA) (u : TS), vs = .ref x :: rvs ∧ H x = some (exo x C none) ∧ PA (supX P w K mg base N name qual st cc cda f A outer s H E) (e :: es) t ∧
        PSs (supX P w K mg base N name qual st cc cda f A outer s H E) rest u ∧
        t (NdefX.startF N vs [none]) H (fun ws H1 => ws.length ≤ 1000 ∧ H1 x = some (exo x C none) ∧ u { nx := fun _ H' => Q .non H', rt := Q } (NdefX.startF N vs [none]) H1)) :
    FnOk P w K mg base CX0 (k + 1) f fd ps sp := by
  refine ⟨len, fun A outer s H args us vs Q E hr e0 hb r hsp => ?_⟩
  have hl := len _ _ _ _ hsp
  have KX : K.In s.heap := e0.mod.kin.keeps fun b o e => (e0.bs b o e).1
  have lim : s.heap.NoLimit := e0.mod.nolimit.keeps fun b o e => (e0.bs b o e).1
  obtain ⟨oc, od, dV, kV, doc, pm, an, ct, sl, lk, rfl⟩ := SF.lk
  obtain ⟨cl, cld, csl, lcell⟩ := SF.cell
  obtain ⟨ccl, cdd, cvs, ccs, file, tf, lcode, hvs, hfile⟩ := SF.code
  obtain ⟨x, rvs, t, u, rfl, hx, hPA, hPS, hq⟩ := hbody A outer s H vs Q E (hr.deeper _) hsp
  refine ks_codeAny_call_defAt (binds := ps.zip us) hr.depth (KX _ _ lk) rfl lim (PySem.W.codeRec_of KX SF.cd) rfl hb S.nocell (fun ⟨n, _⟩ hy => S.par n (List.of_mem_zip hy).1) (fun h1 hns kp => ?_) S.co S.gen S.kind
  have kp2 : ∀ b o, s.heap.get? b = some o → h1.get? b = some o := kp
  have CA : NdefX.CellsAt [("__class__", cc)] ["__class__"] [none] s.heap H := cells_one e0 lcell
  have I : Inv (supX P w K mg base N name qual st cc cda f A outer s H E) [] (NdefX.startF N (.ref x :: rvs) [none]) H { s with heap := h1, toks := s.toks + (ps.zip us).length } := NdefX.inv_startN (F := supF name qual st cc cda) S hr.hd e0 hl r CA hns kp
  show _root_.PySem.wpAt _ _ (.func (defBody st) (NdefX.envF (supF name qual st cc cda) f s.heap.objs.size)) (execs (defBody st) (NdefX.envF (supF name qual st cc cda) f s.heap.objs.size)) _ _ _
  rw [hbd]
  refine ks_wpAt_execs_cons ?_
  refine ks_wpAt_Expr_any ?_ (hin _) (hsw _)
  refine ks_wpAt_MethodCall ?_ (ht _)
  refine ks_wpAt_super_base (env := NdefX.envF (supF name qual st cc cda) f s.heap.objs.size) hks ?_ (by decide +kernel) rfl (I.kIn _ _ lk) rfl har rfl (I.kIn _ _ lcode) rfl hvs hfile SF.top ?_
  · exact S.frk _ List.mem_cons_self
  obtain ⟨mb, hb1, hb2⟩ := I.mod.blt
  refine PySem.W.ks_loadName_global S.kind hks (Calls.loadGlobal_builtin (I.mod.glob.keeps I.bk) hms (hb1.keeps I.bk) ((hb2 "super" (by decide)).trans (by rfl : bootBuiltins "super" = some (.type "super"))) ⟨rfl, ?_⟩)
  refine wpAny_loadName_free S.kind (S.frk _ List.mem_cons_self) rfl ⟨_, I.kIn _ _ lcell, rfl⟩ ?_
  have hloc : ((ps.zip us).reverse.lookup ar.arg) = some (.ref x) := self_loc S hps r
  have hself : (defScope st).names.lookup ar.arg = some .local := S.par _ (by
    cases ps with
    | nil => cases hps
    | cons a b => cases hps; exact List.mem_cons_self)
  refine wpAny_loadName_local S.kind hself hns hloc ?_
  obtain ⟨cd, hcd⟩ := Option.isSome_iff_exists.mp (show (PySem.W.clsIn K C).isSome = true from SF.cls)
  obtain ⟨oD, hD1, hD2⟩ : ∃ oD, h1.get? C = some oD ∧ oD.data = .cls cd := by
    have hD := hcd
    unfold PySem.W.clsIn at hD
    split at hD
    · rename_i c d cd' sl ho
      cases hD
      exact ⟨_, I.kIn _ _ ho, rfl⟩
    · cases hD
  refine ks_wpAny_isType_cls hD1 hD2 ⟨rfl, ?_⟩
  obtain ⟨tx, hxo⟩ := exo_at I.hok hx
  refine ks_wpAny_call_super hD1 hD2 hxo rfl (fun c z => nomatch z) (PySem.W.looks_mroIn I.kIn SF.sub) (fun h2 e2 k2 => ?_)
  have I2 := ClX.pin_new (h' := h2) (t' := s.toks + (ps.zip us).length) I k2 (Nat.le_refl _) e2 (fun v z => nomatch z)
  have I2h := I2.kIn
  have hsup := SF.sup
  unfold PySem.W.ks_superIn at hsup
  rw [hcd] at hsup
  have xC : x ≠ C := by
    rintro rfl
    rw [hxo] at hD1
    cases hD1
    cases hD2
  obtain ⟨tx2, hxo2⟩ := exo_at I2.hok hx
  have II : PySem.W.InstAt h2 x _ C none := ⟨hxo2, rfl, rfl, trivial⟩
  have hI : PySem.W.Looks (model P w) h2 (isInstance (.ref x) (.type "ValueError")) true := II.type.andThen (PySem.W.looks_subIn (K := K) I2h SF.ve)
  refine PySem.W.kxs_getMethod PySem.W.kxs_ValueError e2 (PySem.W.looks_opaque I2h SF.op) (l₀ := cd.mro) (fun A Q E s k q => wpAny_bind ((PySem.W.looks_clsIn I2h hcd) A _ E s k (wpAny_pure q))) rfl I2h hsup hI xC (by decide +kernel) ?_
  have I3 := ClX.pin_new (o := PySem.W.kxs_mw "ValueError.__init__" x) (t' := s.toks + (ps.zip us).length + 1) I2 (fun _ _ z => Heap.get?_push_of_some _ z) (Nat.le_refl _) (Heap.get?_push_size h2 rfl) (fun v z => nomatch z)
  dsimp only
  rw [hst]
  refine PySem.W.kxs_callWith (i := "ValueError.__init__") (x := x) (by show (false || (backTo cpos (starEach es _)).any (·.1)) = false; rw [hpn]; rfl) ?_
  refine Calls.evalArgs_plain ?_
  show wpAny _ _ (spliced (backTo cpos ((false, eval e (NdefX.envF (supF name qual st cc cda) f s.heap.objs.size)) :: starEach es (NdefX.envF (supF name qual st cc cda) f s.heap.objs.size)))) _ _ _
  rw [← hst]
  refine thn (hPA.run cpos _ _ _ H _ I3 hq) fun us2 s3 ⟨ws, H2, I4, rv, wl, hx2, q2⟩ => ⟨ClX.pin_at I4, ?_⟩
  have hlen : us2.length ≤ sizeLine := by
    rw [← Paired.length rv, sizeLine_eq]
    omega
  refine call_mw SF.ox I4 (ClX.pin_at I4) hx2 hlen fun s4 I5 => ?_
  have I6 := I5.pins_of (pins' := []) fun p hp => (by cases hp)
  show _root_.PySem.wpAt _ _ _ (execs rest _) _ _ _
  refine wpAt_of_wpAny (wpAny_mono (hPS.run [] s4 _ H2 _ I6 q2) (fun fl s' hs => ?_) fun e s' hs => hs)
  have fin : ∀ {σ' : L2.St} {H' : Hp} {v : V} {u : Value}, Inv (supX P w K mg base N name qual st cc cda f A outer s H E) [] σ' H' s' → L2.RelV v u → Q v H' → CE outer P w H s Q u s' :=
    fun {σ' H' v u} J rv q => ⟨v, H', J.os, J.bare, J.base, J.hok, rv, q⟩
  cases fl with
  | ret u =>
    obtain ⟨v, σ', H', J, rv, q⟩ := hs
    exact fin J rv q
  | next =>
    obtain ⟨σ', H', J, q⟩ := hs
    exact fin (v := V.non) (u := Value.none) J rfl q
  | brk =>
    obtain ⟨_, _, _, q⟩ := hs
    exact False.elim q
  | cont =>
    obtain ⟨_, _, _, q⟩ := hs
    exact False.elim q
end
open PySem PySem.Spec PyProof.Rows L2
/-! ### defs called in an except suite, with the exception that is handled -/
structure FnI (P : Program) (w : World) (K : PySem.W.Frag) (mg : Str → Option Value) (base : Heap) (k : Nat) (f : Addr) (fd : FuncData) (ps : List Str) (sp : Addr → Value → Option Addr → Sp) : Prop where
  len : ∀ a cls d vs H Q, sp a cls d vs H Q E0 → vs.length = ps.length
  run : ∀ (p : Addr × Obj) (cls : Value) (d : Option Addr) (A : Around) (l : List Env) (s : Shared) (H : Hp) (ar : Args) (us : List Value) (vs : List V) (Q : VK), L2N.Zn cls d p.2 → L2H.Hot1 A p → L2H.RoomH k A → L2H.PinOk l H s p → Env0 P w K mg base A l s H →
    BindsTo s fd ar (ps.zip us) → Vals vs us → sp p.1 cls d vs H Q E0 → codeAny (model P w) A (.call (.ref f) ar) (CR CX0 l P w H s Q E0) s
section
variable {P : Program} {w : World} {K : PySem.W.Frag} {mg : Str → Option Value} {base : Heap}
theorem okI {x qual : Str} {st : Stmt} {f : Addr} {fd : FuncData} {N ps : List Str} {k : Nat} {sp : Addr → Value → Option Addr → Sp} (F : Fun K x qual st f fd) (S : FnScope N ps (defScope st)) (len : ∀ a cls d vs H Q, sp a cls d vs H Q E0 → vs.length = ps.length)
    (body : ∀ (p : Addr × Obj) (cls : Value) (d : Option Addr) (cdv : Value) (A : Around) (l : List Env) (s : Shared) (H : Hp) (vs : List V) (Q : VK), L2N.Zn cls d p.2 → (∃ ws, p.2.data = .fields ws) → L2H.Hot1 (A.deeper (envOfC qual (defScope st) s.heap.objs.size f cdv)) p → L2H.RoomH k (A.deeper (envOfC qual (defScope st) s.heap.objs.size f cdv)) → sp p.1 cls d vs H Q E0 →
      ∃ t, PSs (L2H.cxH CX0 P w K mg base N qual (defScope st) f cdv A l s H E0 p).nox (defBody st) t ∧ t { nx := fun _ H' => Q .non H', rt := Q } (start N vs) H) : FnI P w K mg base (k + 1) f fd ps sp := by
  obtain ⟨oc, od, kV, doc, pm, an, cdv, ct, osl, rfl, lk, hcd⟩ := F.ex
  refine ⟨len, fun p cls d A l s H ar us vs Q hz hot hr hpin e0 hb r hsp => ?_⟩
  have nn := len _ _ _ _ _ _ hsp
  have KX : K.In s.heap := e0.mod.kin.keeps fun b o e => (e0.bs b o e).1
  have lim := e0.mod.nolimit.keeps fun b o e => (e0.bs b o e).1
  have kinds : ∀ y ∈ ps.zip us, (defScope st).names.lookup y.1 = some .local ∨ ((defScope st).names.lookup y.1 = some .cell ∧ ((cellsFrom (s.heap.objs.size + 1) (defScope st).names []).lookup y.1).isSome = true) := by
    rintro ⟨n, v⟩ hy
    rcases S.par n (List.of_mem_zip hy).1 with q | q
    · exact .inl q
    · exact .inr ⟨q, PySem.W.cellsFrom_some _ _ _ (.inl q)⟩
  have bd := hb
  refine codeAny_call_function (by have := hr.dp; omega) (KX _ _ lk) rfl S.co S.gen rfl (PySem.W.codeRec_of KX hcd) (bd _ _ _ _ ?_)
  refine wpAny_newFunctionEnv_cells S.kind kinds fun e2 he s2 xc => ?_
  subst he
  refine ⟨lim.keeps xc.toInCall.keep, codeAny_func ?_⟩
  obtain ⟨t, ht, hq⟩ := body p cls d cdv A l s H vs Q hz (by obtain ⟨_, ws, z, _⟩ := hot; exact ⟨ws, z⟩) hot (hr.deeper _) hsp
  have I := L2H.inv_startH (CX := CX0) (E := E0) (cd := cdv) (f := f) (qual := qual) S hpin e0 nn r xc
  refine wpAny_mono (ht.nox.run [] s2 (start N vs) H _ I hq) (fun fl s3 hs => ?_) fun e s3 hs => hs
  cases fl with
  | ret u =>
    obtain ⟨v, σ, H3, J, rv, q⟩ := hs
    exact ⟨v, H3, J.os, J.bare, J.base, J.hok, rv, q⟩
  | next =>
    obtain ⟨σ, H3, J, q⟩ := hs
    exact ⟨.non, H3, J.os, J.bare, J.base, J.hok, rfl, q⟩
  | brk =>
    obtain ⟨_, _, _, q⟩ := hs
    exact q.elim
  | cont =>
    obtain ⟨_, _, _, q⟩ := hs
    exact q.elim
end
section
variable {X : Cx} {k : Nat} {f : Addr} {fd : FuncData} {ps : List Str} {sp : Addr → Value → Option Addr → Sp} {a : Addr} {oe : Obj} {cls : Value} {d : Option Addr} {x : Str} {q pos : Pos} {e : Expr} {es : List Expr} {t : TA}
def tCallI (sp : Addr → Value → Option Addr → Sp) (a : Addr) (cls : Value) (d : Option Addr) (t : TA) : TE := fun σ H Q => t σ H fun vs H1 => sp a cls d vs H1 Q E0
theorem pe_callI (F : FnI X.prog X.w X.K X.mg X.base k f fd ps sp) (hr : L2H.RoomH k X.A) (hz : L2N.Zn cls d oe) (hot : L2H.Hot1 X.A (a, oe)) (hp : (a, oe) ∈ X.pn) (hg : Gl X x) (hm : X.mg x = some (.ref f)) (hk : PySem.W.keepIn X.K (.ref f) = true) (hb : Binds X.K fd ps [])
    (ha : PA X (e :: es) t) (hdb : (x == ("__debug__" : Str)) = false := by decide) (he : starEach (e :: es) X.env = (false, eval e X.env) :: starEach es X.env := by rfl) (hpl : (backTo pos (starEach es X.env)).any (·.1) = false := by rfl) :
    PE X (.Call (.Name x q) (e :: es) [] pos) (tCallI sp a cls d t) := by
  refine ⟨fun pins s σ H Q I h => ?_⟩
  refine wpAny_Call_Name_kw (ld_glob I hg hm ?_ hdb)
  refine PySem.W.callWith_K (h₀ := X.base) I.ok.mod.kin hk (thn (ha.run pos pins s σ H _ I h) fun us s1 ⟨vs, H1, J, r, z⟩ => ⟨J.kIn, ?_⟩) he hpl
  have nl : us.length = ps.length := by
    rw [← r.length]
    exact F.len _ _ _ _ _ _ z
  have b := hb s1 us J.kIn (by rw [List.append_nil]; exact nl)
  rw [List.append_nil] at b
  obtain ⟨p1, p2, p3, p4, p5⟩ := J.pin (a, oe) (List.mem_append_left _ hp)
  have hpin : L2H.PinOk X.stack H1 s1 (a, oe) := ⟨p1, p2, fun hm => (List.mem_cons.mp (J.stkSub a hm)).elim p3 p4, p5⟩
  refine wpAny_call (codeAny_mono (F.run (a, oe) cls d X.A X.stack s1 H1 ⟨us, []⟩ us vs Q hz hot hr hpin J.env0 b r z) fun rr s2 hq => ?_)
  cases rr with
  | error er => exact hq.elim
  | ok fl =>
    cases fl with
    | ret u => exact J.after hq
    | next => exact hq.elim
    | brk => exact hq.elim
    | cont => exact hq.elim
end
theorem hot_of {A : Around} {a : Addr} {oe : Obj} {cls : Value} {d : Option Addr} (hz : L2N.Zn cls d oe) (hf : ∃ vs, oe.data = .fields vs) : L2H.Hot1 (A.mark (some (.ref a))) (a, oe) := by
  obtain ⟨vs, e⟩ := hf
  exact ⟨rfl, vs, e, hz.2.2 vs e⟩
theorem room_s {A : Around} {j k : Nat} {v : Option Value} (hr : Room j A) (h : k ≤ j) : L2H.RoomH k (A.mark v) := ⟨by have := hr.dp; show A.depth + _ + 5 < _; omega, by have := hr.un; show A.units + _ + 200 < _; omega⟩
theorem unitsH {A : Around} {k : Nat} (hr : L2H.RoomH k A) : A.units + 64 < cLine := by have := hr.un; omega
/-! ### isinstance of the exception that is handled -/
theorem ty_val {T : String} : ∀ u, RelV (.ty T) u → u = .type T := fun _ h => h
theorem ref_val {a : Addr} : ∀ u, RelV (.ref a) u → u = .ref a := fun _ h => h
def rIsP (K : PySem.W.Frag) (p : Addr × Obj) (D : Addr) (d : Option Addr) : List V → Hp → VK → Prop := fun xs H Q => ∃ (c : V) (cv : Value) (b : Bool), xs = [.ref p.1, c] ∧ (∀ u, RelV c u → u = cv) ∧ PySem.W.kitOne K (.ref D) cv = some b ∧
  (∀ dd, d = some dd → ∃ fs, H dd = some (.xd fs)) ∧ Q (.bl b) H
theorem call_isP {X : Cx} {p : Addr × Obj} {D : Addr} {d : Option Addr} (hp : p ∈ X.pn) (C : ExcC X.K D) (hz : Zc (.ref D) d p.2) (hf : ∃ vs, p.2.data = .fields vs) : CallR X (.builtin "isinstance") (rIsP X.K p D d) := by
  rintro pins s σ H xs us Q I r ⟨c, cv, b, rfl, hcv, e, hd, q⟩
  cases r with
  | cons rx rr =>
    cases rr with
    | cons rt rr =>
      cases rr
      cases rx
      have ec := hcv _ rt
      subst ec
      obtain ⟨hget, _⟩ := I.pin p (List.mem_append_left _ hp)
      obtain ⟨fv, hv⟩ := hf
      obtain ⟨cd, hcd, _⟩ := PySem.W.any_some C.hd
      have hcl : (PySem.W.clsIn X.K D).isSome = true := by rw [hcd] <;> rfl
      have nc : PySem.W.notCls p.2 = true := by
        unfold PySem.W.notCls
        rw [hv] <;> rfl
      have J : ∃ od, PySem.W.InstAt s.heap p.1 p.2 D od := by
        cases d with
        | none => exact ⟨none, hget, hz.1, nc, by rw [hz.2]; trivial⟩
        | some dd =>
          obtain ⟨fs, hx⟩ := hd dd rfl
          have hxo : ObjOk X.prog X.w H s.heap dd (.xd fs) := I.hok dd _ hx
          obtain ⟨mA, ⟨o, _, _, ho, _⟩, _⟩ := hxo
          exact ⟨some o, hget, hz.1, nc, by rw [hz.2]; exact ho⟩
      obtain ⟨od, J⟩ := J
      exact PySem.W.kia_one (PySem.W.kitx_exc hcl C.hg C.hk C.hs C.ha C.hn C.ht C.hm) I.kIn J e (fun z => nomatch z) fun tk => ⟨.bl b, H, I.kept (t' := tk) fun _ _ z => z, rfl, q⟩
/-! ### what leaves, what is let out by nobody -/
theorem passN {X : Cx} : Passes (L2N.CX X.prog X.w) X E0 := by
  rintro _ _ _ _ _ _ _ ⟨_, _, _, _, _, _, _, _, _, _, _, _, z⟩
  exact z.elim
theorem takesN {X : Cx} : L2N.Takes X (fun _ _ _ _ => False) := by
  rintro _ _ ⟨_, _, _, _, _, _, _, _, _, _, _, _, _, _, _, _, z⟩
  exact z.elim
theorem okN {P : Program} {w : World} {K : PySem.W.Frag} {mg : Str → Option Value} {base : Heap} {x qual : Str} {st : Stmt} {f : Addr} {fd : FuncData} {N ps : List Str} {k : Nat} {sp : Sp} (F : Fun K x qual st f fd) (S : FnScope N ps (defScope st)) (len : ∀ vs H Q E, sp vs H Q E → vs.length = ps.length)
    (body : ∀ (cdv : Value) (A : Around) (outer : List Env) (s : Shared) (H : Hp) (vs : List V) (Q : VK) (E : XK), Room k (A.deeper (envOfC qual (defScope st) s.heap.objs.size f cdv)) → sp vs H Q E →
      ∃ t, PSs (cxOf (L2N.CX P w) P w K mg base N qual (defScope st) f cdv A outer s H E) (defBody st) t ∧ t { nx := fun _ H' => Q .non H', rt := Q } (start N vs) H) : FnOk P w K mg base (L2N.CX P w) (k + 1) f fd ps sp := by
  obtain ⟨oc, od, kV, doc, pm, an, cdv, ct, osl, rfl, lk, hcd⟩ := F.ex
  exact fn_of lk hcd S len fun A outer s H vs Q E hr hsp => body cdv A outer s H vs Q E hr hsp
/-! ### an own exception made by its own __init__, its context none -/
theorem pmk_oexN {X : Cx} {e : Expr} {es : List Expr} {ta : TA} {p pos : Pos} {x : Str} {C fI : Addr} {k : Nat} {fd : FuncData} {ps : List Str} {sp : Sp} (T : OexC X.K C) (iC : PySem.W.findIn X.K (.ref C) "__init__" = some (some (.ref fI))) (tI : PySem.W.typeIn X.K (.ref fI) = some (.type "function"))
    (F1 : FnOk X.prog X.w X.K X.mg X.base CX0 k fI fd ps sp) (hr : Room (k + 1) X.A) (hb : Binds X.K fd ps []) (hg : Gl X x) (hm : X.mg x = some (.ref C)) (ha : PA X (e :: es) ta)
    (hdb : (x == ("__debug__" : Str)) = false := by decide) (he : starEach (e :: es) X.env = (false, eval e X.env) :: starEach es X.env := by rfl) (hpl : (backTo pos (starEach es X.env)).any (·.1) = false := by rfl) :
    L2N.PMk X (.Call (.Name x p) (e :: es) [] pos) (tMkO C sp [] ta) := by
  intro pins s σ H Q I h
  obtain ⟨nm, q, N, bs, bm, sn, sub, ab, col, dd, k0, k1, k2, k3, k5, hC, hbm⟩ := T.cls
  refine wpAny_Call_Name_kw (ld_glob I hg hm ?_ hdb)
  refine PySem.W.callWith_K (h₀ := X.base) I.ok.mod.kin T.kC (thn (ha.run pos pins s σ H _ I h) fun us s1 ⟨vs, H1, I1, r1, hz, q1⟩ => ⟨I1.kIn, ?_⟩) he hpl
  show wpAny _ _ (call (.ref C) us) _ _ _
  obtain ⟨h1, g1, dr, tk, os⟩ := s1
  rw [List.append_nil] at q1
  have sz : h1.objs.size ≤ h1.objs.size + 1 := Nat.le_succ _
  have hq := q1 (h1.objs.size + 1) (I1.hok.fresh sz)
  have kk : ∀ b o, h1.get? b = some o → ((h1.push (PySem.W.kdv_tup us)).push (PySem.HandSPX.excO C h1.objs.size)).get? b = some o := fun b o e => Heap.get?_push_of_some _ (Heap.get?_push_of_some _ e)
  have hget : ((h1.push (PySem.W.kdv_tup us)).push (PySem.HandSPX.excO C h1.objs.size)).get? (h1.objs.size + 1) = some (PySem.HandSPX.excO C h1.objs.size) := by heap_get
  have I2 : Inv X pins σ (upd H1 (h1.objs.size + 1) (exo (h1.objs.size + 1) C none)) ⟨(h1.push (PySem.W.kdv_tup us)).push (PySem.HandSPX.excO C h1.objs.size), g1, dr, tk, os⟩ :=
    I1.laid (t' := tk) (a := h1.objs.size + 1) (o := exo (h1.objs.size + 1) C none) kk sz (exo_ok hget)
  have r2 : Vals (V.ref (h1.objs.size + 1) :: vs) (Value.ref (h1.objs.size + 1) :: us) := .cons rfl r1
  have hl : (Value.ref (h1.objs.size + 1) :: us).length = ps.length := by
    have z := r2.length
    rw [F1.len _ _ _ _ hq] at z
    exact z.symm
  have hus : us.length ≤ sizeLine := by
    have z := Paired.length r1
    rw [sizeLine_eq]
    omega
  have bb := hb _ (Value.ref (h1.objs.size + 1) :: us) I2.kIn (by rw [List.append_nil]; exact hl)
  rw [List.append_nil] at bb
  refine wpAny_call (PySem.HandSPX.call_own F.excBase_ValueError (fun Y => PySem.HandSPX.refsVE_contains Y bm hbm) (I1.kIn _ _ hC) (PySem.W.looks_findIn I1.kIn iC) (fun self => PySem.W.bind_fn I1.kIn self tI) hus ?_)
  refine codeAny_mono (F1.run _ X.stack _ _ ⟨Value.ref (h1.objs.size + 1) :: us, []⟩ (Value.ref (h1.objs.size + 1) :: us) _ _ E0 (hr.make C us []) (I2.env0.make C us []) bb r2 hq) fun r s2 hq2 => ?_
  cases r with
  | error er => exact hq2.elim
  | ok fl =>
    cases fl with
    | ret u =>
      obtain ⟨v, H2, os2, bare2, un2, hok2, rv, ev, d, fs, ea, ed, hd1, q2⟩ := hq2
      subst ev
      obtain ⟨h2, g2, d2, t2, os3⟩ := s2
      obtain ⟨t0, G, J, kG, ge, hoe, na⟩ := mk_end0 (d2 := d2) (t2 := t2) I1 sz kk un2 hok2 os2 bare2 ea ed hd1
      exact ⟨rv, h1.objs.size + 1, _, _, ⟨G, g2, d2, t2, os3⟩, _, .ref C, some d, rfl, J, kG, ge, hoe, ⟨rfl, rfl, fun vs e => by cases e; rfl⟩, rfl, rfl, na, rfl, bare2, raises_own T.exC T.tyC, q2⟩
    | next => exact hq2.elim
    | brk => exact hq2.elim
    | cont => exact hq2.elim
/-- what a raised exception leaves behind: all that was there, and its dict -/
theorem raised_same {H H1 : Hp} {a dx : Addr} {o1 o2 o3 o4 : HO} (s : Same H H1) (na : H1 a = none) (nd : H1 dx = none) : Same H (upd (del (upd (upd (upd H1 a o1) dx o2) a o3) a) dx o4) := fun b o e => by
  have z := s b o e
  have ba : b ≠ a := ne_of_none z na
  have bd : b ≠ dx := ne_of_none z nd
  rw [upd_ne bd, del_ne ba, upd_ne ba, upd_ne bd, upd_ne ba]
  exact z
theorem upd_none {H : Hp} {a b : Addr} {o : HO} (h : upd H a o b = none) (ne : b ≠ a) : H b = none := by
  rw [upd_ne ne] at h
  exact h
theorem figs_len {i : Int} (h0 : 0 ≤ i) (h : i < 10000000) : (Str.ofString (toString i)).length ≤ 8 ∧ i.natAbs.log2 < 1920 := by
  have e := int_text_length_le10 (a := i) (k := 7) (by decide) (by omega)
  refine ⟨by rw [PySem.ofString_length]; exact e, ?_⟩
  have e : i.natAbs < 2 ^ 1920 := Nat.lt_of_lt_of_le (show i.natAbs < 10000000 by omega) (by decide +kernel)
  by_cases z : i.natAbs = 0
  · rw [z]
    decide
  · exact (Nat.log2_lt z).mpr e
/-! ### a comprehension over a list, in an except suite -/
theorem list_done_hot {prog : Program} {w : World} {A : Around} {E : Value → Shared → Prop} {s : Shared} {it l x1 : Addr} {i : Nat} {xs : Array Value} {Q : Option Value → Shared → Prop} (hot : HotX.HotAt A x1 s.heap) (ne : x1 ≠ it) (st : s.heap.IsListIter it l i) (sl : s.heap.IsList l xs) (out : xs[i]? = none)
    (q : ∀ h', (∀ b o, b ≠ it → s.heap.get? b = some o → h'.get? b = some o) → Q none { s with heap := h' }) : wpAny (model prog w) A (pyNext (.ref it)) Q E s := by
  obtain ⟨oi, gi, ci, di⟩ := id st
  obtain ⟨ol, gl, _, nl, dl⟩ := sl
  obtain ⟨hh, o1, v1, g1, d1, c1⟩ := hot
  unfold pyNext
  refine wpAny_bind (wpAny_attempt (wpAny_callSpecial?_slot (name := Str.ofString "__next__") st.typeIs slot_listiter_next (wpAny_call_entry slot_listiter_next st.typeIs entry_listiter_next ?_ (args_listiter_next _))))
  show wpAny _ _ (field (.ref it) 0 >>= _) _ _ s
  refine wpAny_bind (wpAny_field gi di (x := .ref l) rfl ?_)
  show wpAny _ _ (if (Value.ref l == Value.none) = true then _ else _) _ _ s
  rw [if_neg (show ¬ ((Value.ref l == Value.none) = true) by simp)]
  show wpAny _ _ (field (.ref it) 1 >>= _) _ _ s
  refine wpAny_bind (wpAny_field gi di (x := .int i 0) rfl ?_)
  show wpAny _ _ (seqItems? (.ref l) >>= _) _ _ s
  refine wpAny_bind (wpAny_seqItems gl dl ?_)
  simp only [Int.toNat_natCast, out]
  refine wpAny_bind (wpAny_rule (wpAny_bind (wpAny_setField gi di (by simp) ?_)))
  show wpAny _ _ (newExc (.type "StopIteration") [] >>= _) _ _ _
  refine wpAny_bind ?_
  simp only [newExc, newTuple]
  have keep1 : ∀ b o, b ≠ it → s.heap.get? b = some o → (s.heap.update it (Obj.mapFields (·.setIfInBounds 0 Value.none))).get? b = some o := fun b o hb e => (Heap.get?_update_other _ _ (Ne.symm hb)).trans e
  refine wpAny_bind (wpAny_newObj_type ?_ (by size_fits))
  refine wpAny_bind (m := firstArgMember _ _) (wpAny_of_eq (a := Value.none) (by first | rfl | (simp only [firstArgMember]; rfl)) ?_)
  refine wpAny_newObj_type ?_ (by size_fits)
  have g2 := Heap.get?_push_of_some { cls := .type "tuple", data := .seq ([] : List Value).toArray } (keep1 _ _ ne g1)
  refine HotX.raiseNew_hot ⟨hh, o1, v1, Heap.get?_push_of_some _ g2, d1, c1⟩ (Nat.ne_of_lt (Heap.lt_size g2)) (Heap.get?_push_size _ rfl) rfl (by first | (simp; done) | (simp; omega) | (simp only [Array.size_append]; simp; omega)) ?_
  refine wpAny_bind (wpAny_isInstance (T := "StopIteration") (b := true) ⟨_, Heap.get?_update_self _ (Heap.get?_push_size _ rfl) rfl, rfl⟩ isSubtype_stop ?_)
  refine wpAny_pure (q _ fun b o hb e => ?_)
  have e2 := Heap.get?_push_of_some { cls := .type "tuple", data := .seq ([] : List Value).toArray } (keep1 _ _ hb e)
  rw [Heap.get?_update_other _ _ (Nat.ne_of_gt (Heap.lt_size e2))]
  exact Heap.get?_push_of_some _ e2
theorem pe_lcH {X : Cx} {elt tg iter : Expr} {scope : Scope} {own : List (Str × Nat)} {pos : Pos} {tl : TE} {g : TG} {te : TE} (hot : L2H.HotC X) (hN : X.N.Nodup) (hi : PE X iter tl) (ok : BlkOk X.N X.env.scope scope own)
    (hg : ∀ s H C cl fp, PG (X.blk s H scope (compEnvC scope cl C X.env) fp) tg g) (he : ∀ s H C cl fp, PE (X.blk s H scope (compEnvC scope cl C X.env) fp) elt te) (hs : ∀ x, foldedSetIterable iter X.env x = pure x := by intro _; rfl) :
    PE X (.ListComp elt [⟨tg, iter, [], 0⟩] scope pos) (tLc (iList X.K tl) g tYes te (own.map (·.2))) := by
  refine ⟨fun pins s σ H Q I h => ?_⟩
  rw [eval_ListComp]
  have fr : ∀ y ∈ scope.names, y.2 = .free → ∃ c, X.env.cells.lookup y.1 = some c := fun y hy e => (ok.free y hy e).elim (fun k => I.ok.has _ (.inl k)) fun k => I.ok.has _ (.inr k)
  refine wpAny_comprehension_free (use := _) rfl hs (closure_ok fr) ok.kind (fun y hy e => by rw [ok.uniq y hy, e]) (thn (hi.run pins s σ H _ I h) fun xv s1 hx => ?_)
  obtain ⟨x, H1, I1, rx, q1⟩ := hx
  obtain ⟨a, rfl, ⟨xs0, sq0⟩, q⟩ := q1
  cases rx
  obtain ⟨its0, rv0, p0, z0⟩ := I1.list sq0
  refine wpAny_pyIter_list p0.isList ?_
  have TL : Turn X.prog X.w X.K tg (Itl X.K a) [s1.heap.objs.size] s1.heap.objs.size (fun i h => h.IsListIter s1.heap.objs.size a i) := turn_list a _
  have I2 : Inv X pins σ H1 { s1 with heap := s1.heap.push { cls := .type "list_iterator", dict := none, data := .fields #[.ref a, .int 0 0] } } := I1.kept (t' := s1.toks) fun b o e => Heap.get?_push_of_some _ e
  have F2 : FpOk X pins H1 s1.heap.objs.size := I1.fpOk (Nat.le_refl _) (I1.hok.fresh (Nat.le_refl _))
  have t2 : (s1.heap.push { cls := .type "list_iterator", dict := none, data := .fields #[.ref a, .int 0 0] }).IsListIter s1.heap.objs.size a 0 := ⟨_, Heap.get?_push_size _ rfl, rfl, rfl⟩
  have l2 : s1.heap.objs.size < (s1.heap.push { cls := .type "list_iterator", dict := none, data := .fields #[.ref a, .int 0 0] }).objs.size := Heap.lt_size (Heap.get?_push_size _ rfl)
  show wpAny _ _ (newList []) _ _ { s1 with heap := s1.heap.push { cls := .type "list_iterator", dict := none, data := .fields #[.ref a, .int 0 0] } }
  generalize s1.heap.push { cls := .type "list_iterator", dict := none, data := .fields #[.ref a, .int 0 0] } = h2 at I2 t2 l2 ⊢
  generalize s1.heap.objs.size = it at TL F2 t2 l2 ⊢
  refine wpAny_newObj_type (newEnv_comp ?_) (by show 0 ≤ sizeLine; decide)
  obtain ⟨D, hD⟩ : ∃ D, D = h2.objs.size := ⟨_, rfl⟩
  have nD : H1 D = none := I2.hok.fresh (Nat.le_of_eq hD.symm)
  obtain ⟨W, ⟨m0, w0⟩, turn⟩ := q D nD
  obtain ⟨s3, hs3⟩ : ∃ s3 : Shared, s3 = { s1 with heap := h2.push { cls := .type "list", data := .seq ([] : List Value).toArray } } := ⟨_, rfl⟩
  have e3 : s3.heap = h2.push { cls := .type "list", data := .seq ([] : List Value).toArray } := by rw [hs3]
  have I3 : Inv X pins σ (upd H1 D (.lst [])) s3 := by
    rw [hs3]
    refine I2.laid (t' := s1.toks) (fun b o e => Heap.get?_push_of_some _ e) (Nat.le_of_eq hD.symm) ⟨Nat.zero_le _, [], 0, .nil, ?_⟩
    rw [hD]
    exact Heap.get?_push_size _ rfl
  have itD : it ≠ D := by rw [hD]; exact Nat.ne_of_lt l2
  have l3 : it < s3.heap.objs.size := by rw [e3, Heap.size_push]; exact Nat.lt_succ_of_lt l2
  have F3 : ∀ b ∈ [it], FpOk X pins (upd H1 D (.lst [])) b ∧ b < s3.heap.objs.size := by
    intro b hb
    obtain rfl := List.mem_singleton.mp hb
    exact ⟨⟨by rw [upd_ne itD]; exact F2.1, F2.2⟩, l3⟩
  have t3 : s3.heap.IsListIter it a 0 := by
    obtain ⟨o, z, c⟩ := t2
    exact ⟨o, by rw [e3]; exact Heap.get?_push_of_some _ z, c⟩
  have I4 := block_start I3 ok hN F3
  have pg := hg s3 (upd H1 D (.lst [])) s3.heap.objs.size (cellsFrom (s3.heap.objs.size + 1) scope.names (cloFrom X.env.cells scope.names [])) [it]
  have pe := he s3 (upd H1 D (.lst [])) s3.heap.objs.size (cellsFrom (s3.heap.objs.size + 1) scope.names (cloFrom X.env.cells scope.names [])) [it]
  rw [← hs3, ← hD]
  show codeAny _ _ (.compStart _ 0 (.ref it) (.ref D) (compEnvC scope (cellsFrom (s3.heap.objs.size + 1) scope.names (cloFrom X.env.cells scope.names [])) s3.heap.objs.size X.env)) (compPost (model X.prog X.w) X.A X.xe _ _ (.ref D) s3.heap.objs.size) { s3 with heap := pushCells (s3.heap.push { cls := .type "dict", data := .dict #[] }) scope.names }
  have t4 : (pushCells (s3.heap.push { cls := .type "dict", data := .dict #[] }) scope.names).IsListIter it a 0 := by
    obtain ⟨o, z, c⟩ := t3
    exact ⟨o, pushCells_keeps _ _ _ _ (Heap.get?_push_of_some _ z), c⟩
  have eL : (compEnvC scope (cellsFrom (s3.heap.objs.size + 1) scope.names (cloFrom X.env.cells scope.names [])) s3.heap.objs.size X.env).locals = s3.heap.objs.size := rfl
  generalize compEnvC scope (cellsFrom (s3.heap.objs.size + 1) scope.names (cloFrom X.env.cells scope.names [])) s3.heap.objs.size X.env = ce at I4 pg pe eL ⊢
  obtain ⟨p, ⟨hh, v1, d1, c1⟩, hp⟩ := hot
  obtain ⟨gp, np, _, nfs, _⟩ := I3.pin p (List.mem_append_left _ hp)
  have pit : p.1 ≠ it := F2.2.2.2.2.2 p (List.mem_append_left _ hp)
  have pst : p.1 ∉ frs X.stack := fun hm => by
    obtain ⟨_, _, n3, n4, _⟩ := I3.pin p (List.mem_append_left _ hp)
    exact (List.mem_cons.mp (I3.stkSub p.1 hm)).elim n3 n4
  generalize upd H1 D (.lst []) = H3 at I3 I4 F3 pg pe w0 np ⊢
  have n3 : ∀ b ∈ [it], H3 b = none := fun b hb => (F3 b hb).1.1
  have hotB : ∀ {σ' : L2.St} {H' : Hp} {s' : Shared}, Inv (X.blk s3 H3 scope ce [it]) [] σ' H' s' → HotX.HotAt X.A p.1 s'.heap := fun I' =>
    ⟨hh, p.2, v1, I'.base.keep p.1 p.2 gp np pst (fun z => pit (List.mem_singleton.mp z)), d1, c1⟩
  have stat : ∀ {σ' : L2.St} {H' : Hp} {s' : Shared}, Inv (X.blk s3 H3 scope ce [it]) [] σ' H' s' → H' it = none → FpOk (X.blk s3 H3 scope ce [it]) [] H' it := fun I' hn =>
    ⟨hn, (I'.ok.exf it List.mem_cons_self).1, I'.ok.exfs it List.mem_cons_self, .inl List.mem_cons_self, fun x c e => (I'.ok.exf it List.mem_cons_self).2 x c e, fun p hp => absurd (show p ∈ ([] : List (Addr × Obj)) ++ [] from hp) (by simp)⟩
  obtain ⟨s4, hs4⟩ : ∃ s4 : Shared, s4 = { s3 with heap := pushCells (s3.heap.push { cls := .type "dict", data := .dict #[] }) scope.names } := ⟨_, rfl⟩
  rw [← hs4] at I4 ⊢
  have t5 : s4.heap.IsListIter it a 0 := by rw [hs4]; exact t4
  refine (fun z => codeAny_compStart_list z (TL.self X.A 0 _ _ _ t5 z)) ?_
  refine compLoop_any (fun n s' => ∃ i H', Inv (X.blk s3 H3 scope ce [it]) [] (wipe σ (own.map (·.2))) H' s' ∧ s'.heap.IsListIter it a i ∧ H' it = none ∧ W i n H') ?_ m0 ⟨0, H3, I4, t5, n3 it List.mem_cons_self, w0⟩
  rintro n s5 ⟨i, H5, I5, t6, n5, w5⟩
  have ⟨f0, f1, f2, f3, f4, f5⟩ := stat I5 n5
  rcases turn i n H5 w5 with ⟨⟨ys, sy, ly⟩, qq⟩ | ⟨⟨ys, y, sy, gy⟩, Nx, hNx, step⟩
  · obtain ⟨its, rv, pl, _⟩ := I5.list sy
    have nl := rv.length
    refine list_done_hot (hotB I5) pit t6 pl.isList (by simp; omega) fun h' eb => ?_
    have I6 : Inv (X.blk s3 H3 scope ce [it]) [] _ H5 { s5 with heap := h' } := I5.turned (t' := s5.toks) (fun b o hb e => eb b o hb e) f0 f1 f3 f4 f5
    have I7 : Inv X pins σ H5 { s5 with heap := h' } := I3.call' (ch := [it]) I6.os I6.base I6.hok I6.bare fun b hb => ⟨(F3 b hb).1.2.2.2.1, (F3 b hb).1.2.1, (F3 b hb).1.2.2.2.2.1, (F3 b hb).1.2.2.2.2.2⟩
    have nC : H5 s3.heap.objs.size = none := by
      rw [← eL]
      exact I6.free
    obtain ⟨m, hm, _⟩ := I6.loc
    have hm2 : h'.Ns s3.heap.objs.size m := by
      rw [← eL]
      exact hm
    obtain ⟨k0, k1, k2, k3, k4, k5⟩ := I3.fpOk (H' := H5) (Nat.le_refl _) nC
    exact ⟨m, hm2, fun h'' sb => ⟨.ref D, H5, I7.turned (t' := s5.toks) (fun b o hb e => (sb.2 b hb).trans e) k0 k1 k3 k4 k5, rfl, qq⟩⟩
  · obtain ⟨its, rv, pl, _⟩ := I5.list sy
    obtain ⟨u, hu, ru⟩ := rv.get gy
    refine wpAny_pyNext_list_item t6 pl.isList (x := u) (by simpa using hu) fun h' t7 sb => ?_
    have I6 : Inv (X.blk s3 H3 scope ce [it]) [] _ H5 { s5 with heap := h' } := I5.turned (t' := s5.toks) (fun b o hb e => (sb.2 b hb).trans e) f0 f1 f3 f4 f5
    obtain ⟨oi, ei, ci, di⟩ := id t7
    refine go_of (s := { s5 with heap := h' }) ei ci di (by decide) ?_
    have F6 : ∀ b ∈ [it], FpOk (X.blk s3 H3 scope ce [it]) [] H5 b := fun b hb => by
      rw [List.mem_singleton.mp hb]
      exact stat I6 n5
    have I8 := I6.pinned F6 (TL.obj _ _ t7)
    refine thnF (pg.run _ _ _ H5 y u _ I8 ru (step y H5 ⟨rfl, fun zs hz => by rw [I6.list_inj hz sy]; exact gy⟩)) fun _ s8 ⟨σ8, H8, I9, hw8, q8⟩ => ?_
    refine wpAny_tests_nil ?_
    simp only [if_true]
    have q8 := q8
    unfold tYes at q8
    simp only [if_true] at q8
    refine thnF (pe.run _ s8 σ8 H8 _ I9 q8) fun z s10 ⟨yv, H10, I10, r10, acc, hD10, hz10, nx⟩ => ?_
    refine app_ok (X := X.blk s3 H3 scope ce [it]) I10 hD10 hz10 r10 fun s11 I11 => ?_
    obtain ⟨m', hm, w'⟩ := hNx _ nx
    have pi' : ∀ o, h'.get? it = some o → s11.heap.get? it = some o ∧ (upd H10 D (.lst (acc ++ [yv]))) it = none := fun o e =>
      let z := I11.pin (it, o) (List.mem_append_right _ (List.mem_append_right _ (mem_pinsAt List.mem_cons_self e)))
      ⟨z.1, z.2.1⟩
    have hl : (wipe σ (own.map (·.2))).length = σ8.length := by rw [← hw8, wipe_length]
    refine ⟨m', hm, i + 1, _, (I11.unpinned (pins := [])).weak hl (fun j v e => ?_), ⟨oi, (pi' oi ei).1, ci, di⟩, (pi' oi ei).2, w'⟩
    rw [← hw8] at e
    exact (wipe_some e).1
/-! ### lists of truth values -/
theorem dec_vstr {a b : Str} : decide (V.str a = V.str b) = decide (a = b) := by
  by_cases h : a = b
  · subst h
    rw [decide_eq_true rfl, decide_eq_true rfl]
  · rw [decide_eq_false h, decide_eq_false fun z => h (V.str.inj z)]
theorem ims_strs {K : PySem.W.Frag} {H : Hp} : ∀ ws : List Str, Ims K H (ws.map V.str) (ws.map PyData.str)
  | [] => .nil
  | w :: ws => .cons (.str w) (ims_strs ws)
theorem Ims.bools {K : PySem.W.Frag} {H : Hp} : ∀ l : List Bool, Ims K H (l.map V.bl) (l.map PyData.bool)
  | [] => .nil
  | b :: l => .cons (.bl b) (Ims.bools l)
theorem bools_can : ∀ l : List Bool, PyData.canLayAll0 (l.map PyData.bool) = true ∧ PyData.depthAll (l.map PyData.bool) = 0
  | [] => ⟨rfl, rfl⟩
  | b :: l => by
    obtain ⟨h1, h2⟩ := bools_can l
    refine ⟨?_, ?_⟩
    · show ((PyData.bool b).canLay0 && PyData.canLayAll0 (l.map PyData.bool)) = true
      rw [h1]; rfl
    · show max (PyData.bool b).depth (PyData.depthAll (l.map PyData.bool)) = 0
      rw [h2]; rfl
theorem bools_shaped (l : List Bool) : SeqAt.shaped (.list (l.map PyData.bool)) = true := by
  obtain ⟨a, b⟩ := bools_can l
  show ((PyData.canLayAll0 (l.map PyData.bool)) && decide (PyData.depthAll (l.map PyData.bool) + 1 ≤ 64)) = true
  rw [a, b]; rfl
/-! ### what the top has of an exception class -/
structure XcA (K : PySem.W.Frag) (mg : Str → Option Value) (x : Str) where
  C : Addr
  g : mg x = some (.ref C)
/-- .. of one that is raised: its __init__, its fields -/
structure EAt (P : Program) (K : PySem.W.Frag) (C : Addr) (qual : Str) (st : Stmt) (ps : List Str) where
  f : Addr
  cc : Addr
  cda : Addr
  fd : FuncData
  SF : SupE P K C f cc cda "__init__" qual st fd
  b : Binds K fd ps []
  iC : PySem.W.findIn K (.ref C) "__init__" = some (some (.ref f))
  tI : PySem.W.typeIn K (.ref f) = some (.type "function")
/-- the facts of such a class -/
structure ExF (K : PySem.W.Frag) (C : Addr) : Prop where
  ox : OexC K C
  xf : XfC K C
  xc : ExcC K C
/-- .. of one without an __init__ of its own -/
structure ExG (K : PySem.W.Frag) (C : Addr) : Prop where
  ex : PySem.W.excIn K C [.type "ValueError", .type "Exception", .type "BaseException", .type "object"] "ValueError.__new__" = true
  kp : PySem.W.keepIn K (.ref C) = true
  exC : PySem.W.subIn K (.ref C) (.type "BaseException") = some true
  tyC : PySem.W.typeIn K (.ref C) = some (.type "type")
  xc : ExcC K C
open PySem PySem.Spec PyProof.Rows L2
section
def top (i : Nat) : Stmt := PySem.Challenge.pw_weavepull_k20_read_or_refused.main.body.getD i (.Pass ⟨0, 0, 0, 0⟩)
abbrev s__law_dice : Stmt := top 22
theorem sc__law_dice : FnScope ["_law_script", "_law_mixed", "_law_cell"] ["_law_script"] (defScope s__law_dice) := ⟨rfl, rfl, rfl, by decide +kernel, rfl, by decide +kernel, by decide +kernel⟩
abbrev s__law_next : Stmt := top 23
theorem sc__law_next : FnScope ["_law_dice_here", "_law_many", "_law_found", "_law_cell"] ["_law_dice_here", "_law_many"] (defScope s__law_next) := ⟨rfl, rfl, rfl, by decide +kernel, rfl, by decide +kernel, by decide +kernel⟩
abbrev s__law_number : Stmt := top 27
theorem sc__law_number : FnScope ["_law_d"] ["_law_d"] (defScope s__law_number) := ⟨rfl, rfl, rfl, by decide +kernel, rfl, by decide +kernel, by decide +kernel⟩
abbrev s__law_tests : Stmt := top 28
theorem sc__law_tests : FnScope ["_law_d", "_law_tests_here", "_law_k", "_law_way", "_law_by"] ["_law_d"] (defScope s__law_tests) := ⟨rfl, rfl, rfl, by decide +kernel, rfl, by decide +kernel, by decide +kernel⟩
abbrev s__law_deeds : Stmt := top 29
theorem sc__law_deeds : FnScope ["_law_d", "_law_kind_here", "_law_deeds_here", "_law_k", "_law_some"] ["_law_d", "_law_kind_here"] (defScope s__law_deeds) := ⟨rfl, rfl, rfl, by decide +kernel, rfl, by decide +kernel, by decide +kernel⟩
abbrev s__law_long : Stmt := top 32
theorem sc__law_long : FnScope ["_law_d", "_law_weave_here", "_law_word", "_law_k", "_law_what", "_law_line_here", "_law_deed"] ["_law_d"] (defScope s__law_long) := ⟨rfl, rfl, rfl, by decide +kernel, rfl, by decide +kernel, by decide +kernel⟩
abbrev s__law_line : Stmt := top 31
theorem sc__law_line : FnScope ["_law_d", "_law_kinds", "_law_a", "_law_b", "_law_way", "_law_kind_here", "_law_simple", "_law_many", "_law_same", "_law_k"] ["_law_d", "_law_kinds"] (defScope s__law_line) := ⟨rfl, rfl, rfl, by decide +kernel, rfl, by decide +kernel, by decide +kernel⟩
abbrev s__law_kind : Stmt := top 30
theorem sc__law_kind : FnScope ["_law_line_here", "_law_kinds", "_law_word", "_law_kind_here", "_law_deed"] ["_law_line_here", "_law_kinds"] (defScope s__law_kind) := ⟨rfl, rfl, rfl, by decide +kernel, rfl, by decide +kernel, by decide +kernel⟩
abbrev s__law_weave : Stmt := top 33
theorem sc__law_weave : FnScope ["_law_d", "_law_named", "_law_many", "_law_turn", "_law_weave_here", "_law_kinds", "_law_k"] ["_law_d"] (defScope s__law_weave) := ⟨rfl, rfl, rfl, by decide +kernel, rfl, by decide +kernel, by decide +kernel⟩
abbrev s__law_row : Stmt := top 36
theorem sc__law_row : FnScope ["_law_line_here", "_law_told", "_law_part", "_law_word"] ["_law_line_here"] (defScope s__law_row) := ⟨rfl, rfl, rfl, by decide +kernel, rfl, by decide +kernel, by decide +kernel⟩
abbrev s_number_read : Stmt := top 20
theorem sc_number_read : FnScope ["word"] ["word"] (defScope s_number_read) := ⟨rfl, rfl, rfl, by decide +kernel, rfl, by decide +kernel, by decide +kernel⟩
abbrev s_numbers_read : Stmt := top 19
theorem sc_numbers_read : FnScope ["words", "many", "numbers", "word"] ["words", "many"] (defScope s_numbers_read) := ⟨rfl, rfl, rfl, by decide +kernel, rfl, by decide +kernel, by decide +kernel⟩
abbrev s_part_read : Stmt := top 18
theorem sc_part_read : FnScope ["words", "known"] ["words", "known"] (defScope s_part_read) := ⟨rfl, rfl, rfl, by decide +kernel, rfl, by decide +kernel, by decide +kernel⟩
abbrev s_parts_read : Stmt := top 17
theorem sc_parts_read : FnScope ["words", "known", "parts", "part"] ["words", "known"] (defScope s_parts_read) := ⟨rfl, rfl, rfl, by decide +kernel, rfl, by decide +kernel, by decide +kernel⟩
abbrev s_ahead_of_place : Stmt := top 16
theorem sc_ahead_of_place : FnScope ["words", "number"] ["words"] (defScope s_ahead_of_place) := ⟨rfl, rfl, rfl, by decide +kernel, rfl, by decide +kernel, by decide +kernel⟩
abbrev s_line_read : Stmt := top 15
theorem sc_line_read : FnScope ["words", "ahead", "a"] ["words"] (defScope s_line_read) := ⟨rfl, rfl, rfl, by decide +kernel, rfl, by decide +kernel, by decide +kernel⟩
abbrev s_BadText___init__ : Stmt := inClass (top 3) 0
theorem sc_BadText___init__ : NdefX.NScope ["self", "row", "__class__"] ["self", "row"] ["__class__"] (defScope s_BadText___init__) := NdefX.nscope_by (by decide +kernel)
abbrev s_read : Stmt := top 14
theorem sc_read : FnScope ["text", "weave", "at", "row", "line"] ["text"] (defScope s_read) := ⟨rfl, rfl, rfl, by decide +kernel, rfl, by decide +kernel, by decide +kernel⟩
abbrev s__law_is : Stmt := top 26
theorem sc__law_is : FnScope ["_law_e", "_law_word", "_law_kinds", "_law_words", "_law_one"] ["_law_e", "_law_word"] (defScope s__law_is) := ⟨rfl, rfl, rfl, by decide +kernel, rfl, by decide +kernel, by decide +kernel⟩
abbrev s__law_whole : Stmt := top 24
theorem sc__law_whole : FnScope ["_law_found"] ["_law_found"] (defScope s__law_whole) := ⟨rfl, rfl, rfl, by decide +kernel, rfl, by decide +kernel, by decide +kernel⟩
abbrev s__law_refused : Stmt := top 38
theorem sc__law_refused : FnScope ["_law_text", "_law_row_here", "_law_e"] ["_law_text", "_law_row_here"] (defScope s__law_refused) := ⟨rfl, rfl, rfl, by decide +kernel, rfl, by decide +kernel, by decide +kernel⟩
abbrev s__law_like : Stmt := top 25
theorem sc__law_like : FnScope ["_law_found", "_law_due", "_law_k"] ["_law_found", "_law_due"] (defScope s__law_like) := ⟨rfl, rfl, rfl, by decide +kernel, rfl, by decide +kernel, by decide +kernel⟩
abbrev s__law_bad_row : Stmt := top 37
theorem sc__law_bad_row : FnScope ["_law_d", "_law_some"] ["_law_d"] (defScope s__law_bad_row) := ⟨rfl, rfl, rfl, by decide +kernel, rfl, by decide +kernel, by decide +kernel⟩
abbrev s_law : Stmt := top 39
theorem sc_law : FnScope ["_law_script", "_law_d", "_law_drawn", "_law_rows", "_law_text", "_law_at", "_law_line_here"] ["_law_script"] (defScope s_law) := ⟨rfl, rfl, rfl, by decide +kernel, rfl, by decide +kernel, by decide +kernel⟩
structure Tx (P : Program) (K : PySem.W.Frag) (w : World) (mg : Str → Option Value) where
  k_WeaveError : XcA K mg "WeaveError"
  k_BadLine : XcA K mg "BadLine"
  k_BadText : XcA K mg "BadText"
  k_NoOutlet : XcA K mg "NoOutlet"
  k_LetGo : XcA K mg "LetGo"
  k_NoSource : XcA K mg "NoSource"
  k_Over : XcA K mg "Over"
  x_BadText : ExF K k_BadText.C
  n_BadText_row : PySem.W.findIn K (.ref k_BadText.C) "row" = some none
  i_BadText_BadLine : PySem.W.kitOne K (.ref k_BadText.C) (.ref k_BadLine.C) = some false
  i_BadText_BadText : PySem.W.kitOne K (.ref k_BadText.C) (.ref k_BadText.C) = some true
  i_BadText_NoOutlet : PySem.W.kitOne K (.ref k_BadText.C) (.ref k_NoOutlet.C) = some false
  i_BadText_LetGo : PySem.W.kitOne K (.ref k_BadText.C) (.ref k_LetGo.C) = some false
  i_BadText_NoSource : PySem.W.kitOne K (.ref k_BadText.C) (.ref k_NoSource.C) = some false
  i_BadText_Over : PySem.W.kitOne K (.ref k_BadText.C) (.ref k_Over.C) = some false
  i_BadText_ValueError : PySem.W.kitOne K (.ref k_BadText.C) (.type "ValueError") = some true
  m_BadText_WeaveError : PySem.W.exmOne K (.ref k_BadText.C) (.ref k_WeaveError.C) = some true
  _law_dice : At K mg "_law_dice" s__law_dice ["_law_script"]
  _law_next : At K mg "_law_next" s__law_next ["_law_dice_here", "_law_many"]
  _law_number : At K mg "_law_number" s__law_number ["_law_d"]
  _law_tests : At K mg "_law_tests" s__law_tests ["_law_d"]
  _law_deeds : At K mg "_law_deeds" s__law_deeds ["_law_d", "_law_kind_here"]
  _law_long : At K mg "_law_long" s__law_long ["_law_d"]
  _law_line : At K mg "_law_line" s__law_line ["_law_d", "_law_kinds"]
  _law_kind : At K mg "_law_kind" s__law_kind ["_law_line_here", "_law_kinds"]
  _law_weave : At K mg "_law_weave" s__law_weave ["_law_d"]
  _law_row : At K mg "_law_row" s__law_row ["_law_line_here"]
  number_read : At K mg "number_read" s_number_read ["word"]
  numbers_read : At K mg "numbers_read" s_numbers_read ["words", "many"]
  part_read : At K mg "part_read" s_part_read ["words", "known"]
  parts_read : At K mg "parts_read" s_parts_read ["words", "known"]
  ahead_of_place : At K mg "ahead_of_place" s_ahead_of_place ["words"]
  line_read : At K mg "line_read" s_line_read ["words"]
  BadText___init__ : EAt P K k_BadText.C "BadText.__init__" s_BadText___init__ ["self", "row"]
  read : At K mg "read" s_read ["text"]
  _law_is : At K mg "_law_is" s__law_is ["_law_e", "_law_word"]
  _law_whole : At K mg "_law_whole" s__law_whole ["_law_found"]
  _law_refused : At K mg "_law_refused" s__law_refused ["_law_text", "_law_row_here"]
  _law_like : At K mg "_law_like" s__law_like ["_law_found", "_law_due"]
  _law_bad_row : At K mg "_law_bad_row" s__law_bad_row ["_law_d"]
  law : At K mg "law" s_law ["_law_script"]
  c_NUMBERS : NumsAt K w mg "NUMBERS" [("minus", 0), ("first", 0), ("second", 0), ("both", 0), ("sum", 0), ("many", 0), ("rest", 2)]
  c_DEEDS : TupAt K mg "DEEDS" ["add", "times", "minus", "first", "second", "both", "sum", "many"]
  c_TESTS : TupAt K mg "TESTS" ["below", "over", "rest"]
  c_FOLDS : TupAt K mg "FOLDS" ["add", "times", "least", "most"]
  c_MOST_FIGURES : IntAt mg "MOST_FIGURES" 9
  z_ValueError : mg "ValueError" = none
  z_bool : mg "bool" = none
  z_enumerate : mg "enumerate" = none
  z_int : mg "int" = none
  z_isinstance : mg "isinstance" = none
  z_len : mg "len" = none
  z_list : mg "list" = none
  z_max : mg "max" = none
  z_min : mg "min" = none
  z_range : mg "range" = none
  z_str : mg "str" = none
  z_super : mg "super" = none
  z_tuple : mg "tuple" = none
variable {P : Program} {w : World} {K : PySem.W.Frag} {mg : Str → Option Value} {base : Heap}
local macro_rules | `(tactic| walk_at "go") => `(tactic| repeat (first
  | (apply Exists.intro; refine And.intro rfl ?_; all_goals apply isProp)
  | (apply Exists.intro; apply Exists.intro; refine And.intro rfl (And.intro rfl ?_); all_goals apply isProp)
  | refine And.intro rfl ?_
  | refine And.intro (by omega) ?_
  | (refine And.intro ?_ ?_; (apply posOf; omega); all_goals apply isProp)
  | refine And.intro (by assumption) ?_
  | (refine And.intro ?_ ?_; (apply Exists.intro; assumption); all_goals apply isProp)
  | refine And.intro (Or.inl (And.intro (by omega) (by omega))) ?_
  | refine And.intro (Or.inr (And.intro (by omega) (by omega))) ?_
  | refine And.intro (And.intro (by omega) (by omega)) ?_
  | (refine Or.inr ?_; (apply Exists.intro; refine And.intro rfl ?_; all_goals apply isProp))
  | (refine Or.inl ?_; (apply Exists.intro; refine And.intro rfl ?_; all_goals apply isProp))
  | (apply Exists.intro; apply Exists.intro; refine And.intro rfl ?_; refine And.intro ?_ ?_; (first | (apply Or.inl; assumption) | (apply Or.inr; assumption) | (apply Or.inl; apply SqL.of; assumption)); all_goals apply isProp)
  | (apply Exists.intro; apply Exists.intro; apply Exists.intro; apply Exists.intro; refine And.intro rfl (And.intro rfl ?_); refine And.intro ?_ ?_; (first | (apply SqL.of; assumption) | (apply SqT.of; assumption) | assumption); refine And.intro rfl ?_; all_goals apply isProp)
  | refine And.intro (And.intro (by omega) (And.intro (by omega) (by decide))) ?_
  | (refine And.intro ?_ ?_; (apply Or.inl; refine And.intro rfl ?_; apply Exists.intro; apply SqL.of; assumption); all_goals apply isProp)
  | (refine And.intro ?_ ?_; (apply acc_ty; assumption); all_goals apply isProp)
  | (apply iteT; all_goals apply isProp)
  | (apply iteF; all_goals apply isProp)
  | (apply Exists.intro; apply Exists.intro; refine And.intro rfl ?_; all_goals apply isProp)
  | (apply Exists.intro; apply Exists.intro; apply Exists.intro; refine And.intro rfl ?_; all_goals apply isProp)
  | (apply Exists.intro; apply Exists.intro; apply Exists.intro; apply Exists.intro; refine And.intro rfl ?_; all_goals apply isProp)))
local macro_rules | `(tactic| walk_at "no") => `(tactic| first
  | refine ite_f (by decide +kernel) ?_
  | refine ite_f (decide_eq_false (by assumption)) ?_
  | refine ite_f (decide_eq_false (by intro z; injection z with z; omega)) ?_)
local macro_rules | `(tactic| walk_at "yes") => `(tactic| first
  | refine ite_t (by decide +kernel) ?_
  | refine ite_t (decide_eq_true (by assumption)) ?_
  | refine ite_t (decide_eq_true (by omega)) ?_)
local macro_rules | `(tactic| walk_at "w") => `(tactic| first | refine ite_f (by decide +kernel) ?_ | refine ite_t (by decide +kernel) ?_)
local macro_rules | `(tactic| walk_at "wd") => `(tactic| (refine ⟨_, 0, 0, _, (by assumption), rfl, rfl, rfl, ?_⟩; intro v iv; cases Im.s iv; walk_at "go"))
local macro_rules | `(tactic| walk_at "wds") => `(tactic| (walk_at "go"; repeat walk_at "wd"))
local macro_rules | `(tactic| walk_at "n1") => `(tactic| (refine ⟨_, 1, 1, _, (by assumption), rfl, rfl, rfl, ?_⟩; intro v iv; cases Im.i iv; walk_at "go"))
local macro_rules | `(tactic| walk_at "n2") => `(tactic| (refine ⟨_, 2, 2, _, (by assumption), rfl, rfl, rfl, ?_⟩; intro v iv; cases Im.i iv; walk_at "go"))
def spDice (K : PySem.W.Frag) : Sp := fun vs H Q _ => ∃ (a : Addr) (ns : List Int), vs = [.ref a] ∧ Fz K H a (ns.map V.int) ∧ ns.length ≤ 63 ∧
  ∀ D H', H D = none → Same H H' → IsDice K H' D → Q (.ref D) H'
theorem ok__law_dice (T : Tx P K w mg) : FnOk P w K mg base CX0 1 T._law_dice.f T._law_dice.fd ["_law_script"] (spDice K) := by
  refine T._law_dice.F.ok sc__law_dice (fun vs H Q E h => ?_) (fun cdv A outer s H vs Q E hr h => ?_)
  · obtain ⟨a, ns, rfl, _⟩ := h
    rfl
  obtain ⟨a, ns, rfl, hF, hl, q⟩ := h
  have hS := hF.seq
  refine ⟨_, (pss_cons (ps_set (i := 1) sc__law_dice.nd rfl (by first | exact Or.inl rfl | exact Or.inr rfl) pe_int)
      (pss_cons (ps_for PassesOwn.never rfl (pi_list (pv 0)) (pg_name (i := 2) sc__law_dice.nd rfl (by first | exact Or.inl rfl | exact Or.inr rfl)) (pss_one (ps_set (i := 1) sc__law_dice.nd rfl (by first | exact Or.inl rfl | exact Or.inr rfl) (pe_op op_mod (pe_op op_add (pe_op op_add (pe_op op_mul (pv 1) pe_int) (pe_op op_mul (pe_op op_mod (pv 2) pe_int) pe_int)) pe_int) pe_int))))
      (pss_one (ps_ret (pe_lr (pa_cons (pv 0) (pa_cons pe_int (pa_cons (pe_op op_mul (pv 1) (pe_callTy call_int1 (by rfl) T.z_int (by decide +kernel) (pa_cons (pe_cmpR op_gt (pe_callB call_len_seq (by rfl) T.z_len PySem.boot_len (pa_cons (pv 0) pa_nil)) pe_int (nomark _)) pa_nil))) (pa_cons pe_int pa_nil))))))))), ?_⟩
  refine ⟨_, rfl, a, rfl, ⟨_, hS⟩, for_list (K := K) (a := a) (xs := ns.map V.int) (fun i σ H2 => Hold (H2 = H ∧ ∃ (m : Int) (v : Option V), σ = [some (.ref a), some (.int m), v] ∧ 0 ≤ m ∧ m < 2147483647))
    (.mk ⟨rfl, 0, none, rfl, by decide, by decide⟩) (fun i σ H2 _ h => h.out.1 ▸ hS) ?_ ?_⟩
  · rintro i x σ H2 hi h
    obtain ⟨rfl, m, v, rfl, h0, h1⟩ := h.out
    obtain ⟨z, rfl⟩ : ∃ z, x = V.int z := by
      rw [List.getElem?_map] at hi
      obtain ⟨z, _, rfl⟩ := Option.map_eq_some_iff.mp hi
      exact ⟨z, rfl⟩
    walk_at "go"
    exact .mk ⟨rfl, _, _, rfl, Int.emod_nonneg _ (by decide), Int.emod_lt_of_pos _ (by decide)⟩
  · rintro σ H2 h
    obtain ⟨rfl, m, v, rfl, h0, h1⟩ := h.out
    walk_at "go"
    refine ⟨by simp, fun D H1 nD s1 t1 e1 => ?_⟩
    refine q D H1 nD s1 ⟨a, ns, _, _, _, e1, (same_tk s1).f _ _ hF, hl, Int.le_refl _, ?_, ?_, Int.le_refl _⟩
    all_goals (split <;> omega)

def spNext (K : PySem.W.Frag) : Sp := fun vs H Q _ => ∃ (D : Addr) (m : Int), vs = [.ref D, .int m] ∧ 1 ≤ m ∧ m ≤ 1000003 ∧ IsDice K H D ∧
  ∀ (r : Int) H', 0 ≤ r → r < m → IsDice K H' D → But D H H' → Q (.int r) H'
theorem ok__law_next (T : Tx P K w mg) : FnOk P w K mg base CX0 1 T._law_next.f T._law_next.fd ["_law_dice_here", "_law_many"] (spNext K) := by
  refine T._law_next.F.ok sc__law_next (fun vs H Q E h => ?_) (fun cdv A outer s H vs Q E hr h => ?_)
  · obtain ⟨a, ns, rfl, _⟩ := h
    rfl
  obtain ⟨D, m, rfl, h1, h2, hD, q⟩ := h
  obtain ⟨a, ns, p, mx, r, eD, hF, hl, hp, hm0, hm1, hr0⟩ := hD
  have hS := hF.seq
  have mo : ∀ z : Int, 0 ≤ z % m ∧ z % m < m := fun z => ⟨Int.emod_nonneg _ (by omega), Int.emod_lt_of_pos _ (by omega)⟩
  have dv : ∀ z : Int, 0 ≤ z → 0 ≤ z / m := fun z hz => Int.ediv_nonneg hz (by omega)
  refine ⟨_, (pss_cons (ps_if (pt_cmpR op_gt (pe_ix ix_list (pv 0) pe_int (fun _ _ => rfl)) pe_int (nomark _)) (pss_cons (ps_set (i := 2) sc__law_next.nd rfl (by first | exact Or.inl rfl | exact Or.inr rfl) (pe_op op_mod (pe_ix ix_list (pv 0) pe_int (fun _ _ => rfl)) (pv 1)))
      (pss_cons (ps_asg (pe_op op_fdiv (pe_ix ix_list (pv 0) pe_int (fun _ _ => rfl)) (pv 1)) (pg_sub (pv 0) pe_int set_listN))
      (pss_one (ps_ret (pv 2))))) pss_nil)
      (pss_cons (ps_asg (pe_op op_add (pe_ix ix_list (pv 0) pe_int (fun _ _ => rfl)) pe_int) (pg_sub (pv 0) pe_int set_listN))
      (pss_cons (ps_if (pt_cmpR op_le (pe_ix ix_list (pv 0) pe_int (fun _ _ => rfl)) (pe_callB call_len_seq (by rfl) T.z_len PySem.boot_len (pa_cons (pe_ix ix_list (pv 0) pe_int (fun _ _ => rfl)) pa_nil)) (nomark _)) (pss_cons (ps_set (i := 3) sc__law_next.nd rfl (by first | exact Or.inl rfl | exact Or.inr rfl) (pe_ix ix_list (pe_ix ix_list (pv 0) pe_int (fun _ _ => rfl)) (pe_op op_sub (pe_ix ix_list (pv 0) pe_int (fun _ _ => rfl)) pe_int) (fun _ _ => rfl)))
      (pss_cons (ps_asg (pe_ifExp (pt_cmpR op_ge (pv 3) (pe_op op_pow pe_int pe_int) (nomark _)) (pe_op op_fdiv (pv 3) (pv 1)) pe_int) (pg_sub (pv 0) pe_int set_listN))
      (pss_one (ps_ret (pe_op op_mod (pv 3) (pv 1)))))) pss_nil)
      (pss_cons (ps_asg (pe_op op_mod (pe_op op_mul (pe_ix ix_list (pv 0) pe_int (fun _ _ => rfl)) pe_int) pe_int) (pg_sub (pv 0) pe_int set_listN))
      (pss_one (ps_ret (pe_op op_mod (pe_op op_fdiv (pe_ix ix_list (pv 0) pe_int (fun _ _ => rfl)) pe_int) (pv 1)))))))), ?_⟩
  walk_at "go"
  refine ite_d (fun c => ?_) (fun c => ?_)
  · walk_at "go"
    refine ⟨_, _, _, _, _, rfl, rfl, eD, rfl, rfl, fun H1 b1 t_b1 e1 => ?_⟩
    have e1 : H1 D = some (.lst [.ref a, .int p, .int mx, .int (r / m)]) := e1
    walk_at "go"
    exact q _ H1 (mo r).1 (mo r).2 ⟨a, ns, p, mx, _, e1, (b1.tk eD).f _ _ hF, hl, hp, hm0, hm1, dv r hr0⟩ b1
  · walk_at "go"
    refine ⟨_, _, _, _, _, rfl, rfl, eD, rfl, rfl, fun H1 b1 t_b1 e1 => ?_⟩
    have e1 : H1 D = some (.lst [.ref a, .int (p + 1), .int mx, .int r]) := e1
    have hF1 := (b1.tk (K := K) eD).f _ _ hF
    have hS1 := hF1.seq
    walk_at "go"
    refine ite_d (fun c2 => ?_) (fun c2 => ?_)
    · rw [List.length_map] at c2
      have hj : p.toNat < ns.length := by omega
      have hat : atI (ns.map V.int) (p + 1 - 1) = some (.int ns[p.toNat]) := by
        refine at_of (j := p.toNat) (by omega) ?_
        rw [List.getElem?_map, List.getElem?_eq_getElem hj]
        rfl
      walk_at "go"
      refine ⟨_, _, _, _, rfl, rfl, hS1, hat, ?_⟩
      walk_at "go"
      refine ite_d (fun c3 => ?_) (fun c3 => ?_)
      · have c3 : (1000000000000000000 : Int) ≤ ns[p.toNat] := c3
        walk_at "go"
        refine ⟨_, _, _, _, _, rfl, rfl, e1, rfl, rfl, fun H2 b2 t_b2 e2 => ?_⟩
        have e2 : H2 D = some (.lst [.ref a, .int (p + 1), .int mx, .int (ns[p.toNat] / m)]) := e2
        walk_at "go"
        exact q _ H2 (mo _).1 (mo _).2 ⟨a, ns, _, mx, _, e2, (b2.tk e1).f _ _ hF1, hl, by omega, hm0, hm1, dv _ (by omega)⟩ (b1.trans b2)
      · walk_at "go"
        refine ⟨_, _, _, _, _, rfl, rfl, e1, rfl, rfl, fun H2 b2 t_b2 e2 => ?_⟩
        have e2 : H2 D = some (.lst [.ref a, .int (p + 1), .int mx, .int 0]) := e2
        walk_at "go"
        exact q _ H2 (mo _).1 (mo _).2 ⟨a, ns, _, mx, _, e2, (b2.tk e1).f _ _ hF1, hl, by omega, hm0, hm1, Int.le_refl _⟩ (b1.trans b2)
    · walk_at "go"
      refine ⟨_, _, _, _, _, rfl, rfl, e1, rfl, rfl, fun H2 b2 t_b2 e2 => ?_⟩
      have e2 : H2 D = some (.lst [.ref a, .int (p + 1), .int (mx * 48271 % 2147483647), .int r]) := e2
      walk_at "go"
      exact q _ H2 (mo _).1 (mo _).2 ⟨a, ns, _, _, _, e2, (b2.tk e1).f _ _ hF1, hl, by omega, Int.emod_nonneg _ (by decide), Int.emod_lt_of_pos _ (by decide), hr0⟩ (b1.trans b2)

def spNumber (K : PySem.W.Frag) : Sp := fun vs H Q _ => ∃ (D : Addr), vs = [.ref D] ∧ IsDice K H D ∧
  ∀ (r : Int) H', Num r → IsDice K H' D → But D H H' → Q (.int r) H'
theorem ok__law_number (T : Tx P K w mg) : FnOk P w K mg base CX0 2 T._law_number.f T._law_number.fd ["_law_d"] (spNumber K) := by
  refine T._law_number.F.ok sc__law_number (fun vs H Q E h => ?_) (fun cdv A outer s H vs Q E hr h => ?_)
  · obtain ⟨a, rfl, _⟩ := h
    rfl
  obtain ⟨D, rfl, hD, q⟩ := h
  refine ⟨_, (pss_cons (ps_if (pt_cmpR op_eq (pe_call (ok__law_next T) hr (by rfl) T._law_next.g T._law_next.F.kp T._law_next.b .nil pass0 (pa_cons (pv 0) (pa_cons pe_int pa_nil))) pe_int (nomark _)) (pss_one (ps_ret (pe_call (ok__law_next T) hr (by rfl) T._law_next.g T._law_next.F.kp T._law_next.b .nil pass0 (pa_cons (pv 0) (pa_cons pe_int pa_nil))))) pss_nil)
      (pss_one (ps_ret (pe_call (ok__law_next T) hr (by rfl) T._law_next.g T._law_next.F.kp T._law_next.b .nil pass0 (pa_cons (pv 0) (pa_cons pe_int pa_nil)))))), ?_⟩
  walk_at "go"
  intro r H1 a1 a2 d1 b1
  walk_at "go"
  refine ite_d (fun c => ?_) (fun c => ?_)
  · walk_at "go"
    intro r2 H2 a3 a4 d2 b2
    exact q _ _ ⟨a3, a4⟩ d2 (b1.trans b2)
  · walk_at "go"
    intro r2 H2 a3 a4 d2 b2
    exact q _ _ ⟨a3, by omega⟩ d2 (b1.trans b2)

def spTests (K : PySem.W.Frag) : Sp := fun vs H Q _ => ∃ (D : Addr), vs = [.ref D] ∧ IsDice K H D ∧
  ∀ (v : V) H' (ts : List Tst), Im K H' v (.tuple (ts.map Tst.d)) → 1 ≤ ts.length → ts.length ≤ 64 → (∀ t ∈ ts, t.Ok) → IsDice K H' D → But D H H' → Q v H'
theorem ok__law_tests (T : Tx P K w mg) : FnOk P w K mg base CX0 3 T._law_tests.f T._law_tests.fd ["_law_d"] (spTests K) := by
  refine T._law_tests.F.ok sc__law_tests (fun vs H Q E h => ?_) (fun cdv A outer s H vs Q E hr h => ?_)
  · obtain ⟨a, rfl, _⟩ := h
    rfl
  obtain ⟨D, rfl, hD, q⟩ := h
  refine ⟨_, (pss_cons (ps_set (i := 1) sc__law_tests.nd rfl (by first | exact Or.inl rfl | exact Or.inr rfl) (pe_ld pa_nil))
      (pss_cons (ps_for PassesOwn.never rfl (pi_range1 (by rfl) T.z_range (pa_cons (pe_ix ix_selA (pe_ld (pa_cons (pe_op op_add pe_int (pe_call (ok__law_next T) (hr.mono (by decide)) (by rfl) T._law_next.g T._law_next.F.kp T._law_next.b .nil pass0 (pa_cons (pv 0) (pa_cons pe_int pa_nil)))) (pa_cons (pe_op op_add pe_int (pe_call (ok__law_next T) (hr.mono (by decide)) (by rfl) T._law_next.g T._law_next.F.kp T._law_next.b .nil pass0 (pa_cons (pv 0) (pa_cons pe_int pa_nil)))) pa_nil))) (pe_callTy call_int1 (by rfl) T.z_int (by decide +kernel) (pa_cons (pe_cmpR op_eq (pe_call (ok__law_next T) (hr.mono (by decide)) (by rfl) T._law_next.g T._law_next.F.kp T._law_next.b .nil pass0 (pa_cons (pv 0) (pa_cons pe_int pa_nil))) pe_int (nomark _)) pa_nil)) (fun _ _ => rfl)) pa_nil)) (pg_name (i := 2) sc__law_tests.nd rfl (by first | exact Or.inl rfl | exact Or.inr rfl)) (pss_cons (ps_set (i := 3) sc__law_tests.nd rfl (by first | exact Or.inl rfl | exact Or.inr rfl) (pe_call (ok__law_next T) (hr.mono (by decide)) (by rfl) T._law_next.g T._law_next.F.kp T._law_next.b .nil pass0 (pa_cons (pv 0) (pa_cons pe_int pa_nil))))
      (pss_cons (ps_if (pt_cmpR op_eq (pv 3) pe_int (nomark _)) (pss_one (ps_expr (pe_bm PySem.F.plainAttrs_list PySem.F.slot_list_append PySem.F.type_list_append mt_appA (pv 1) (pa_cons (pe_td (pa_cons pe_str (pa_cons (pe_call (ok__law_number T) hr (by rfl) T._law_number.g T._law_number.F.kp T._law_number.b .nil pass0 (pa_cons (pv 0) pa_nil)) pa_nil))) pa_nil)))) pss_nil)
      (pss_cons (ps_if (pt_cmpR op_eq (pv 3) pe_int (nomark _)) (pss_one (ps_expr (pe_bm PySem.F.plainAttrs_list PySem.F.slot_list_append PySem.F.type_list_append mt_appA (pv 1) (pa_cons (pe_td (pa_cons pe_str (pa_cons (pe_call (ok__law_number T) hr (by rfl) T._law_number.g T._law_number.F.kp T._law_number.b .nil pass0 (pa_cons (pv 0) pa_nil)) pa_nil))) pa_nil)))) pss_nil)
      (pss_one (ps_if (pt_cmpR op_eq (pv 3) pe_int (nomark _)) (pss_cons (ps_set (i := 4) sc__law_tests.nd rfl (by first | exact Or.inl rfl | exact Or.inr rfl) (pe_callB (call_max2N rfl) (by rfl) T.z_max (by decide +kernel) (pa_cons pe_int (pa_cons (pe_call (ok__law_number T) hr (by rfl) T._law_number.g T._law_number.F.kp T._law_number.b .nil pass0 (pa_cons (pv 0) pa_nil)) pa_nil))))
      (pss_one (ps_expr (pe_bm PySem.F.plainAttrs_list PySem.F.slot_list_append PySem.F.type_list_append mt_appA (pv 1) (pa_cons (pe_td (pa_cons pe_str (pa_cons (pv 4) (pa_cons (pe_call (ok__law_next T) (hr.mono (by decide)) (by rfl) T._law_next.g T._law_next.F.kp T._law_next.b .nil pass0 (pa_cons (pv 0) (pa_cons (pv 4) pa_nil))) pa_nil)))) pa_nil))))) pss_nil))))))
      (pss_one (ps_ret (pe_callTy call_tupleA (by rfl) T.z_tuple (by decide +kernel) (pa_cons (pv 1) pa_nil)))))), ?_⟩
  walk_at "go"
  refine ⟨[], .nil, by simp, fun l H1 nl s1 t1 a1 => ?_⟩
  have d1 := hD.same s1
  have ne := hD.ne_new nl
  have b1 : But D H H1 := same_but s1
  walk_at "go"
  intro r2 H2 g1 g2 d2 b2
  walk_at "go"
  intro r3 H3 g3 g4 d3 b3
  walk_at "go"
  refine ⟨[.int (1 + r2), .int (1 + r3)], .cons (.int _) (.cons (.int _) .nil), by simp, fun p4 H4 n4 s4 t4 e4 => ?_⟩
  have d4 := d3.same s4
  walk_at "go"
  intro r5 H5 g5 g6 d5 b5
  walk_at "go"
  have ne4 := d3.ne_new n4
  refine ⟨_, _, _, _, rfl, e4.but b5 (b5.dtk d4) ne4.symm, rfl, fun v5 i5 => ?_⟩
  have a5 : Acc K H5 l [] := (((a1.but b2 (b2.dtk d1) ne.symm).but b3 (b3.dtk d2) ne.symm).same s4).but b5 (b5.dtk d4) ne.symm
  have B5 : But D H H5 := b1.trans (b2.trans (b3.trans ((same_but s4).trans b5)))
  have nl' := nl
  obtain ⟨n, rfl, n1, n2⟩ : ∃ n : Nat, v5 = V.int n ∧ 1 ≤ n ∧ n ≤ 64 := by
    split at i5
    · exact ⟨(1 + r3).toNat, by rw [i5.i, Int.toNat_of_nonneg (by omega)], by omega, by omega⟩
    · exact ⟨(1 + r2).toNat, by rw [i5.i, Int.toNat_of_nonneg (by omega)], by omega, by omega⟩
  refine ⟨_, rfl, by omega, by omega, for_range (lo := 0) (n := n) (fun i σ H2 => Hold (∃ (ts : List Tst) (o2 o3 o4 : Option V), σ = [some (.ref D), some (.ref l), o2, o3, o4] ∧
      Acc K H2 l (ts.map Tst.d) ∧ ts.length = i ∧ (∀ t ∈ ts, t.Ok) ∧ IsDice K H2 D ∧ But D H H2)) (.mk ⟨[], none, none, none, rfl, a5, rfl, (fun _ h => by cases h), d5, B5⟩) ?_ ?_⟩
  · rintro i σ H6 hi h
    obtain ⟨ts, o2, o3, o4, rfl, a6, rfl, ok6, d6, B6⟩ := h.out
    walk_at "go"
    intro r7 H7 g7 g8 d7 b7
    have a7 := a6.but b7 (b7.dtk d6) ne.symm
    have B7 := B6.trans b7
    have fin : ∀ (t : Tst) H9 H8, t.Ok → But D H7 H8 → IsDice K H8 D → But l H8 H9 → Acc K H8 l (ts.map Tst.d) → Acc K H9 l (ts.map Tst.d ++ [t.d]) → TK K H8 H9 → ∀ o2 o3 o4,
        Hold (∃ (ts' : List Tst) (o2' o3' o4' : Option V), [some (V.ref D), some (.ref l), o2, o3, o4] = [some (.ref D), some (.ref l), o2', o3', o4'] ∧
      Acc K H9 l (ts'.map Tst.d) ∧ ts'.length = ts.length + 1 ∧ (∀ t ∈ ts', t.Ok) ∧ IsDice K H9 D ∧ But D H H9) := fun t H9 H8 ok b8 d8 b9 a8 a9 t9 o2 o3 o4 => by
      refine .mk ⟨ts ++ [t], o2, o3, o4, rfl, by rw [List.map_append]; exact a9, by rw [List.length_append]; rfl, fun x hx => ?_, d8.keep t9 fun xs e => b9 _ _ ne e, ?_⟩
      · rcases List.mem_append.mp hx with hx | hx
        · exact ok6 x hx
        · rw [List.mem_singleton.mp hx]; exact ok
      · intro b u hb e
        exact b9 _ _ (ne_of_none e nl) ((B7.trans b8) _ _ hb e)
    walk_at "go"
    refine ite_d (fun c => ?_) (fun c => ?_)
    · obtain rfl : r7 = 0 := by injection c
      walk_at "go"
      intro z H8 hz d8 b8
      have a8 := a7.but b8 (b8.dtk d7) ne.symm
      walk_at "go"
      refine ⟨[.str "over", .int z], (.cons (.str _) (.cons (.int _) .nil)), by simp, fun p H9 s9 t9 i9 => ?_⟩
      have a9 := a8.same s9
      refine ⟨_, _, _, _, rfl, rfl, a9, i9, by simp; omega, fun H10 b10 t10 a10 => ?_⟩
      walk_at "go"
      exact fin (.over z) H10 H9 hz (b8.trans (same_but s9)) (d8.same s9) b10 a9 a10 t10 _ _ _
    · walk_at "go"
      refine ite_d (fun c1 => ?_) (fun c1 => ?_)
      · obtain rfl : r7 = 1 := by injection c1
        walk_at "go"
        intro z H8 hz d8 b8
        have a8 := a7.but b8 (b8.dtk d7) ne.symm
        walk_at "go"
        refine ⟨[.str "below", .int z], (.cons (.str _) (.cons (.int _) .nil)), by simp, fun p H9 s9 t9 i9 => ?_⟩
        have a9 := a8.same s9
        refine ⟨_, _, _, _, rfl, rfl, a9, i9, by simp; omega, fun H10 b10 t10 a10 => ?_⟩
        walk_at "go"
        exact fin (.below z) H10 H9 hz (b8.trans (same_but s9)) (d8.same s9) b10 a9 a10 t10 _ _ _
      · have e2 : r7 = 2 := by
          have h0 : r7 ≠ 0 := fun z => c (by rw [z])
          have h1 : r7 ≠ 1 := fun z => c1 (by rw [z])
          omega
        subst e2
        walk_at "go"
        intro z H8 hz d8 b8
        have a8 := a7.but b8 (b8.dtk d7) ne.symm
        obtain ⟨hz1, hz2⟩ := hz
        walk_at "go"
        intro r H9 g9 g10 d9 b9
        have a9 := a8.but b9 (b9.dtk d8) ne.symm
        walk_at "go"
        refine ⟨[.str "rest", .int (max 1 z), .int r], (.cons (.str _) (.cons (.int _) (.cons (.int _) .nil))), by simp, fun p H10 s10 t10 i10 => ?_⟩
        have a10 := a9.same s10
        refine ⟨_, _, _, _, rfl, rfl, a10, i10, by simp; omega, fun H11 b11 t11 a11 => ?_⟩
        walk_at "go"
        exact fin (.rest (max 1 z) r) H11 H10 ⟨⟨by omega, by omega⟩, g9, g10⟩ (b8.trans (b9.trans (same_but s10))) (d9.same s10) b11 a10 a11 t11 _ _ _
  · rintro σ H6 h
    obtain ⟨ts, o2, o3, o4, rfl, a6, e6, ok6, d6, B6⟩ := h.out
    walk_at "go"
    refine ⟨_, _, rfl, a6, fun p H7 s7 t7 i7 => ?_⟩
    exact q _ H7 ts i7 (by omega) (by omega) ok6 (d6.same s7) (B6.trans (same_but s7))

def spDeeds (K : PySem.W.Frag) : Sp := fun vs H Q _ => ∃ (D : Addr) (vk : V), vs = [.ref D, vk] ∧ Hold (IsDice K H D ∧ ∃ k : Kd, Im K H vk k.d ∧ k.dp ≤ 20 ∧
  ∀ (v : V) H' (ds : List Deed) (k' : Kd), Im K H' v (.tuple (ds.map Deed.d)) → DrawnD k ds k' → IsDice K H' D → But D H H' → Q v H')
theorem ok__law_deeds (T : Tx P K w mg) : FnOk P w K mg base CX0 3 T._law_deeds.f T._law_deeds.fd ["_law_d", "_law_kind_here"] (spDeeds K) := by
  refine T._law_deeds.F.ok sc__law_deeds (fun vs H Q E h => ?_) (fun cdv A outer s H vs Q E hr h => ?_)
  · obtain ⟨a, vk, rfl, _⟩ := h
    rfl
  obtain ⟨D, vk, rfl, h⟩ := h
  obtain ⟨hD, k, ik, hk, q⟩ := h.out
  refine ⟨_, (pss_cons (ps_if (PW.pt (pw_and (pt_cmpR (op_eqD hr.units) (pv 1) (pe_td (pa_cons pe_str (pa_cons pe_str pa_nil))) (nomark _)) (pw_and1 (pt_cmpR op_eq (pe_call (ok__law_next T) (hr.mono (by decide)) (by rfl) T._law_next.g T._law_next.F.kp T._law_next.b .nil pass0 (pa_cons (pv 0) (pa_cons pe_int pa_nil))) pe_int (nomark _))))) (pss_one (ps_ret (pe_td (pa_cons (pe_td (pa_cons pe_str pa_nil)) pa_nil)))) pss_nil)
      (pss_cons (ps_if (pt_cmpR op_eq (pe_ix ix_kd (pv 1) pe_int (fun _ _ => rfl)) pe_str (nomark _)) (pss_one (ps_ret (pe_td (pa_cons (pe_td (pa_cons pe_str pa_nil)) (pa_cons (pe_td (pa_cons pe_str (pa_cons (pe_call (ok__law_number T) hr (by rfl) T._law_number.g T._law_number.F.kp T._law_number.b .nil pass0 (pa_cons (pv 0) pa_nil)) pa_nil))) pa_nil))))) pss_nil)
      (pss_cons (ps_if (pt_cmpR op_eq (pe_ix ix_kd (pv 1) pe_int (fun _ _ => rfl)) pe_str (nomark _)) (pss_one (ps_ret (pe_td (pa_cons (pe_ix ix_listA (pe_ld (pa_cons (pe_td (pa_cons pe_str pa_nil)) (pa_cons (pe_td (pa_cons pe_str pa_nil)) pa_nil))) (pe_call (ok__law_next T) (hr.mono (by decide)) (by rfl) T._law_next.g T._law_next.F.kp T._law_next.b .nil pass0 (pa_cons (pv 0) (pa_cons pe_int pa_nil))) (fun _ _ => rfl)) pa_nil)))) pss_nil)
      (pss_cons (ps_set (i := 2) sc__law_deeds.nd rfl (by first | exact Or.inl rfl | exact Or.inr rfl) (pe_ld pa_nil))
      (pss_cons (ps_for PassesOwn.never rfl (pi_range1 (by rfl) T.z_range (pa_cons (pe_ix ix_selA (pe_ld (pa_cons (pe_op op_add pe_int (pe_call (ok__law_next T) (hr.mono (by decide)) (by rfl) T._law_next.g T._law_next.F.kp T._law_next.b .nil pass0 (pa_cons (pv 0) (pa_cons pe_int pa_nil)))) (pa_cons (pe_op op_add pe_int (pe_call (ok__law_next T) (hr.mono (by decide)) (by rfl) T._law_next.g T._law_next.F.kp T._law_next.b .nil pass0 (pa_cons (pv 0) (pa_cons pe_int pa_nil)))) pa_nil))) (pe_callTy call_int1 (by rfl) T.z_int (by decide +kernel) (pa_cons (pe_cmpR op_eq (pe_call (ok__law_next T) (hr.mono (by decide)) (by rfl) T._law_next.g T._law_next.F.kp T._law_next.b .nil pass0 (pa_cons (pv 0) (pa_cons pe_int pa_nil))) pe_int (nomark _)) pa_nil)) (fun _ _ => rfl)) pa_nil)) (pg_name (i := 3) sc__law_deeds.nd rfl (by first | exact Or.inl rfl | exact Or.inr rfl)) (pss_cons (ps_set (i := 4) sc__law_deeds.nd rfl (by first | exact Or.inl rfl | exact Or.inr rfl) (pe_ld (pa_cons (pe_td (pa_cons pe_str (pa_cons (pe_call (ok__law_number T) hr (by rfl) T._law_number.g T._law_number.F.kp T._law_number.b .nil pass0 (pa_cons (pv 0) pa_nil)) pa_nil))) (pa_cons (pe_td (pa_cons pe_str (pa_cons (pe_call (ok__law_number T) hr (by rfl) T._law_number.g T._law_number.F.kp T._law_number.b .nil pass0 (pa_cons (pv 0) pa_nil)) pa_nil))) (pa_cons (pe_td (pa_cons pe_str pa_nil)) pa_nil)))))
      (pss_one (ps_expr (pe_bm PySem.F.plainAttrs_list PySem.F.slot_list_append PySem.F.type_list_append mt_appA (pv 2) (pa_cons (pe_ix ix_listA (pv 4) (pe_call (ok__law_next T) (hr.mono (by decide)) (by rfl) T._law_next.g T._law_next.F.kp T._law_next.b .nil pass0 (pa_cons (pv 0) (pa_cons pe_int pa_nil))) (fun _ _ => rfl)) pa_nil))))))
      (pss_cons (ps_if (pt_cmpR op_eq (pe_call (ok__law_next T) (hr.mono (by decide)) (by rfl) T._law_next.g T._law_next.F.kp T._law_next.b .nil pass0 (pa_cons (pv 0) (pa_cons pe_int pa_nil))) pe_int (nomark _)) (pss_one (ps_expr (pe_bm PySem.F.plainAttrs_list PySem.F.slot_list_append PySem.F.type_list_append mt_appA (pv 2) (pa_cons (pe_td (pa_cons pe_str pa_nil)) pa_nil)))) pss_nil)
      (pss_one (ps_ret (pe_callTy call_tupleA (by rfl) T.z_tuple (by decide +kernel) (pa_cons (pv 2) pa_nil)))))))))), ?_⟩
  walk_at "go"
  refine ⟨[.str "row", .str "number"], .cons (.str _) (.cons (.str _) .nil), by simp, fun p1 H1 s1 t1 i1 => ?_⟩
  have d1 := hD.same s1
  have ik1 := ik.u t1
  have B1 : But D H H1 := same_but s1
  refine ⟨k.d, (Kd.row .num).d, Im.dp _ _ ik1, Im.dp _ _ i1, Kd.shaped hk, by decide +kernel, ?_⟩
  rw [Kd.eqv]
  refine ⟨_, rfl, ?_⟩
  cases k with
  | num =>
    obtain rfl := Im.s ik
    walk_at "go"
    refine Or.inl ⟨_, 110, rfl, rfl, by decide, by decide +kernel, ?_⟩
    walk_at "go"
    refine Or.inl ⟨_, 110, rfl, rfl, by decide, by decide +kernel, ?_⟩
    walk_at "go"
    refine ⟨[], .nil, by simp, fun l H2 nl s2 t2 a2 => ?_⟩
    have d2 := d1.same s2
    have ne := d1.ne_new nl
    have nl0 := s1.free nl
    have B2 : But D H H2 := B1.trans (same_but s2)
    walk_at "go"
    intro r3 H3 g1 g2 d3 b3
    walk_at "go"
    intro r4 H4 g3 g4 d4 b4
    walk_at "go"
    refine ⟨[.int (1 + r3), .int (1 + r4)], .cons (.int _) (.cons (.int _) .nil), by simp, fun p5 H5 n5 s5 t5 e5 => ?_⟩
    have d5 := d4.same s5
    walk_at "go"
    intro r6 H6 g5 g6 d6 b6
    walk_at "go"
    have ne5 := d4.ne_new n5
    refine ⟨_, _, _, _, rfl, e5.but b6 (b6.dtk d5) ne5.symm, rfl, fun v6 i6 => ?_⟩
    have a6 : Acc K H6 l [] := (((a2.but b3 (b3.dtk d2) ne.symm).but b4 (b4.dtk d3) ne.symm).same s5).but b6 (b6.dtk d5) ne.symm
    have B6 : But D H H6 := B2.trans (b3.trans (b4.trans ((same_but s5).trans b6)))
    obtain ⟨n, rfl, n1, n2⟩ : ∃ n : Nat, v6 = V.int n ∧ 1 ≤ n ∧ n ≤ 63 := by
      split at i6
      · exact ⟨(1 + r4).toNat, by rw [i6.i, Int.toNat_of_nonneg (by omega)], by omega, by omega⟩
      · exact ⟨(1 + r3).toNat, by rw [i6.i, Int.toNat_of_nonneg (by omega)], by omega, by omega⟩
    refine ⟨_, rfl, by omega, by omega, for_range (lo := 0) (n := n) (fun i σ H2 => Hold (∃ (ds : List Deed) (o3 o4 : Option V), σ = [some (.ref D), some (.str "number"), some (.ref l), o3, o4] ∧
        Acc K H2 l (ds.map Deed.d) ∧ ds.length = i ∧ (∀ t ∈ ds, t.Ok) ∧ (∀ t ∈ ds, simpleD t = true) ∧ IsDice K H2 D ∧ But D H H2)) (.mk ⟨[], none, none, rfl, a6, rfl, (fun _ h => by cases h), (fun _ h => by cases h), d6, B6⟩) ?_ ?_⟩
    · rintro i σ H7 hi h
      obtain ⟨ds, o3, o4, rfl, a7, rfl, ok7, k7, d7, B7⟩ := h.out
      walk_at "go"
      intro z8 H8 hz8 d8 b8
      walk_at "go"
      refine ⟨[.str "add", .int z8], .cons (.str _) (.cons (.int _) .nil), by simp, fun p9 H9 s9 t9 i9 => ?_⟩
      have d9 := d8.same s9
      walk_at "go"
      intro z10 H10 hz10 d10 b10
      walk_at "go"
      refine ⟨[.str "times", .int z10], .cons (.str _) (.cons (.int _) .nil), by simp, fun p11 H11 s11 t11 i11 => ?_⟩
      have d11 := d10.same s11
      walk_at "go"
      refine ⟨[.str "minus"], .cons (.str _) .nil, by simp, fun p12 H12 s12 t12 i12 => ?_⟩
      have d12 := d11.same s12
      have j9 := ((i9.u (b10.dtk d9)).u t11).u t12
      have j11 := i11.u t12
      walk_at "go"
      refine ⟨[(Deed.add z8).d, (Deed.times z10).d, Deed.minus.d], .cons j9 (.cons j11 (.cons i12 .nil)), by simp, fun p13 H13 n13 s13 t13 a13 => ?_⟩
      have d13 := d12.same s13
      have ne13 := d12.ne_new n13
      have al13 : Acc K H13 l (ds.map Deed.d) := (((((a7.but b8 (b8.dtk d7) ne.symm).same s9).but b10 (b10.dtk d9) ne.symm).same s11).same s12).same s13
      walk_at "go"
      intro r14 H14 g7 g8 d14 b14
      have a14 := a13.but b14 (b14.dtk d13) ne13.symm
      walk_at "go"
      obtain ⟨e, he, oke, ke⟩ : ∃ e : Deed, [(Deed.add z8).d, (Deed.times z10).d, Deed.minus.d][r14.toNat]? = some e.d ∧ e.Ok ∧ simpleD e = true := by
        have : r14 = 0 ∨ r14 = 1 ∨ r14 = 2 := by omega
        rcases this with rfl | rfl | rfl
        · exact ⟨.add z8, rfl, hz8, rfl⟩
        · exact ⟨.times z10, rfl, hz10, rfl⟩
        · exact ⟨.minus, rfl, trivial, rfl⟩
      refine ⟨_, _, _, r14.toNat, e.d, rfl, a14, rfl, by omega, he, fun v iv => ?_⟩
      walk_at "go"
      have al : Acc K H14 l (ds.map Deed.d) := al13.but b14 (b14.dtk d13) ne.symm
      have B14 : But D H H14 := B7.trans (b8.trans ((same_but s9).trans (b10.trans ((same_but s11).trans ((same_but s12).trans ((same_but s13).trans b14))))))
      refine ⟨_, _, _, _, rfl, rfl, al, iv, by simp; omega, fun H15 b15 t15 a15 => ?_⟩
      refine .mk ⟨ds ++ [e], _, _, rfl, by rw [List.map_append]; exact a15, by rw [List.length_append]; rfl, fun x hx => ?_, fun x hx => ?_, d14.keep t15 fun xs q => b15 _ _ ne q, ?_⟩
      · rcases List.mem_append.mp hx with hx | hx
        · exact ok7 x hx
        · rw [List.mem_singleton.mp hx]; exact oke
      · rcases List.mem_append.mp hx with hx | hx
        · exact k7 x hx
        · rw [List.mem_singleton.mp hx]; exact ke
      · intro b u hb q
        exact b15 _ _ (ne_of_none q nl0) (B14 _ _ hb q)
    · rintro σ H7 h
      obtain ⟨ds, o3, o4, rfl, a7, e7, ok7, k7, d7, B7⟩ := h.out
      walk_at "go"
      intro r8 H8 g7 g8 d8 b8
      have a8 := a7.but b8 (b8.dtk d7) ne.symm
      walk_at "go"
      refine ite_d (fun c => ?_) (fun c => ?_)
      · walk_at "go"
        refine ⟨[.str "both"], .cons (.str _) .nil, by simp, fun p9 H9 s9 t9 i9 => ?_⟩
        have a9 := a8.same s9
        have d9 := d8.same s9
        walk_at "go"
        refine ⟨_, _, _, _, rfl, rfl, a9, i9, by simp; omega, fun H10 b10 t10 a10 => ?_⟩
        walk_at "go"
        refine ⟨_, _, rfl, a10, fun p11 H11 s11 t11 i11 => ?_⟩
        refine q _ H11 (ds ++ [.both]) (.pair .num .num) (by rw [List.map_append]; exact i11) (drawn_num true (by omega) (by omega) ok7 k7) ((d9.keep t10 fun xs q => b10 _ _ ne q).same s11) ?_
        intro b u hb e
        exact s11 _ _ (b10 _ _ (ne_of_none e nl0) (s9 _ _ (b8 _ _ hb (B7 _ _ hb e))))
      · walk_at "go"
        refine ⟨_, _, rfl, a8, fun p11 H11 s11 t11 i11 => ?_⟩
        exact q _ H11 ds .num i11 (by have := drawn_num false (by omega) (by omega) ok7 k7; simpa using this) (d8.same s11) (B7.trans (b8.trans (same_but s11)))
  | pair a b =>
    walk_at "go"
    refine Or.inr ⟨_, 0, 0, _, ik1, rfl, rfl, rfl, fun v iv => ?_⟩
    obtain rfl := iv.s
    walk_at "go"
    refine Or.inr ⟨_, 0, 0, _, ik1, rfl, rfl, rfl, fun v iv => ?_⟩
    obtain rfl := iv.s
    walk_at "go"
    refine ⟨[.str "first"], .cons (.str _) .nil, by simp, fun p2 H2 s2 t2 i2 => ?_⟩
    walk_at "go"
    refine ⟨[.str "second"], .cons (.str _) .nil, by simp, fun p3 H3 s3 t3 i3 => ?_⟩
    walk_at "go"
    refine ⟨[Deed.first.d, Deed.second.d], .cons (i2.u t3) (.cons i3 .nil), by simp, fun p4 H4 n4 s4 t4 a4 => ?_⟩
    have d3 := (d1.same s2).same s3
    have d4 := d3.same s4
    have ne4 := d3.ne_new n4
    walk_at "go"
    intro r5 H5 g1 g2 d5 b5
    have a5 := a4.but b5 (b5.dtk d4) ne4.symm
    walk_at "go"
    obtain ⟨e, c, he, oke, ke, hc⟩ : ∃ (e : Deed) (c : Kd), [Deed.first.d, Deed.second.d][r5.toNat]? = some e.d ∧ e.Ok ∧ kindD e (.pair a b) = some c ∧ c.dp ≤ (Kd.pair a b).dp := by
      have : r5 = 0 ∨ r5 = 1 := by omega
      rcases this with rfl | rfl
      · exact ⟨.first, a, rfl, trivial, rfl, by simp only [Kd.dp]; omega⟩
      · exact ⟨.second, b, rfl, trivial, rfl, by simp only [Kd.dp]; omega⟩
    refine ⟨_, _, _, r5.toNat, e.d, rfl, a5, rfl, by omega, he, fun v iv => ?_⟩
    walk_at "go"
    refine ⟨[e.d], .cons iv .nil, by simp, fun p6 H6 s6 t6 i6 => ?_⟩
    exact q _ H6 [e] c i6 ⟨by simp, by simp, (fun x hx => by rw [List.mem_singleton.mp hx]; exact oke), (by show (kindD e _).bind _ = _; rw [ke]; rfl), by omega, fun _ => hc, mid_one ke (by omega), fun z => (nomatch z)⟩ (d5.same s6)
      (B1.trans ((same_but s2).trans ((same_but s3).trans ((same_but s4).trans (b5.trans (same_but s6))))))
  | row a =>
    have back : ∀ H2, IsDice K H2 D → But D H H2 → Im K H2 vk (Kd.row a).d → True := fun _ _ _ _ => trivial
    by_cases c : Kd.row a = Kd.row Kd.num
    · refine ite_t (decide_eq_true c) ?_
      walk_at "go"
      intro r2 H2 g1 g2 d2 b2
      walk_at "go"
      have ik2 := ik1.u (b2.dtk d1)
      refine ite_d (fun c2 => ?_) (fun c2 => ?_)
      · walk_at "go"
        refine ⟨[.str "sum"], .cons (.str _) .nil, by simp, fun p3 H3 s3 t3 i3 => ?_⟩
        walk_at "go"
        refine ⟨[Deed.sum.d], .cons i3 .nil, by simp, fun p4 H4 s4 t4 i4 => ?_⟩
        cases c
        exact q _ H4 [.sum] .num i4 ⟨by simp, by simp, (fun x hx => by rw [List.mem_singleton.mp hx]; exact trivial), rfl, by decide, fun _ => by decide, mid_one rfl (by decide), fun z => (nomatch z)⟩ ((d2.same s3).same s4)
          (B1.trans (b2.trans ((same_but s3).trans (same_but s4))))
      · walk_at "go"
        refine Or.inr ⟨_, 0, 0, _, ik2, rfl, rfl, rfl, fun v iv => ?_⟩
        obtain rfl := iv.s
        walk_at "go"
        refine ⟨[.str "many"], .cons (.str _) .nil, by simp, fun p3 H3 s3 t3 i3 => ?_⟩
        have d3 := d2.same s3
        walk_at "go"
        intro z4 H4 hz4 d4 b4
        walk_at "go"
        refine ⟨[.str "add", .int z4], .cons (.str _) (.cons (.int _) .nil), by simp, fun p5 H5 s5 t5 i5 => ?_⟩
        walk_at "go"
        refine ⟨[Deed.many.d, (Deed.add z4).d], .cons ((i3.u (b4.dtk d3)).u t5) (.cons i5 .nil), by simp, fun p6 H6 s6 t6 i6 => ?_⟩
        refine q _ H6 [.many, .add z4] .num i6 ⟨by simp, by simp, (fun x hx => ?_), rfl, by simp only [Kd.dp]; omega, fun _ => by simp only [Kd.dp]; omega, mid_two rfl rfl (by simp only [Kd.dp]; omega) (by simp only [Kd.dp]; omega), fun z => (nomatch z)⟩ ((d4.same s5).same s6)
          (B1.trans (b2.trans ((same_but s3).trans (b4.trans ((same_but s5).trans (same_but s6))))))
        rcases List.mem_cons.mp hx with rfl | hx
        · exact trivial
        · rw [List.mem_singleton.mp hx]; exact hz4
    · refine ite_f (decide_eq_false c) ?_
      walk_at "go"
      refine Or.inr ⟨_, 0, 0, _, ik1, rfl, rfl, rfl, fun v iv => ?_⟩
      obtain rfl := iv.s
      walk_at "go"
      refine ⟨[.str "many"], .cons (.str _) .nil, by simp, fun p3 H3 s3 t3 i3 => ?_⟩
      have d3 := d1.same s3
      walk_at "go"
      intro z4 H4 hz4 d4 b4
      walk_at "go"
      refine ⟨[.str "add", .int z4], .cons (.str _) (.cons (.int _) .nil), by simp, fun p5 H5 s5 t5 i5 => ?_⟩
      walk_at "go"
      refine ⟨[Deed.many.d, (Deed.add z4).d], .cons ((i3.u (b4.dtk d3)).u t5) (.cons i5 .nil), by simp, fun p6 H6 s6 t6 i6 => ?_⟩
      refine q _ H6 [.many, .add z4] .num i6 ⟨by simp, by simp, (fun x hx => ?_), rfl, by simp only [Kd.dp]; omega, fun _ => by simp only [Kd.dp]; omega, mid_two rfl rfl (by simp only [Kd.dp]; omega) (by simp only [Kd.dp]; omega), fun z => (nomatch z)⟩ ((d4.same s5).same s6)
        (B1.trans ((same_but s3).trans (b4.trans ((same_but s5).trans (same_but s6)))))
      rcases List.mem_cons.mp hx with rfl | hx
      · exact trivial
      · rw [List.mem_singleton.mp hx]; exact hz4

def spWeave (K : PySem.W.Frag) : Sp := fun vs H Q _ => ∃ (vd : V), vs = [vd] ∧ Hold (∃ (D : Addr), vd = .ref D ∧ IsDice K H D ∧
  ∀ p H' lw lk ls ks many, SqT K H' p [.ref lw, .ref lk, .int many] → Acc K H' lw (ls.map Ln.d) → Acc K H' lk (ks.map Kd.d) → H lw = none → H lk = none → lw ≠ lk → DrawnW ls ks many → IsDice K H' D → But D H H' → Q (.ref p) H')
inductive Wo where
  | map | keep | whil | take | skip
def Wo.s : Wo → Str
  | .map => "map"
  | .keep => "keep"
  | .whil => "while"
  | .take => "take"
  | .skip => "skip"
/-- what stands in a line of the word -/
def Wo.fits (w : Wo) (x : PyData) : Prop := match w with
  | .map => ∃ ds k', x = .tuple (ds.map Deed.d) ∧ DrawnD .num ds .num ∧ k' = Kd.num
  | .keep => ∃ ts, x = .tuple (ts.map Tst.d) ∧ testsCan ts = true
  | .whil => ∃ ts, x = .tuple (ts.map Tst.d) ∧ testsCan ts = true
  | .take => ∃ n, x = .int n ∧ 0 ≤ n ∧ n ≤ 9999
  | .skip => ∃ n, x = .int n ∧ 0 ≤ n ∧ n ≤ 9999
theorem Wo.line {w : Wo} {x : PyData} (h : w.fits x) (n : Nat) (a : Int) (ha : 0 ≤ a) (hn : a < n) : ∃ l, l.d = .tuple [.str w.s, x, .int a] ∧ DrawnL (List.replicate n .num) l .num ∧ two l = false := by
  have hk : (List.replicate n Kd.num)[a.toNat]? = some .num := by
    rw [List.getElem?_replicate, if_pos (by omega)]
  cases w with
  | map =>
    obtain ⟨ds, _, rfl, d, _⟩ := h
    exact ⟨.map ds a, rfl, .mapD ha hk (by decide) d, rfl⟩
  | keep =>
    obtain ⟨ts, rfl, d⟩ := h
    exact ⟨.keep ts a, rfl, .one rfl rfl ha hk d rfl (by decide) (mid_no fun _ _ z => nomatch z), rfl⟩
  | whil =>
    obtain ⟨ts, rfl, d⟩ := h
    exact ⟨.whil ts a, rfl, .one rfl rfl ha hk d rfl (by decide) (mid_no fun _ _ z => nomatch z), rfl⟩
  | take =>
    obtain ⟨m, rfl, m0, m1⟩ := h
    exact ⟨.take m a, rfl, .one rfl rfl ha hk (by show (decide (0 ≤ m) && decide (m ≤ 9999)) = true; rw [decide_eq_true m0, decide_eq_true m1]; rfl) rfl (by decide) (mid_no fun _ _ z => nomatch z), rfl⟩
  | skip =>
    obtain ⟨m, rfl, m0, m1⟩ := h
    exact ⟨.skip m a, rfl, .one rfl rfl ha hk (by show (decide (0 ≤ m) && decide (m ≤ 9999)) = true; rw [decide_eq_true m0, decide_eq_true m1]; rfl) rfl (by decide) (mid_no fun _ _ z => nomatch z), rfl⟩
theorem ok__law_long (T : Tx P K w mg) : FnOk P w K mg base CX0 4 T._law_long.f T._law_long.fd ["_law_d"] (spWeave K) := by
  refine T._law_long.F.ok sc__law_long (fun vs H Q E h => ?_) (fun cdv A outer s H vs Q E hr h => ?_)
  · obtain ⟨a, rfl, _⟩ := h
    rfl
  obtain ⟨vd, rfl, h⟩ := h
  obtain ⟨D, rfl, d0, q⟩ := h.out
  refine ⟨_, (pss_cons (ps_set (i := 1) sc__law_long.nd rfl (by first | exact Or.inl rfl | exact Or.inr rfl) (pe_ld (pa_cons (pe_td (pa_cons pe_str (pa_cons pe_int pa_nil))) pa_nil)))
      (pss_cons (ps_set (i := 2) sc__law_long.nd rfl (by first | exact Or.inl rfl | exact Or.inr rfl) (pe_ix ix_listA (pe_ld (pa_cons pe_str (pa_cons pe_str (pa_cons pe_str (pa_cons pe_str (pa_cons pe_str pa_nil)))))) (pe_call (ok__law_next T) (hr.mono (by decide)) (by rfl) T._law_next.g T._law_next.F.kp T._law_next.b .nil pass0 (pa_cons (pv 0) (pa_cons pe_int pa_nil))) (fun _ _ => rfl)))
      (pss_cons (ps_for PassesOwn.never rfl (pi_range1 (by rfl) T.z_range (pa_cons (pe_op op_add pe_int (pe_call (ok__law_next T) (hr.mono (by decide)) (by rfl) T._law_next.g T._law_next.F.kp T._law_next.b .nil pass0 (pa_cons (pv 0) (pa_cons pe_int pa_nil)))) pa_nil)) (pg_name (i := 3) sc__law_long.nd rfl (by first | exact Or.inl rfl | exact Or.inr rfl)) (pss_cons (ps_set (i := 4) sc__law_long.nd rfl (by first | exact Or.inl rfl | exact Or.inr rfl) (pe_call (ok__law_next T) (hr.mono (by decide)) (by rfl) T._law_next.g T._law_next.F.kp T._law_next.b .nil pass0 (pa_cons (pv 0) (pa_cons pe_int pa_nil))))
      (pss_cons (ps_cut (ps_if (pt_cmpR op_eq (pv 2) pe_str (nomark _)) (pss_cons (ps_set (i := 4) sc__law_long.nd rfl (by first | exact Or.inl rfl | exact Or.inr rfl) (pe_slice sl_tupD (pe_call (ok__law_deeds T) hr (by rfl) T._law_deeds.g T._law_deeds.F.kp T._law_deeds.b .nil pass0 (pa_cons (pv 0) (pa_cons pe_str pa_nil))) po_none (po_some pe_int)))
      (pss_one (ps_set (i := 4) sc__law_long.nd rfl (by first | exact Or.inl rfl | exact Or.inr rfl) (pe_callTy call_tupleA (by rfl) T.z_tuple (by decide +kernel) (pa_cons (pe_lc (own := [("_law_deed", 6)]) (g := gName 6) rfl sc__law_long.nd (pi_tup (pv 4)) (blkOk_by (own := [("_law_deed", 6)]) (N := ["_law_d", "_law_weave_here", "_law_word", "_law_k", "_law_what", "_law_line_here", "_law_deed"]) (sc := defScope s__law_long) (by decide +kernel)) (fun _ _ _ _ _ => pg_name (i := 6) sc__law_long.nd rfl (Or.inl rfl)) (fun _ _ _ _ _ => pts_one (pt_cmpR (show OpR _ _ (rNeD K) from (op_neD hr.units)) (pv 6) (pe_tdK (K := K) rfl (pa_cons pe_str pa_nil)) (nomark _))) (fun _ _ _ _ _ => (pv 6))) pa_nil))))) pss_nil))
      (pss_cons (ps_cut (ps_if (PW.pt (pw_or (pt_cmpR op_eq (pv 2) pe_str (nomark _)) (pw_or1 (pt_cmpR op_eq (pv 2) pe_str (nomark _))))) (pss_one (ps_set (i := 4) sc__law_long.nd rfl (by first | exact Or.inl rfl | exact Or.inr rfl) (pe_call (ok__law_tests T) hr (by rfl) T._law_tests.g T._law_tests.F.kp T._law_tests.b .nil pass0 (pa_cons (pv 0) pa_nil)))) pss_nil))
      (pss_one (ps_expr (pe_bm PySem.F.plainAttrs_list PySem.F.slot_list_append PySem.F.type_list_append mt_appA (pv 1) (pa_cons (pe_td (pa_cons (pv 2) (pa_cons (pv 4) (pa_cons (pe_op op_sub (pe_callB call_lenA (by rfl) T.z_len PySem.boot_len (pa_cons (pv 1) pa_nil)) pe_int) pa_nil)))) pa_nil))))))))
      (pss_one (ps_ret (pe_tr (pa_cons (pv 1) (pa_cons (pe_lc (own := [("_law_line_here", 5)]) (g := gName 5) (tt := tYes) rfl sc__law_long.nd (pi_list (pv 1)) (blkOk_by (own := [("_law_line_here", 5)]) (N := ["_law_d", "_law_weave_here", "_law_word", "_law_k", "_law_what", "_law_line_here", "_law_deed"]) (sc := defScope s__law_long) (by decide +kernel)) (fun _ _ _ _ _ => pg_name (i := 5) sc__law_long.nd rfl (Or.inl rfl)) (fun _ _ _ _ _ => pts_nil) (fun _ _ _ _ _ => pe_str)) (pa_cons pe_int pa_nil))))))))), ?_⟩
  walk_at "go"
  refine ⟨[.str "source", .int 0], .cons (.str _) (.cons (.int _) .nil), by simp, fun p1 H1 s1 t1 i1 => ?_⟩
  have d1 := d0.same s1
  walk_at "go"
  refine ⟨[.tuple [.str "source", .int 0]], .cons i1 .nil, by simp, fun lw H2 n2 s2 t2 a2 => ?_⟩
  have d2 := d1.same s2
  have nw : H lw = none := s1.free n2
  have Dw : D ≠ lw := d0.ne_new nw
  have S2 := s1.trans s2
  walk_at "go"
  refine ⟨[.str "map", .str "keep", .str "while", .str "take", .str "skip"], .cons (.str _) (.cons (.str _) (.cons (.str _) (.cons (.str _) (.cons (.str _) .nil)))), by simp, fun l3 H3 n3 s3 t3 a3 => ?_⟩
  have d3 := d2.same s3
  have ne3 := d2.ne_new n3
  walk_at "go"
  intro r4 H4 e1 e2 d4 b4
  have a4 := a3.but b4 (b4.dtk d3) ne3.symm
  obtain ⟨wo, hwo⟩ : ∃ wo : Wo, [PyData.str "map", .str "keep", .str "while", .str "take", .str "skip"][r4.toNat]? = some (.str wo.s) := by
    have : r4 = 0 ∨ r4 = 1 ∨ r4 = 2 ∨ r4 = 3 ∨ r4 = 4 := by omega
    rcases this with rfl | rfl | rfl | rfl | rfl
    · exact ⟨.map, rfl⟩
    · exact ⟨.keep, rfl⟩
    · exact ⟨.whil, rfl⟩
    · exact ⟨.take, rfl⟩
    · exact ⟨.skip, rfl⟩
  walk_at "go"
  refine ⟨_, _, _, r4.toNat, _, rfl, a4, rfl, by omega, hwo, fun v iv => ?_⟩
  obtain rfl := iv.s
  have aw4 : Acc K H4 lw [(Ln.source 0).d] := (a2.same s3).but b4 (b4.dtk d3) Dw.symm
  have B4 : But D H H4 := (same_but S2).trans ((same_but s3).trans b4)
  walk_at "go"
  intro r5 H5 e3 e4 d5 b5
  have aw5 := aw4.but b5 (b5.dtk d4) Dw.symm
  walk_at "go"
  refine for_range (lo := 0) (n := (1 + r5).toNat) (fun i σ H6 => Hold (∃ (ls : List Ln) (o3 o4 : Option V), σ = [some (.ref D), some (.ref lw), some (.str wo.s), o3, o4, none, none] ∧ Acc K H6 lw (ls.map Ln.d) ∧ ls.length = i + 1 ∧
      GoodW 1 ls (List.replicate (i + 1) .num) ∧ twos ls = 0 ∧ IsDice K H6 D ∧ But D H H6))
    (.mk ⟨[.source 0], none, none, rfl, aw5, rfl, .snoc .nil (by decide) rfl rfl (by decide) (fun ds a k e _ => nomatch e), rfl, d5, B4.trans b5⟩) ?_ ?_
  · intro i σ H6 hi h
    obtain ⟨ls, o3, o4, rfl, a6, l6, g6, t6, d6, B6⟩ := h.out
    walk_at "go"
    intro r7 H7 e5 e6 d7 b7
    have a7 := a6.but b7 (b7.dtk d6) Dw.symm
    have B7 := B6.trans b7
    walk_at "go"
    refine ⟨fun σ H8 => Hold (∃ (x : PyData) (v : V), σ = [some (.ref D), some (.ref lw), some (.str wo.s), some (.int (0 + (i : Int))), some v, none, none] ∧ Im K H8 v x ∧ (wo.s = "map" → Wo.map.fits x) ∧ (wo.s ≠ "map" → x = .int r7) ∧
        Acc K H8 lw (ls.map Ln.d) ∧ IsDice K H8 D ∧ But D H H8), ?_, ?_⟩
    · cases wo with
      | map =>
        walk_at "go"
        refine .mk ⟨d7, .num, .str _, by decide, fun vd H8 ds k' id dd d8 b8 => ?_⟩
        have a8 := a7.but b8 (b8.dtk d7) Dw.symm
        walk_at "go"
        refine ⟨_, id, fun v9 H9 s9 t9 i9 => ?_⟩
        have e63 : cutD (ds.map Deed.d) none (some 63) = (ds.map Deed.d).take 63 := cut_to _ 63
        rw [e63, ← List.map_take] at i9
        obtain ⟨b, xs, rfl, ht, hs⟩ := i9.t
        have len := hs.len
        rw [List.length_map] at len
        have d9 := d8.same s9
        have a9 := a8.same s9
        walk_at "go"
        intro L nL
        refine lc_tup (K := K) (a := b) (xs := xs) (fun j H10 => Hold (Same H9 H10 ∧ Acc K H10 L ((((ds.take 63).take j).filter notBoth).map Deed.d)))
            (.mk ⟨same_new nL, acc_nil upd_same⟩) (fun j H10 _ h => (same_tk h.out.1).t _ _ ht) ?_ ?_
        · intro j y H10 hj h
          obtain ⟨s10, a10⟩ := h.out
          obtain ⟨d, hd, iy⟩ := hs.get hj
          rw [List.getElem?_map] at hd
          obtain ⟨d, hd', rfl⟩ := Option.map_eq_some_iff.mp hd
          have iy10 := iy.u (same_tk s10)
          walk_at "go"
          refine ⟨[.str "both"], .cons (.str _) .nil, by simp, fun p11 H11 s11 t11 i11 => ?_⟩
          refine ⟨d.d, Deed.both.d, (iy10.u t11).p, i11.p, d.shaped, by decide +kernel, ?_⟩
          rw [Deed.eqv]
          refine ⟨_, rfl, ?_⟩
          have s12 := s10.trans s11
          have a12 := a10.same s11
          have lim : (List.map Deed.d (((ds.take 63).take j).filter notBoth)).length < 1000000 := by
            rw [List.length_map]
            have h1 := List.length_filter_le notBoth ((ds.take 63).take j)
            rw [List.length_take, List.length_take] at h1
            omega
          by_cases cn : notBoth d = true
          · refine ite_t cn ?_
            walk_at "go"
            obtain ⟨acc, ea, hla, b13, t13, a13⟩ := a12.push (iy10.u t11) lim
            refine ⟨acc, ea, hla, .mk ⟨same_put s12 nL, ?_⟩⟩
            rw [take_succ hd', List.filter_append, List.map_append]
            have : [d].filter notBoth = [d] := by rw [List.filter_cons_of_pos cn, List.filter_nil]
            rw [this]
            exact a13
          · refine ite_f (Bool.eq_false_iff.mpr cn) ?_
            refine .mk ⟨s12, ?_⟩
            rw [take_succ hd', List.filter_append]
            have : [d].filter notBoth = [] := by rw [List.filter_cons_of_neg cn, List.filter_nil]
            rw [this, List.append_nil]
            exact a12
        · intro H10 h
          obtain ⟨s10, a10⟩ := h.out
          rw [len, List.take_length] at a10
          walk_at "go"
          refine ⟨_, _, rfl, a10, fun v14 H14 s14 t14 i14 => ?_⟩
          obtain ⟨es, bb, rfl, m1, m2, si⟩ := dd.num rfl
          rw [drawn_cut m2 si] at i14
          have ok : ∀ t ∈ es, t.Ok := fun t ht => dd.ok t (List.mem_append.mpr (.inl ht))
          have dn := drawn_num false m1 m2 ok si
          refine .mk ⟨_, _, rfl, i14, fun _ => ⟨es, .num, rfl, by simpa using dn, rfl⟩, fun z => absurd rfl z, (a9.same s10).same s14, (d9.same s10).same s14, B7.trans (b8.trans ((same_but s9).trans ((same_but s10).trans (same_but s14))))⟩
      | _ =>
        walk_at "go"
        exact .mk ⟨.int r7, _, rfl, .int _, fun z => absurd z (by decide +kernel), fun _ => rfl, a7, d7, B7⟩
    intro σ8 H8 h
    obtain ⟨x8, v8, rfl, i8, fm, fo, a8, d8, B8⟩ := h.out
    refine ⟨fun σ H9 => Hold (∃ (x : PyData) (v : V), σ = [some (.ref D), some (.ref lw), some (.str wo.s), some (.int (0 + (i : Int))), some v, none, none] ∧ Im K H9 v x ∧ wo.fits x ∧ Acc K H9 lw (ls.map Ln.d) ∧ IsDice K H9 D ∧ But D H H9), ?_, ?_⟩
    · cases wo with
      | map =>
        walk_at "go"
        exact .mk ⟨_, _, rfl, i8, fm rfl, a8, d8, B8⟩
      | keep =>
        walk_at "go"
        intro vt H9 ts it m1 m2 okt d9 b9
        exact .mk ⟨_, _, rfl, it, ⟨ts, rfl, testsCan_of m1 m2 okt⟩, a8.but b9 (b9.dtk d8) Dw.symm, d9, B8.trans b9⟩
      | whil =>
        walk_at "go"
        intro vt H9 ts it m1 m2 okt d9 b9
        exact .mk ⟨_, _, rfl, it, ⟨ts, rfl, testsCan_of m1 m2 okt⟩, a8.but b9 (b9.dtk d8) Dw.symm, d9, B8.trans b9⟩
      | take =>
        walk_at "go"
        exact .mk ⟨_, _, rfl, i8, ⟨r7, fo (by decide +kernel), e5, by omega⟩, a8, d8, B8⟩
      | skip =>
        walk_at "go"
        exact .mk ⟨_, _, rfl, i8, ⟨r7, fo (by decide +kernel), e5, by omega⟩, a8, d8, B8⟩
    intro σ9 H9 h
    obtain ⟨x9, v9, rfl, i9, f9, a9, d9, B9⟩ := h.out
    walk_at "go"
    refine ⟨_, _, rfl, a9, ?_⟩
    rw [List.length_map, l6]
    obtain ⟨l, el, dl, tl⟩ := Wo.line f9 (i + 1) (((i + 1 : Nat) : Int) - 1) (by omega) (by omega)
    walk_at "go"
    refine ⟨[.str wo.s, x9, .int (((i + 1 : Nat) : Int) - 1)], .cons (.str _) (.cons i9 (.cons (.int _) .nil)), by simp, fun p10 H10 s10 t10 i10 => ?_⟩
    rw [← el] at i10
    have a10 := a9.same s10
    refine ⟨_, _, _, _, rfl, rfl, a10, i10, by rw [List.length_map]; omega, fun H11 b11 t11 a11 => ?_⟩
    refine .mk ⟨ls ++ [l], _, _, rfl, by rw [List.map_append]; exact a11, by rw [List.length_append, l6]; rfl, ?_, ?_, (d9.same s10).keep t11 fun xs e => b11 _ _ Dw e, ?_⟩
    · rw [List.replicate_succ']
      exact g6.more dl
    · unfold twos at *
      rw [List.filter_append, List.length_append, t6, List.filter_cons_of_neg (by rw [tl]; decide), List.filter_nil]
      rfl
    · intro b u hb e
      exact b11 _ _ (ne_of_none e nw) (s10 _ _ (B9 _ _ hb e))
  · intro σ H6 h
    obtain ⟨ls, o3, o4, rfl, a6, l6, g6, t6, d6, B6⟩ := h.out
    obtain ⟨xs, e6, i6⟩ := id a6
    have len := i6.len
    rw [List.length_map] at len
    walk_at "go"
    refine ⟨⟨_, SqL.of e6⟩, fun lk nk => lc_list (K := K) (a := lw) (xs := xs) (fun j H7 => Hold (Same H6 H7 ∧ Acc K H7 lk (List.replicate j (PyData.str "number"))))
        (.mk ⟨same_new nk, acc_nil upd_same⟩) (fun j H7 _ h => SqL.of (h.out.1 _ _ e6)) ?_ ?_⟩
    · intro j y H7 hj h
      obtain ⟨s7, a7⟩ := h.out
      have hj' := (List.getElem?_eq_some_iff.mp hj).1
      walk_at "go"
      obtain ⟨acc, ea, hla, b8, t8, a8⟩ := a7.push (.str "number") (by rw [List.length_replicate]; omega)
      refine ⟨acc, ea, hla, .mk ⟨same_put s7 nk, ?_⟩⟩
      rw [List.replicate_succ']
      exact a8
    · intro H7 h
      obtain ⟨s7, a7⟩ := h.out
      walk_at "go"
      refine ⟨by simp, fun p8 H8 n8 s8 t8 e8 => ?_⟩
      have nkH : H lk = none := by
        cases z : H lk with
        | none => rfl
        | some u =>
          by_cases hD : lk = D
          · obtain ⟨_, eD⟩ := d6.at
            rw [hD, eD] at nk
            cases nk
          · rw [B6 _ _ hD z] at nk
            cases nk
      have wk : lw ≠ lk := ne_of_none e6 nk
      have a8 := a7.same s8
      rw [len, l6] at a8
      refine q p8 H8 lw lk ls (List.replicate ((1 + r5).toNat + 1) .num) 1 (SqT.of e8) ((a6.same s7).same s8) ?_ nw nkH wk ⟨g6, by omega, by omega, by decide, by decide, fun k hk => ?_, by omega⟩ ((d6.same s7).same s8) (B6.trans ((same_but s7).trans (same_but s8)))
      · rw [List.map_replicate]
        exact a8
      · rw [List.eq_of_mem_replicate hk]
        decide

def spLine (K : PySem.W.Frag) : Sp := fun vs H Q _ => ∃ (vd vp : V), vs = [vd, vp] ∧ Hold (∃ (D p : Addr) (ks : List Kd), vd = .ref D ∧ vp = .ref p ∧ IsDice K H D ∧ D ≠ p ∧ Acc K H p (ks.map Kd.d) ∧ 1 ≤ ks.length ∧ ks.length ≤ 100 ∧ (∀ k ∈ ks, k.dp ≤ 2) ∧
  ∀ v H' l k, Im K H' v l.d → DrawnL ks l k → IsDice K H' D → But D H H' → Q v H')
theorem ok__law_line (T : Tx P K w mg) : FnOk P w K mg base CX0 4 T._law_line.f T._law_line.fd ["_law_d", "_law_kinds"] (spLine K) := by
  refine T._law_line.F.ok sc__law_line (fun vs H Q E h => ?_) (fun cdv A outer s H vs Q E hr h => ?_)
  · obtain ⟨a, b, rfl, _⟩ := h
    rfl
  obtain ⟨vd, vp, rfl, h⟩ := h
  obtain ⟨D, p, ks, rfl, rfl, d0, ne, a0, l1, l100, hd, q⟩ := h.out
  refine ⟨_, (pss_cons (ps_set (i := 2) sc__law_line.nd rfl (by first | exact Or.inl rfl | exact Or.inr rfl) (pe_op op_sub (pe_op op_sub (pe_callB call_lenA (by rfl) T.z_len PySem.boot_len (pa_cons (pv 1) pa_nil)) pe_int) (pe_call (ok__law_next T) (hr.mono (by decide)) (by rfl) T._law_next.g T._law_next.F.kp T._law_next.b .nil pass0 (pa_cons (pv 0) (pa_cons (pe_callB (call_min2N rfl) (by rfl) T.z_min (by decide +kernel) (pa_cons pe_int (pa_cons (pe_callB call_lenA (by rfl) T.z_len PySem.boot_len (pa_cons (pv 1) pa_nil)) pa_nil))) pa_nil)))))
      (pss_cons (ps_set (i := 3) sc__law_line.nd rfl (by first | exact Or.inl rfl | exact Or.inr rfl) (pe_call (ok__law_next T) (hr.mono (by decide)) (by rfl) T._law_next.g T._law_next.F.kp T._law_next.b .nil pass0 (pa_cons (pv 0) (pa_cons (pe_callB call_lenA (by rfl) T.z_len PySem.boot_len (pa_cons (pv 1) pa_nil)) pa_nil))))
      (pss_cons (ps_set (i := 4) sc__law_line.nd rfl (by first | exact Or.inl rfl | exact Or.inr rfl) (pe_call (ok__law_next T) (hr.mono (by decide)) (by rfl) T._law_next.g T._law_next.F.kp T._law_next.b .nil pass0 (pa_cons (pv 0) (pa_cons pe_int pa_nil))))
      (pss_cons (ps_set (i := 5) sc__law_line.nd rfl (by first | exact Or.inl rfl | exact Or.inr rfl) (pe_ix ix_listA (pv 1) (pv 2) (fun _ _ => rfl)))
      (pss_cons (ps_set (i := 6) sc__law_line.nd rfl (by first | exact Or.inl rfl | exact Or.inr rfl) (pe_td (pa_cons pe_str (pa_cons (pe_td (pa_cons pe_str (pa_cons pe_str (pa_cons pe_str pa_nil)))) pa_nil))))
      (pss_cons (ps_cut (ps_if (PW.pt (pw_or (pt_cmpR op_eq (pv 4) pe_int (nomark _)) (pw_or1 (pt_cmpR op_eq (pv 4) pe_int (nomark _))))) (pss_cons (ps_set (i := 7) sc__law_line.nd rfl (by first | exact Or.inl rfl | exact Or.inr rfl) (pe_call (ok__law_next T) (hr.mono (by decide)) (by rfl) T._law_next.g T._law_next.F.kp T._law_next.b .nil pass0 (pa_cons (pv 0) (pa_cons pe_int pa_nil))))
      (pss_cons (ps_cut (ps_if (pt_cmpR op_eq (pe_call (ok__law_next T) (hr.mono (by decide)) (by rfl) T._law_next.g T._law_next.F.kp T._law_next.b .nil pass0 (pa_cons (pv 0) (pa_cons pe_int pa_nil))) pe_int (nomark _)) (pss_one (ps_set (i := 7) sc__law_line.nd rfl (by first | exact Or.inl rfl | exact Or.inr rfl) (pe_call (ok__law_next T) (hr.mono (by decide)) (by rfl) T._law_next.g T._law_next.F.kp T._law_next.b .nil pass0 (pa_cons (pv 0) (pa_cons pe_int pa_nil))))) pss_nil))
      (pss_one (ps_ret (pe_td (pa_cons (pe_ix ix_listA (pe_ld (pa_cons pe_str (pa_cons pe_str (pa_cons pe_str pa_nil)))) (pv 4) (fun _ _ => rfl)) (pa_cons (pv 7) (pa_cons (pv 2) pa_nil)))))))) pss_nil))
      (pss_cons (ps_cut (ps_if (PW.pt (pw_and (pt_cmpR op_eq (pv 4) pe_int (nomark _)) (pw_and1 (pt_cmpR (op_inT (hu65 hr)) (pv 5) (pv 6) (by rfl))))) (pss_one (ps_ret (pe_td (pa_cons pe_str (pa_cons (pe_op op_add pe_int (pe_call (ok__law_next T) (hr.mono (by decide)) (by rfl) T._law_next.g T._law_next.F.kp T._law_next.b .nil pass0 (pa_cons (pv 0) (pa_cons pe_int pa_nil)))) (pa_cons (pv 2) pa_nil)))))) pss_nil))
      (pss_cons (ps_cut (ps_if (PW.pt (pw_and (pt_cmpR op_eq (pv 4) pe_int (nomark _)) (pw_and (pt_cmpR (op_inT (hu65 hr)) (pv 5) (pv 6) (by rfl)) (pw_and1 (pt_cmpR (op_inT (hu65 hr)) (pe_ix ix_listA (pv 1) (pv 3) (fun _ _ => rfl)) (pv 6) (by rfl)))))) (pss_one (ps_ret (pe_td (pa_cons pe_str (pa_cons (pv 2) (pa_cons (pv 3) pa_nil)))))) pss_nil))
      (pss_cons (ps_cut (ps_if (pt_cmpR op_eq (pv 4) pe_int (nomark _)) (pss_cons (ps_setLc (i := 8) (own := [("_law_k", 9)]) (g := gName 9) rfl sc__law_line.nd rfl rfl (sw_true rfl rfl rfl (by decide +kernel)) (pi_range1 (by rfl) T.z_range (pa_cons (pe_callB call_lenA (by rfl) T.z_len PySem.boot_len (pa_cons (pv 1) pa_nil)) pa_nil)) (blkOk_by (own := [("_law_k", 9)]) (N := ["_law_d", "_law_kinds", "_law_a", "_law_b", "_law_way", "_law_kind_here", "_law_simple", "_law_many", "_law_same", "_law_k"]) (sc := defScope s__law_line) (by decide +kernel)) (fun _ _ _ _ _ => pg_name (i := 9) sc__law_line.nd rfl (Or.inl rfl)) (fun _ _ _ _ _ => pts_one (pt_cmpR (show OpR _ _ (rEqD K) from (op_eqD hr.units)) (pe_ix (show IxR _ (rIxA K) from ix_listA) (pv 1) (pv 9) (fun _ _ => rfl)) (pv 5) (nomark _))) (fun _ _ _ _ _ => (pv 9)))
      (pss_one (ps_ret (pe_td (pa_cons pe_str (pa_cons (pv 2) (pa_cons (pe_ix ix_listA (pv 8) (pe_op op_mod (pv 3) (pe_callB call_lenA (by rfl) T.z_len PySem.boot_len (pa_cons (pv 8) pa_nil))) (fun _ _ => rfl)) pa_nil))))))) pss_nil))
      (pss_cons (ps_cut (ps_if (PW.pt (pw_or (pt_cmpR (op_neD hr.units) (pv 5) pe_str (nomark _)) (pw_or1 (pt_cmpR op_lt (pv 4) pe_int (nomark _))))) (pss_one (ps_ret (pe_td (pa_cons pe_str (pa_cons (pe_call (ok__law_deeds T) hr (by rfl) T._law_deeds.g T._law_deeds.F.kp T._law_deeds.b .nil pass0 (pa_cons (pv 0) (pa_cons (pv 5) pa_nil))) (pa_cons (pv 2) pa_nil)))))) pss_nil))
      (pss_cons (ps_cut (ps_if (pt_cmpR op_lt (pv 4) pe_int (nomark _)) (pss_one (ps_ret (pe_td (pa_cons (pe_ix ix_listA (pe_ld (pa_cons pe_str (pa_cons pe_str pa_nil))) (pe_op op_fdiv (pv 4) pe_int) (fun _ _ => rfl)) (pa_cons (pe_call (ok__law_tests T) hr (by rfl) T._law_tests.g T._law_tests.F.kp T._law_tests.b .nil pass0 (pa_cons (pv 0) pa_nil)) (pa_cons (pv 2) pa_nil)))))) pss_nil))
      (pss_cons (ps_cut (ps_if (pt_cmpR op_eq (pv 4) pe_int (nomark _)) (pss_one (ps_ret (pe_td (pa_cons pe_str (pa_cons (pe_callB (call_max2N rfl) (by rfl) T.z_max (by decide +kernel) (pa_cons pe_int (pa_cons (pe_call (ok__law_number T) (hr.mono (by decide)) (by rfl) T._law_number.g T._law_number.F.kp T._law_number.b .nil pass0 (pa_cons (pv 0) pa_nil)) pa_nil))) (pa_cons (pv 2) pa_nil)))))) pss_nil))
      (pss_cons (ps_cut (ps_if (pt_cmpR op_eq (pv 4) pe_int (nomark _)) (pss_one (ps_ret (pe_td (pa_cons pe_str (pa_cons (pe_ix ix_listA (pe_ld (pa_cons pe_str (pa_cons pe_str (pa_cons pe_str (pa_cons pe_str pa_nil))))) (pe_call (ok__law_next T) (hr.mono (by decide)) (by rfl) T._law_next.g T._law_next.F.kp T._law_next.b .nil pass0 (pa_cons (pv 0) (pa_cons pe_int pa_nil))) (fun _ _ => rfl)) (pa_cons (pe_call (ok__law_number T) (hr.mono (by decide)) (by rfl) T._law_number.g T._law_number.F.kp T._law_number.b .nil pass0 (pa_cons (pv 0) pa_nil)) (pa_cons (pv 2) pa_nil))))))) pss_nil))
      (pss_cons (ps_cut (ps_if (PW.pt (pw_and (pt_cmpR op_eq (pv 4) pe_int (nomark _)) (pw_and1 (pt_cmpR (op_eqD hr.units) (pe_ix ix_listA (pv 1) (pv 3) (fun _ _ => rfl)) pe_str (nomark _))))) (pss_one (ps_ret (pe_td (pa_cons pe_str (pa_cons (pv 2) (pa_cons (pv 3) pa_nil)))))) pss_nil))
      (pss_one (ps_ret (pe_td (pa_cons pe_str (pa_cons (pe_call (ok__law_deeds T) hr (by rfl) T._law_deeds.g T._law_deeds.F.kp T._law_deeds.b .nil pass0 (pa_cons (pv 0) (pa_cons (pv 5) pa_nil))) (pa_cons (pv 2) pa_nil)))))))))))))))))))), ?_⟩
  -- a = len(kinds) - 1 - next(d, min(3, len(kinds)))
  walk_at "go"
  refine ⟨_, _, rfl, a0, ?_⟩
  walk_at "go"
  refine ⟨_, _, rfl, a0, ?_⟩
  walk_at "go"
  rw [List.length_map]
  walk_at "go"
  intro r1 H1 g1 g2 d1 b1
  have a1 := a0.but b1 (b1.dtk d0) ne.symm
  walk_at "go"
  refine ⟨_, _, rfl, a1, ?_⟩
  walk_at "go"
  rw [List.length_map]
  walk_at "go"
  intro rb H2 g3 g4 d2 b2
  have a2 := a1.but b2 (b2.dtk d1) ne.symm
  walk_at "go"
  intro w H3 g5 g6 d3 b3
  have a3 := a2.but b3 (b3.dtk d2) ne.symm
  have ra0 : 0 ≤ ((ks.length : Int) - 1 - r1) := by omega
  obtain ⟨ka, hka⟩ : ∃ k, ks[((ks.length : Int) - 1 - r1).toNat]? = some k := ⟨_, List.getElem?_eq_getElem (by omega)⟩
  obtain ⟨kb, hkb⟩ : ∃ k, ks[rb.toNat]? = some k := ⟨_, List.getElem?_eq_getElem (by omega)⟩
  have ha' : (ks.map Kd.d)[((ks.length : Int) - 1 - r1).toNat]? = some ka.d := by rw [List.getElem?_map, hka]; rfl
  have hb' : (ks.map Kd.d)[rb.toNat]? = some kb.d := by rw [List.getElem?_map, hkb]; rfl
  have da := hd ka (List.mem_of_getElem? hka)
  have db := hd kb (List.mem_of_getElem? hkb)
  walk_at "go"
  refine ⟨_, _, ((ks.length : Int) - 1 - r1), ((ks.length : Int) - 1 - r1).toNat, _, rfl, a3, rfl, by omega, ha', fun vk ik => ?_⟩
  walk_at "go"
  refine ⟨[.str "pair", .str "number", .str "number"], .cons (.str _) (.cons (.str _) (.cons (.str _) .nil)), by simp, fun p4 H4 s4 t4 i4 => ?_⟩
  walk_at "go"
  refine ⟨[Kd.num.d, (Kd.pair .num .num).d], .cons (.str _) (.cons i4 .nil), by simp, fun p5 H5 s5 t5 i5 => ?_⟩
  have s45 := s4.trans s5
  have d5 := (d3.same s4).same s5
  have a5 := (a3.same s4).same s5
  have ik5 := (ik.u t4).u t5
  have B5 : But D H H5 := b1.trans (b2.trans (b3.trans (same_but s45)))
  clear ik i4 a0 a1 a2 a3
  -- what holds at each test
  have fin : ∀ (v : V) H' l k, Im K H' v l.d → DrawnL ks l k → IsDice K H' D → But D H5 H' → Q v H' := fun v H' l k i d ds b => q v H' l k i d ds (B5.trans b)
  refine ⟨fun σ H' => Hold (σ = [some (.ref D), some (.ref p), some (.int ((ks.length : Int) - 1 - r1)), some (.int rb), some (.int w), some vk, some (.ref p5), none, none, none] ∧ H5 = H'), ?_, ?_⟩
  · by_cases w1 : w = 1
    · subst w1
      walk_at "go"
      intro m5 H6 e1 e2 d6 b6
      walk_at "go"
      refine ⟨fun σ H' => Hold (∃ m : Int, σ = [some (.ref D), some (.ref p), some (.int ((ks.length : Int) - 1 - r1)), some (.int rb), some (.int 1), some vk, some (.ref p5), some (.int m), none, none] ∧ 0 ≤ m ∧ m ≤ 9999 ∧ IsDice K H' D ∧ But D H5 H'), ?_, ?_⟩
      · walk_at "go"
        intro r7 H7 e3 e4 d7 b7
        walk_at "go"
        refine ite_d (fun c => ?_) (fun c => ?_)
        · walk_at "go"
          intro m8 H8 e5 e6 d8 b8
          exact .mk ⟨m8, rfl, e5, by omega, d8, b6.trans (b7.trans b8)⟩
        · walk_at "go"
          exact .mk ⟨m5, rfl, e1, by omega, d7, b6.trans b7⟩
      intro σ' H' h
      obtain ⟨m, rfl, m0, m1, d9, b9⟩ := h.out
      walk_at "go"
      refine ⟨[.str "", .str "take", .str "skip"], .cons (.str _) (.cons (.str _) (.cons (.str _) .nil)), by simp, fun l10 H10 n10 s10 t10 a10 => ?_⟩
      walk_at "go"
      refine ⟨_, _, _, 1, _, rfl, a10, rfl, rfl, rfl, fun v iv => ?_⟩
      obtain rfl := iv.s
      walk_at "go"
      refine ⟨[.str "take", .int m, .int ((ks.length : Int) - 1 - r1)], .cons (.str _) (.cons (.int _) (.cons (.int _) .nil)), by simp, fun p11 H11 s11 t11 i11 => ?_⟩
      exact fin _ H11 (.take m ((ks.length : Int) - 1 - r1)) ka i11 (.one rfl rfl ra0 hka (by show (decide (0 ≤ m) && decide (m ≤ 9999)) = true; rw [decide_eq_true m0, decide_eq_true m1]; rfl) rfl da (mid_no fun _ _ z => nomatch z))
        ((d9.same s10).same s11) (b9.trans ((same_but s10).trans (same_but s11)))
    by_cases w2 : w = 2
    · subst w2
      walk_at "go"
      intro m5 H6 e1 e2 d6 b6
      walk_at "go"
      refine ⟨fun σ H' => Hold (∃ m : Int, σ = [some (.ref D), some (.ref p), some (.int ((ks.length : Int) - 1 - r1)), some (.int rb), some (.int 2), some vk, some (.ref p5), some (.int m), none, none] ∧ 0 ≤ m ∧ m ≤ 9999 ∧ IsDice K H' D ∧ But D H5 H'), ?_, ?_⟩
      · walk_at "go"
        intro r7 H7 e3 e4 d7 b7
        walk_at "go"
        refine ite_d (fun c => ?_) (fun c => ?_)
        · walk_at "go"
          intro m8 H8 e5 e6 d8 b8
          exact .mk ⟨m8, rfl, e5, by omega, d8, b6.trans (b7.trans b8)⟩
        · walk_at "go"
          exact .mk ⟨m5, rfl, e1, by omega, d7, b6.trans b7⟩
      intro σ' H' h
      obtain ⟨m, rfl, m0, m1, d9, b9⟩ := h.out
      walk_at "go"
      refine ⟨[.str "", .str "take", .str "skip"], .cons (.str _) (.cons (.str _) (.cons (.str _) .nil)), by simp, fun l10 H10 n10 s10 t10 a10 => ?_⟩
      walk_at "go"
      refine ⟨_, _, _, 2, _, rfl, a10, rfl, rfl, rfl, fun v iv => ?_⟩
      obtain rfl := iv.s
      walk_at "go"
      refine ⟨[.str "skip", .int m, .int ((ks.length : Int) - 1 - r1)], .cons (.str _) (.cons (.int _) (.cons (.int _) .nil)), by simp, fun p11 H11 s11 t11 i11 => ?_⟩
      exact fin _ H11 (.skip m ((ks.length : Int) - 1 - r1)) ka i11 (.one rfl rfl ra0 hka (by show (decide (0 ≤ m) && decide (m ≤ 9999)) = true; rw [decide_eq_true m0, decide_eq_true m1]; rfl) rfl da (mid_no fun _ _ z => nomatch z))
        ((d9.same s10).same s11) (b9.trans ((same_but s10).trans (same_but s11)))
    walk_at "go"
    refine ite_f (dv_f w1) ?_
    walk_at "go"
    refine ite_f (dv_f w2) ?_
    walk_at "go"
    exact .mk ⟨rfl, rfl⟩
  intro σ' H' h
  obtain ⟨rfl, rfl⟩ := h.out
  refine ⟨fun σ H' => Hold (σ = [some (.ref D), some (.ref p), some (.int ((ks.length : Int) - 1 - r1)), some (.int rb), some (.int w), some vk, some (.ref p5), none, none, none] ∧ H5 = H'), ?_, ?_⟩
  · by_cases w3 : w = 3
    · subst w3
      walk_at "go"
      refine ⟨ka.d, _, ik5, i5, Kd.shaped (by omega), by decide +kernel, ?_⟩
      rw [simple_any]
      refine ⟨_, rfl, ?_⟩
      by_cases cs : simpleK ka = true
      · refine ite_t cs ?_
        walk_at "go"
        intro r6 H6 e1 e2 d6 b6
        walk_at "go"
        refine ⟨[.str "window", .int (1 + r6), .int ((ks.length : Int) - 1 - r1)], .cons (.str _) (.cons (.int _) (.cons (.int _) .nil)), by simp, fun p11 H11 s11 t11 i11 => ?_⟩
        have := simple_dp cs
        exact fin _ H11 (.window (1 + r6) ((ks.length : Int) - 1 - r1)) (.row ka) i11 (.one rfl rfl ra0 hka (by show (decide (1 ≤ 1 + r6) && decide (1 + r6 ≤ 9)) = true; rw [decide_eq_true (by omega), decide_eq_true (by omega)]; rfl) rfl (by simp only [Kd.dp]; omega) (mid_no fun _ _ z => nomatch z))
          (d6.same s11) (b6.trans (same_but s11))
      · refine ite_f (Bool.eq_false_iff.mpr cs) ?_
        walk_at "go"
        exact .mk ⟨rfl, rfl⟩
    · walk_at "go"
      refine ite_f (dv_f w3) ?_
      walk_at "go"
      exact .mk ⟨rfl, rfl⟩
  intro σ' H' h
  obtain ⟨rfl, rfl⟩ := h.out
  refine ⟨fun σ H' => Hold (σ = [some (.ref D), some (.ref p), some (.int ((ks.length : Int) - 1 - r1)), some (.int rb), some (.int w), some vk, some (.ref p5), none, none, none] ∧ H5 = H'), ?_, ?_⟩
  · by_cases w4 : w = 4
    · subst w4
      walk_at "go"
      refine ⟨ka.d, _, ik5, i5, Kd.shaped (by omega), by decide +kernel, ?_⟩
      rw [simple_any]
      refine ⟨_, rfl, ?_⟩
      by_cases cs : simpleK ka = true
      · refine ite_t cs ?_
        walk_at "go"
        refine ⟨_, _, _, rb.toNat, _, rfl, a5, rfl, by omega, hb', fun vb ib => ?_⟩
        walk_at "go"
        refine ⟨kb.d, _, ib, i5, Kd.shaped (by omega), by decide +kernel, ?_⟩
        rw [simple_any]
        refine ⟨_, rfl, ?_⟩
        by_cases cb : simpleK kb = true
        · refine ite_t cb ?_
          walk_at "go"
          refine ⟨[.str "pair", .int ((ks.length : Int) - 1 - r1), .int rb], .cons (.str _) (.cons (.int _) (.cons (.int _) .nil)), by simp, fun p11 H11 s11 t11 i11 => ?_⟩
          have := simple_dp cs
          have := simple_dp cb
          exact fin _ H11 (.pair ((ks.length : Int) - 1 - r1) rb) (.pair ka kb) i11 (.two rfl rfl ra0 hka g3 hkb rfl rfl (by simp only [Kd.dp]; omega) (mid_no fun _ _ z => nomatch z))
            (d5.same s11) (same_but s11)
        · refine ite_f (Bool.eq_false_iff.mpr cb) ?_
          walk_at "go"
          exact .mk ⟨rfl, rfl⟩
      · refine ite_f (Bool.eq_false_iff.mpr cs) ?_
        walk_at "go"
        exact .mk ⟨rfl, rfl⟩
    · walk_at "go"
      refine ite_f (dv_f w4) ?_
      walk_at "go"
      exact .mk ⟨rfl, rfl⟩
  intro σ' H' h
  obtain ⟨rfl, rfl⟩ := h.out
  refine ⟨fun σ H' => Hold (σ = [some (.ref D), some (.ref p), some (.int ((ks.length : Int) - 1 - r1)), some (.int rb), some (.int w), some vk, some (.ref p5), none, none, none] ∧ H5 = H'), ?_, ?_⟩
  · by_cases w5 : w = 5
    · subst w5
      walk_at "go"
      refine ⟨_, _, rfl, a5, ?_⟩
      rw [List.length_map]
      walk_at "go"
      intro l nl
      refine lc_range (lo := 0) (n := ks.length) (fun i H6 => Hold (∃ ns : List Int, Acc K H6 l (ns.map PyData.int) ∧ ns.length ≤ i ∧ (∀ n ∈ ns, 0 ≤ n ∧ ks[n.toNat]? = some ka) ∧ Same H5 H6 ∧ (((ks.length : Int) - 1 - r1).toNat < i → ns ≠ [])))
        (.mk ⟨[], acc_nil upd_same, Nat.le_refl _, (fun _ h => by cases h), same_new nl, fun h => absurd h (Nat.not_lt_zero _)⟩) ?_ ?_
      · intro i H6 hi h
        obtain ⟨ns, a6, l6, n6, s6, e6⟩ := h.out
        have hi' : ks[i]? = some ks[i] := List.getElem?_eq_getElem hi
        walk_at "go"
        refine ⟨_, _, _, i, ks[i].d, rfl, a5.same s6, rfl, by omega, by rw [List.getElem?_map, hi']; rfl, fun vi ii => ?_⟩
        walk_at "go"
        have dki := hd _ (List.mem_of_getElem? hi')
        refine ⟨ks[i].d, ka.d, ii.p, (ik5.u (same_tk s6)).p, Kd.shaped (by omega), Kd.shaped (by omega), ?_⟩
        rw [Kd.eqv]
        refine ⟨_, rfl, ?_⟩
        by_cases ce : ks[i] = ka
        · refine ite_t (decide_eq_true ce) ?_
          walk_at "go"
          obtain ⟨acc, ea, hla, b9, t9, a9⟩ := a6.push (.int (0 + (i : Int))) (by rw [List.length_map]; omega)
          refine ⟨acc, ea, hla, .mk ⟨ns ++ [0 + (i : Int)], by rw [List.map_append]; exact a9, by rw [List.length_append]; simp; omega, fun n hn => ?_, same_put s6 nl, fun _ => by simp⟩⟩
          rcases List.mem_append.mp hn with hn | hn
          · exact n6 n hn
          · rw [List.mem_singleton.mp hn]
            refine ⟨by omega, ?_⟩
            have : (0 + (i : Int)).toNat = i := by omega
            rw [this, hi', ce]
        · refine ite_f (decide_eq_false ce) ?_
          refine .mk ⟨ns, a6, by omega, n6, s6, fun h => ?_⟩
          by_cases hh : ((ks.length : Int) - 1 - r1).toNat = i
          · rw [hh, hi'] at hka
            exact absurd (Option.some.inj hka) ce
          · exact e6 (by omega)
      · intro H6 h
        obtain ⟨ns, a6, l6, n6, s6, e6⟩ := h.out
        have hne : ns ≠ [] := e6 (by omega)
        have hlen : 0 < ns.length := List.length_pos_iff.mpr hne
        walk_at "go"
        refine ⟨_, _, rfl, a6, ?_⟩
        rw [List.length_map]
        walk_at "go"
        have q0 : 0 ≤ rb % (ns.length : Int) := Int.emod_nonneg _ (by omega)
        have q1 : rb % (ns.length : Int) < ns.length := Int.emod_lt_of_pos _ (by omega)
        obtain ⟨n, hn⟩ : ∃ n, ns[(rb % (ns.length : Int)).toNat]? = some n := ⟨_, List.getElem?_eq_getElem (by omega)⟩
        obtain ⟨n0, nk⟩ := n6 n (List.mem_of_getElem? hn)
        refine ⟨_, _, _, (rb % (ns.length : Int)).toNat, .int n, rfl, a6, rfl, by omega, by rw [List.getElem?_map, hn]; rfl, fun v iv => ?_⟩
        obtain rfl := iv.i
        walk_at "go"
        refine ⟨[.str "chain", .int ((ks.length : Int) - 1 - r1), .int n], .cons (.str _) (.cons (.int _) (.cons (.int _) .nil)), by simp, fun p11 H11 s11 t11 i11 => ?_⟩
        exact fin _ H11 (.chain ((ks.length : Int) - 1 - r1) n) ka i11 (.two rfl rfl ra0 hka n0 nk rfl (if_pos rfl) da (mid_no fun _ _ z => nomatch z))
          ((d5.same s6).same s11) ((same_but s6).trans (same_but s11))
    · walk_at "go"
      refine ite_f (dv_f w5) ?_
      walk_at "go"
      exact .mk ⟨rfl, rfl⟩
  intro σ' H' h
  obtain ⟨rfl, rfl⟩ := h.out
  refine ⟨fun σ H' => Hold (σ = [some (.ref D), some (.ref p), some (.int ((ks.length : Int) - 1 - r1)), some (.int rb), some (.int w), some vk, some (.ref p5), none, none, none] ∧ H5 = H' ∧ ka = .num ∧ 1 ≤ w), ?_, ?_⟩
  · walk_at "go"
    refine ⟨ka.d, Kd.num.d, ik5.p, .str _, Kd.shaped (by omega), by decide +kernel, ?_⟩
    rw [Kd.eqv]
    refine ⟨_, rfl, ?_⟩
    by_cases ck : ka = .num
    · refine ite_f (by rw [decide_eq_true ck]; rfl) ?_
      walk_at "go"
      by_cases cw : w < 1
      · refine ite_t (decide_eq_true cw) ?_
        walk_at "go"
        refine .mk ⟨d5, ka, ik5, by omega, fun vd H6 ds k' id dd d6 b6 => ?_⟩
        walk_at "go"
        refine ⟨[.str "map", .tuple (ds.map Deed.d), .int ((ks.length : Int) - 1 - r1)], .cons (.str _) (.cons id (.cons (.int _) .nil)), by simp, fun p11 H11 s11 t11 i11 => ?_⟩
        exact fin _ H11 (.map ds ((ks.length : Int) - 1 - r1)) k' i11 (.mapD ra0 hka da dd) (d6.same s11) (b6.trans (same_but s11))
      · refine ite_f (decide_eq_false cw) ?_
        walk_at "go"
        exact .mk ⟨rfl, rfl, ck, by omega⟩
    · refine ite_t (by rw [decide_eq_false ck]; rfl) ?_
      walk_at "go"
      refine .mk ⟨d5, ka, ik5, by omega, fun vd H6 ds k' id dd d6 b6 => ?_⟩
      walk_at "go"
      refine ⟨[.str "map", .tuple (ds.map Deed.d), .int ((ks.length : Int) - 1 - r1)], .cons (.str _) (.cons id (.cons (.int _) .nil)), by simp, fun p11 H11 s11 t11 i11 => ?_⟩
      exact fin _ H11 (.map ds ((ks.length : Int) - 1 - r1)) k' i11 (.mapD ra0 hka da dd) (d6.same s11) (b6.trans (same_but s11))
  intro σ' H' h
  obtain ⟨rfl, rfl, ck, cw⟩ := h.out
  subst ck
  refine ⟨fun σ H' => Hold (σ = [some (.ref D), some (.ref p), some (.int ((ks.length : Int) - 1 - r1)), some (.int rb), some (.int w), some vk, some (.ref p5), none, none, none] ∧ H5 = H'), ?_, ?_⟩
  · walk_at "go"
    by_cases w8 : w < 8
    · refine ite_t (decide_eq_true w8) ?_
      walk_at "go"
      refine ⟨[.str "keep", .str "while"], .cons (.str _) (.cons (.str _) .nil), by simp, fun l6 H6 n6 s6 t6 a6 => ?_⟩
      have d6 := d5.same s6
      have b6 : But D H5 H6 := same_but s6
      walk_at "go"
      have zz : w / 7 = 0 ∨ w / 7 = 1 := by omega
      rcases zz with z0 | z1
      · refine ⟨_, _, _, 0, _, rfl, a6, rfl, (by omega), rfl, fun v iv => ?_⟩
        obtain rfl := iv.s
        walk_at "go"
        intro vt H7 ts it m1 m2 okt d7 b7
        walk_at "go"
        refine ⟨[.str "keep", .tuple (ts.map Tst.d), .int ((ks.length : Int) - 1 - r1)], .cons (.str _) (.cons it (.cons (.int _) .nil)), by simp, fun p11 H11 s11 t11 i11 => ?_⟩
        exact fin _ H11 (.keep ts ((ks.length : Int) - 1 - r1)) .num i11 (.one rfl rfl ra0 hka (testsCan_of m1 m2 okt) rfl (by decide) (mid_no fun _ _ z => nomatch z)) (d7.same s11) (b6.trans (b7.trans (same_but s11)))
      · refine ⟨_, _, _, 1, _, rfl, a6, rfl, (by omega), rfl, fun v iv => ?_⟩
        obtain rfl := iv.s
        walk_at "go"
        intro vt H7 ts it m1 m2 okt d7 b7
        walk_at "go"
        refine ⟨[.str "while", .tuple (ts.map Tst.d), .int ((ks.length : Int) - 1 - r1)], .cons (.str _) (.cons it (.cons (.int _) .nil)), by simp, fun p11 H11 s11 t11 i11 => ?_⟩
        exact fin _ H11 (.whil ts ((ks.length : Int) - 1 - r1)) .num i11 (.one rfl rfl ra0 hka (testsCan_of m1 m2 okt) rfl (by decide) (mid_no fun _ _ z => nomatch z)) (d7.same s11) (b6.trans (b7.trans (same_but s11)))
    · refine ite_f (decide_eq_false w8) ?_
      walk_at "go"
      exact .mk ⟨rfl, rfl⟩
  intro σ' H' h
  obtain ⟨rfl, rfl⟩ := h.out
  refine ⟨fun σ H' => Hold (σ = [some (.ref D), some (.ref p), some (.int ((ks.length : Int) - 1 - r1)), some (.int rb), some (.int w), some vk, some (.ref p5), none, none, none] ∧ H5 = H'), ?_, ?_⟩
  · walk_at "go"
    by_cases w8 : w = 8
    · subst w8
      walk_at "go"
      intro z6 H6 hz6 d6 b6
      walk_at "go"
      obtain ⟨y0, y1⟩ := hz6
      refine ⟨[.str "group", .int (max 1 z6), .int ((ks.length : Int) - 1 - r1)], .cons (.str _) (.cons (.int _) (.cons (.int _) .nil)), by simp, fun p11 H11 s11 t11 i11 => ?_⟩
      exact fin _ H11 (.group (max 1 z6) ((ks.length : Int) - 1 - r1)) (.pair .num (.row .num)) i11 (.one rfl rfl ra0 hka (by show (decide (1 ≤ max 1 z6) && isNum (max 1 z6)) = true; rw [decide_eq_true (by omega), isNum_iff.mpr ⟨by omega, by omega⟩]; rfl) rfl (by decide) (mid_no fun _ _ z => nomatch z))
        (d6.same s11) (b6.trans (same_but s11))
    · walk_at "go"
      refine ite_f (dv_f w8) ?_
      walk_at "go"
      exact .mk ⟨rfl, rfl⟩
  intro σ' H' h
  obtain ⟨rfl, rfl⟩ := h.out
  refine ⟨fun σ H' => Hold (σ = [some (.ref D), some (.ref p), some (.int ((ks.length : Int) - 1 - r1)), some (.int rb), some (.int w), some vk, some (.ref p5), none, none, none] ∧ H5 = H'), ?_, ?_⟩
  · walk_at "go"
    by_cases w9 : w = 9
    · subst w9
      walk_at "go"
      refine ⟨[.str "add", .str "times", .str "least", .str "most"], .cons (.str _) (.cons (.str _) (.cons (.str _) (.cons (.str _) .nil))), by simp, fun l6 H6 n6 s6 t6 a6 => ?_⟩
      have d6 := d5.same s6
      have ne6 := d5.ne_new n6
      walk_at "go"
      intro r7 H7 e1 e2 d7 b7
      have a7 := a6.but b7 (b7.dtk d6) ne6.symm
      obtain ⟨f, hf⟩ : ∃ f : Fw, [PyData.str "add", .str "times", .str "least", .str "most"][r7.toNat]? = some (.str f.s) := by
        have : r7 = 0 ∨ r7 = 1 ∨ r7 = 2 ∨ r7 = 3 := by omega
        rcases this with rfl | rfl | rfl | rfl
        · exact ⟨.add, rfl⟩
        · exact ⟨.times, rfl⟩
        · exact ⟨.least, rfl⟩
        · exact ⟨.most, rfl⟩
      walk_at "go"
      refine ⟨_, _, _, r7.toNat, _, rfl, a7, rfl, by omega, hf, fun v iv => ?_⟩
      obtain rfl := iv.s
      walk_at "go"
      intro z8 H8 hz8 d8 b8
      walk_at "go"
      refine ⟨[.str "fold", .str f.s, .int z8, .int ((ks.length : Int) - 1 - r1)], .cons (.str _) (.cons (.str _) (.cons (.int _) (.cons (.int _) .nil))), by simp, fun p11 H11 s11 t11 i11 => ?_⟩
      exact fin _ H11 (.fold f z8 ((ks.length : Int) - 1 - r1)) .num i11 (.one rfl rfl ra0 hka (isNum_iff.mpr hz8) rfl (by decide) (mid_no fun _ _ z => nomatch z))
        (d8.same s11) ((same_but s6).trans (b7.trans (b8.trans (same_but s11))))
    · walk_at "go"
      refine ite_f (dv_f w9) ?_
      walk_at "go"
      exact .mk ⟨rfl, rfl⟩
  intro σ' H' h
  obtain ⟨rfl, rfl⟩ := h.out
  refine ⟨fun σ H' => Hold (σ = [some (.ref D), some (.ref p), some (.int ((ks.length : Int) - 1 - r1)), some (.int rb), some (.int w), some vk, some (.ref p5), none, none, none] ∧ H5 = H'), ?_, ?_⟩
  · walk_at "go"
    by_cases w10 : w = 10
    · subst w10
      walk_at "go"
      refine ⟨_, _, _, rb.toNat, _, rfl, a5, rfl, by omega, hb', fun vb ib => ?_⟩
      walk_at "go"
      refine ⟨kb.d, Kd.num.d, ib.p, .str _, Kd.shaped (by omega), by decide +kernel, ?_⟩
      rw [Kd.eqv]
      refine ⟨_, rfl, ?_⟩
      by_cases cb : kb = .num
      · refine ite_t (decide_eq_true cb) ?_
        subst cb
        walk_at "go"
        refine ⟨[.str "merge", .int ((ks.length : Int) - 1 - r1), .int rb], .cons (.str _) (.cons (.int _) (.cons (.int _) .nil)), by simp, fun p11 H11 s11 t11 i11 => ?_⟩
        exact fin _ H11 (.merge ((ks.length : Int) - 1 - r1) rb) .num i11 (.two rfl rfl ra0 hka g3 hkb rfl rfl (by decide) (mid_no fun _ _ z => nomatch z))
          (d5.same s11) (same_but s11)
      · refine ite_f (decide_eq_false cb) ?_
        walk_at "go"
        exact .mk ⟨rfl, rfl⟩
    · walk_at "go"
      refine ite_f (dv_f w10) ?_
      walk_at "go"
      exact .mk ⟨rfl, rfl⟩
  intro σ' H' h
  obtain ⟨rfl, rfl⟩ := h.out
  walk_at "go"
  refine .mk ⟨d5, .num, ik5, by omega, fun vd H6 ds k' id dd d6 b6 => ?_⟩
  walk_at "go"
  refine ⟨[.str "map", .tuple (ds.map Deed.d), .int ((ks.length : Int) - 1 - r1)], .cons (.str _) (.cons id (.cons (.int _) .nil)), by simp, fun p11 H11 s11 t11 i11 => ?_⟩
  exact fin _ H11 (.map ds ((ks.length : Int) - 1 - r1)) k' i11 (.mapD ra0 hka da dd) (d6.same s11) (b6.trans (same_but s11))

def spLKind (K : PySem.W.Frag) : Sp := fun vs H Q _ => ∃ (v vp : V), vs = [v, vp] ∧ Hold (∃ (l : Ln) (p : Addr) (ks : List Kd) (k : Kd), vp = .ref p ∧ Im K H v l.d ∧ Acc K H p (ks.map Kd.d) ∧ (∀ a ∈ l.names, 0 ≤ a) ∧ kindL l ks = some k ∧ ∀ u H', Same H H' → Im K H' u k.d → Q u H')
theorem ok__law_kind (T : Tx P K w mg) : FnOk P w K mg base CX0 1 T._law_kind.f T._law_kind.fd ["_law_line_here", "_law_kinds"] (spLKind K) := by
  refine T._law_kind.F.ok sc__law_kind (fun vs H Q E h => ?_) (fun cdv A outer s H vs Q E hr h => ?_)
  · obtain ⟨a, b, rfl, _⟩ := h
    rfl
  obtain ⟨v, vp, rfl, h⟩ := h
  obtain ⟨l, p, ks, k, rfl, iv, a0, hn, hk, q⟩ := h.out
  obtain ⟨kn, e1, e2⟩ := kindL_some hk
  obtain ⟨lkn, fkn⟩ := namedK_at e1
  have at_ : ∀ (j : Nat) (a : Int), l.names[j]? = some a → ∃ k', kn[j]? = some k' ∧ 0 ≤ a ∧ (ks.map Kd.d)[a.toNat]? = some k'.d := fun j a h => by
    obtain ⟨k', h1, h2⟩ := fkn j a h
    exact ⟨k', h2, hn a (List.mem_of_getElem? h), by rw [List.getElem?_map, h1]; rfl⟩
  refine ⟨_, (pss_cons (ps_set (i := 2) sc__law_kind.nd rfl (by first | exact Or.inl rfl | exact Or.inr rfl) (pe_ix ix_tupD (pv 0) pe_int (fun _ _ => rfl)))
      (pss_cons (ps_if (pt_cmpR op_eq (pv 2) pe_str (nomark _)) (pss_one (ps_ret (pe_td (pa_cons pe_str (pa_cons (pe_ix ix_listA (pv 1) (pe_ix ix_tupD (pv 0) pe_int (fun _ _ => rfl)) (fun _ _ => rfl)) (pa_cons (pe_ix ix_listA (pv 1) (pe_ix ix_tupD (pv 0) pe_int (fun _ _ => rfl)) (fun _ _ => rfl)) pa_nil)))))) pss_nil)
      (pss_cons (ps_if (pt_cmpR op_eq (pv 2) pe_str (nomark _)) (pss_one (ps_ret (pe_ix ix_listA (pv 1) (pe_ix ix_tupD (pv 0) pe_int (fun _ _ => rfl)) (fun _ _ => rfl)))) pss_nil)
      (pss_cons (ps_if (pt_cmpR op_eq (pv 2) pe_str (nomark _)) (pss_one (ps_ret (pe_td (pa_cons pe_str (pa_cons (pe_ix ix_listA (pv 1) (pe_ix ix_tupD (pv 0) pe_int (fun _ _ => rfl)) (fun _ _ => rfl)) pa_nil))))) pss_nil)
      (pss_cons (ps_if (pt_cmpR op_eq (pv 2) pe_str (nomark _)) (pss_one (ps_ret (pe_td (pa_cons pe_str (pa_cons pe_str (pa_cons (pe_td (pa_cons pe_str (pa_cons pe_str pa_nil))) pa_nil)))))) pss_nil)
      (pss_cons (ps_if (PW.pt (pw_or (pt_cmpR op_eq (pv 2) pe_str (nomark _)) (pw_or1 (pt_cmpR op_eq (pv 2) pe_str (nomark _))))) (pss_one (ps_ret (pe_ix ix_listA (pv 1) (pe_ix ix_tupD (pv 0) pe_int (fun _ _ => rfl)) (fun _ _ => rfl)))) pss_nil)
      (pss_cons (ps_if (pt_cmpR op_ne (pv 2) pe_str (nomark _)) (pss_one (ps_ret pe_str)) pss_nil)
      (pss_cons (ps_set (i := 3) sc__law_kind.nd rfl (by first | exact Or.inl rfl | exact Or.inr rfl) (pe_ix ix_listA (pv 1) (pe_ix ix_tupD (pv 0) pe_int (fun _ _ => rfl)) (fun _ _ => rfl)))
      (pss_cons (ps_for PassesOwn.never rfl (pi_tup (pe_ix ix_tupD (pv 0) pe_int (fun _ _ => rfl))) (pg_name (i := 4) sc__law_kind.nd rfl (by first | exact Or.inl rfl | exact Or.inr rfl)) (pss_one (ps_if (pt_cmpR op_eq (pe_ix ix_tupD (pv 4) pe_int (fun _ _ => rfl)) pe_str (nomark _)) (pss_one (ps_set (i := 3) sc__law_kind.nd rfl (by first | exact Or.inl rfl | exact Or.inr rfl) (pe_td (pa_cons pe_str (pa_cons (pv 3) (pa_cons (pv 3) pa_nil)))))) (pss_one (ps_if (pt_cmpR op_eq (pe_ix ix_tupD (pv 4) pe_int (fun _ _ => rfl)) pe_str (nomark _)) (pss_one (ps_set (i := 3) sc__law_kind.nd rfl (by first | exact Or.inl rfl | exact Or.inr rfl) (pe_ix ix_tupD (pv 3) pe_int (fun _ _ => rfl)))) (pss_one (ps_if (pt_cmpR op_eq (pe_ix ix_tupD (pv 4) pe_int (fun _ _ => rfl)) pe_str (nomark _)) (pss_one (ps_set (i := 3) sc__law_kind.nd rfl (by first | exact Or.inl rfl | exact Or.inr rfl) (pe_ix ix_tupD (pv 3) pe_int (fun _ _ => rfl)))) (pss_one (ps_set (i := 3) sc__law_kind.nd rfl (by first | exact Or.inl rfl | exact Or.inr rfl) pe_str)))))))))
      (pss_one (ps_ret (pv 3)))))))))))), ?_⟩
  have num : ∀ {k1 k2 : Kd}, (if k1 = Kd.num then some Kd.num else none) = some k2 → k2 = .num := fun {k1 k2} h => by
    split at h
    · cases h; rfl
    · cases h
  cases l with
  | source k0 =>
    cases hk
    walk_at "wds"
    exact q _ H (Same.refl H) (.str _)
  | pair a b =>
    obtain ⟨k1, h1, p1, g1⟩ := at_ 0 a rfl
    obtain ⟨k2, h2, p2, g2⟩ := at_ 1 b rfl
    obtain ⟨x, y, rfl⟩ : ∃ x y, kn = [x, y] := by match kn, lkn with | [x, y], _ => exact ⟨x, y, rfl⟩
    cases h1; cases h2; cases e2
    walk_at "wds"
    walk_at "n1"
    refine ⟨_, _, _, a.toNat, _, rfl, a0, rfl, by omega, g1, fun x ix => ?_⟩
    walk_at "go"
    refine ⟨_, 2, 2, _, iv, rfl, rfl, rfl, fun u iu => ?_⟩
    obtain rfl := iu.i
    refine ⟨_, _, _, b.toNat, _, rfl, a0, rfl, by omega, g2, fun y iy => ?_⟩
    walk_at "go"
    refine ⟨[.str "pair", _, _], .cons (.str _) (.cons ix (.cons iy .nil)), by simp, fun p2 H2 s2 t2 i2 => ?_⟩
    exact q _ H2 s2 i2
  | chain a b =>
    obtain ⟨k1, h1, p1, g1⟩ := at_ 0 a rfl
    obtain ⟨x, y, rfl⟩ : ∃ x y, kn = [x, y] := by match kn, lkn with | [x, y], _ => exact ⟨x, y, rfl⟩
    cases h1
    have e2 : (if k1 = y then some k1 else none) = some k := e2
    have ek : k = k1 := by
      split at e2
      · cases e2; rfl
      · cases e2
    subst ek
    walk_at "wds"
    walk_at "n1"
    refine ⟨_, _, _, a.toNat, _, rfl, a0, rfl, by omega, g1, fun x ix => ?_⟩
    exact q _ H (Same.refl H) ix
  | merge a b =>
    obtain ⟨x, y, rfl⟩ : ∃ x y, kn = [x, y] := by match kn, lkn with | [x, y], _ => exact ⟨x, y, rfl⟩
    have e2 : (if x = .num ∧ y = .num then some Kd.num else none) = some k := e2
    have ek : k = .num := by
      split at e2
      · cases e2; rfl
      · cases e2
    subst ek
    walk_at "wds"
    exact q _ H (Same.refl H) (.str _)
  | window n a =>
    obtain ⟨k1, h1, p1, g1⟩ := at_ 0 a rfl
    obtain ⟨x, rfl⟩ : ∃ x, kn = [x] := by match kn, lkn with | [x], _ => exact ⟨x, rfl⟩
    cases h1; cases e2
    walk_at "wds"
    walk_at "n2"
    refine ⟨_, _, _, a.toNat, _, rfl, a0, rfl, by omega, g1, fun x ix => ?_⟩
    refine ⟨[.str "row", _], .cons (.str _) (.cons ix .nil), by simp, fun p2 H2 s2 t2 i2 => ?_⟩
    exact q _ H2 s2 i2
  | group n a =>
    obtain ⟨x, rfl⟩ : ∃ x, kn = [x] := by match kn, lkn with | [x], _ => exact ⟨x, rfl⟩
    have e2 : (if x = .num then some (Kd.pair .num (.row .num)) else none) = some k := e2
    have ek : k = .pair .num (.row .num) := by
      split at e2
      · cases e2; rfl
      · cases e2
    subst ek
    walk_at "wds"
    refine ⟨[.str "row", .str "number"], .cons (.str _) (.cons (.str _) .nil), by simp, fun p2 H2 s2 t2 i2 => ?_⟩
    walk_at "go"
    refine ⟨[.str "pair", .str "number", (Kd.row .num).d], .cons (.str _) (.cons (.str _) (.cons i2 .nil)), by simp, fun p3 H3 s3 t3 i3 => ?_⟩
    exact q _ H3 (s2.trans s3) i3
  | take n a =>
    obtain ⟨k1, h1, p1, g1⟩ := at_ 0 a rfl
    obtain ⟨x, rfl⟩ : ∃ x, kn = [x] := by match kn, lkn with | [x], _ => exact ⟨x, rfl⟩
    cases h1; cases e2
    walk_at "wds"
    walk_at "n2"
    refine ⟨_, _, _, a.toNat, _, rfl, a0, rfl, by omega, g1, fun x ix => ?_⟩
    exact q _ H (Same.refl H) ix
  | skip n a =>
    obtain ⟨k1, h1, p1, g1⟩ := at_ 0 a rfl
    obtain ⟨x, rfl⟩ : ∃ x, kn = [x] := by match kn, lkn with | [x], _ => exact ⟨x, rfl⟩
    cases h1; cases e2
    walk_at "wds"
    walk_at "n2"
    refine ⟨_, _, _, a.toNat, _, rfl, a0, rfl, by omega, g1, fun x ix => ?_⟩
    exact q _ H (Same.refl H) ix
  | keep ts a =>
    obtain ⟨x, rfl⟩ : ∃ x, kn = [x] := by match kn, lkn with | [x], _ => exact ⟨x, rfl⟩
    obtain rfl := num e2
    walk_at "wds"
    exact q _ H (Same.refl H) (.str _)
  | whil ts a =>
    obtain ⟨x, rfl⟩ : ∃ x, kn = [x] := by match kn, lkn with | [x], _ => exact ⟨x, rfl⟩
    obtain rfl := num e2
    walk_at "wds"
    exact q _ H (Same.refl H) (.str _)
  | fold f n a =>
    obtain ⟨x, rfl⟩ : ∃ x, kn = [x] := by match kn, lkn with | [x], _ => exact ⟨x, rfl⟩
    obtain rfl := num e2
    walk_at "wds"
    exact q _ H (Same.refl H) (.str _)
  | map ds a =>
    obtain ⟨k1, h1, p1, g1⟩ := at_ 0 a rfl
    obtain ⟨x, rfl⟩ : ∃ x, kn = [x] := by match kn, lkn with | [x], _ => exact ⟨x, rfl⟩
    cases h1
    have e2 : kindAll ds k1 = some k := e2
    walk_at "wds"
    walk_at "n2"
    refine ⟨_, _, _, a.toNat, _, rfl, a0, rfl, by omega, g1, fun x ix => ?_⟩
    walk_at "go"
    refine ⟨_, 1, 1, _, iv, rfl, rfl, rfl, fun u iu => ?_⟩
    obtain ⟨b, xs, rfl, ht, hs⟩ := iu.t
    have len := hs.len
    rw [List.length_map] at len
    refine ⟨b, rfl, ⟨_, ht⟩, for_tup (K := K) (a := b) (xs := xs) (fun i σ H2 => Hold (∃ (z : V) (o : Option V) (k2 : Kd), σ = [some v, some (.ref p), some (.str "map"), some z, o] ∧ Same H H2 ∧ kindAll (ds.take i) k1 = some k2 ∧ Im K H2 z k2.d))
      (.mk ⟨x, none, k1, rfl, Same.refl H, rfl, ix⟩) (fun i σ H2 _ h => by obtain ⟨_, _, _, _, s2, _⟩ := h.out; exact (same_tk s2).t _ _ ht) ?_ ?_⟩
    · intro i y σ H2 hi h
      obtain ⟨z, o, k2, rfl, s2, e3, iz⟩ := h.out
      obtain ⟨d, hd, iy⟩ := hs.get hi
      rw [List.getElem?_map] at hd
      obtain ⟨d, hd', rfl⟩ := Option.map_eq_some_iff.mp hd
      have iy2 := iy.u (same_tk s2)
      obtain ⟨k3, hk3⟩ : ∃ k3, kindD d k2 = some k3 := by
        obtain ⟨k4, f1, f2⟩ := kindAll_take e2 i
        rw [e3] at f1
        cases f1
        rw [drop_at hd'] at f2
        have f2 : (kindD d k2).bind (kindAll (ds.drop (i + 1))) = some k := f2
        cases e : kindD d k2 with
        | none => rw [e] at f2; cases f2
        | some k3 => exact ⟨k3, rfl⟩
      have e4 : kindAll (ds.take (i + 1)) k1 = some k3 := by rw [take_succ hd', kindAll_snoc e3, hk3]
      walk_at "go"
      have num3 : ∀ σ', σ' = [some v, some (.ref p), some (.str "map"), some (.str "number"), some y] → k3 = .num → Hold (∃ (z : V) (o : Option V) (k2 : Kd), σ' = [some v, some (.ref p), some (.str "map"), some z, o] ∧ Same H H2 ∧ kindAll (ds.take (i + 1)) k1 = some k2 ∧ Im K H2 z k2.d) := fun σ' h1 h2 => by
        subst h2
        exact .mk ⟨_, _, .num, h1, s2, e4, .str _⟩
      cases d with
      | both =>
        cases hk3
        walk_at "wds"
        refine ⟨[.str "pair", k2.d, k2.d], .cons (.str _) (.cons iz (.cons iz .nil)), by simp, fun p4 H4 s4 t4 i4 => ?_⟩
        exact .mk ⟨_, _, _, rfl, s2.trans s4, e4, i4⟩
      | first =>
        cases k2 with
        | pair c d =>
          cases hk3
          walk_at "wds"
          refine ⟨_, 1, 1, _, iz, rfl, rfl, rfl, fun u iu => ?_⟩
          exact .mk ⟨_, _, _, rfl, s2, e4, iu⟩
        | _ => cases hk3
      | second =>
        cases k2 with
        | pair c d =>
          cases hk3
          walk_at "wds"
          refine ⟨_, 2, 2, _, iz, rfl, rfl, rfl, fun u iu => ?_⟩
          exact .mk ⟨_, _, _, rfl, s2, e4, iu⟩
        | _ => cases hk3
      | add n =>
        walk_at "wds"
        exact num3 _ rfl (by cases k2 <;> cases hk3; rfl)
      | times n =>
        walk_at "wds"
        exact num3 _ rfl (by cases k2 <;> cases hk3; rfl)
      | minus =>
        walk_at "wds"
        exact num3 _ rfl (by cases k2 <;> cases hk3; rfl)
      | sum =>
        walk_at "wds"
        refine num3 _ rfl ?_
        cases k2 with
        | row c => cases c <;> cases hk3; rfl
        | _ => cases hk3
      | many =>
        walk_at "wds"
        exact num3 _ rfl (by cases k2 <;> cases hk3; rfl)
    · intro σ H2 h
      obtain ⟨z, o, k2, rfl, s2, e3, iz⟩ := h.out
      walk_at "go"
      rw [len, List.take_length, e2] at e3
      cases e3
      exact q _ H2 s2 iz

theorem nums_map (n : Nat) : (List.replicate n Kd.num).map Kd.d = List.replicate n (PyData.str "number") := by
  rw [List.map_replicate]
  rfl
theorem srcs_of {many t : Int} (ht : 0 ≤ t) (hm : 0 < many) : ∀ n : Nat, (n : Int) ≤ many → GoodW many ((List.range n).map fun (i : Nat) => Ln.source (((i : Int) + t) % many)) (List.replicate n .num)
  | 0, _ => .nil
  | n + 1, h => by
    rw [List.range_succ, List.map_append, List.replicate_succ']
    refine .snoc (srcs_of ht hm n (by omega)) ?_ rfl rfl (by decide) (fun ds a k e _ => nomatch e)
    show ((decide (0 ≤ _) && decide (_ < many)) && !decide (_ ∈ _)) = true
    rw [decide_eq_true (Int.emod_nonneg _ (by omega)), decide_eq_true (Int.emod_lt_of_pos _ hm), decide_eq_false]
    · rfl
    · intro hmem
      unfold srcs at hmem
      rw [List.mem_filterMap] at hmem
      obtain ⟨l, hl, e⟩ := hmem
      obtain ⟨i, hi, rfl⟩ := List.mem_map.mp hl
      have hi := List.mem_range.mp hi
      have e : ((i : Int) + t) % many = ((n : Int) + t) % many := Option.some.inj e
      have e2 : ((n : Int) - i) % many = 0 := by
        have := Int.emod_emod_of_dvd ((n : Int) + t) (Int.dvd_refl many)
        have h1 : (((n : Int) + t) - ((i : Int) + t)) % many = 0 := by
          rw [Int.sub_emod, e, Int.sub_self, Int.zero_emod]
        have h2 : ((n : Int) + t) - ((i : Int) + t) = (n : Int) - i := by omega
        rw [h2] at h1
        exact h1
      rw [Int.emod_eq_of_lt (by omega) (by omega)] at e2
      omega
theorem ok__law_weave (T : Tx P K w mg) : FnOk P w K mg base CX0 5 T._law_weave.f T._law_weave.fd ["_law_d"] (spWeave K) := by
  refine T._law_weave.F.ok sc__law_weave (fun vs H Q E h => ?_) (fun cdv A outer s H vs Q E hr h => ?_)
  · obtain ⟨a, rfl, _⟩ := h
    rfl
  obtain ⟨vd, rfl, h⟩ := h
  obtain ⟨D, rfl, d0, q⟩ := h.out
  refine ⟨_, (pss_cons (ps_if (pt_cmpR op_eq (pe_call (ok__law_next T) (hr.mono (by decide)) (by rfl) T._law_next.g T._law_next.F.kp T._law_next.b .nil pass0 (pa_cons (pv 0) (pa_cons pe_int pa_nil))) pe_int (nomark _)) (pss_one (ps_ret (pe_call (ok__law_long T) hr (by rfl) T._law_long.g T._law_long.F.kp T._law_long.b .nil pass0 (pa_cons (pv 0) pa_nil)))) pss_nil)
      (pss_cons (ps_set (i := 1) sc__law_weave.nd rfl (by first | exact Or.inl rfl | exact Or.inr rfl) (pe_op op_add pe_int (pe_call (ok__law_next T) (hr.mono (by decide)) (by rfl) T._law_next.g T._law_next.F.kp T._law_next.b .nil pass0 (pa_cons (pv 0) (pa_cons pe_int pa_nil)))))
      (pss_cons (ps_set (i := 2) sc__law_weave.nd rfl (by first | exact Or.inl rfl | exact Or.inr rfl) (pe_op op_add (pv 1) (pe_callTy call_int1 (by rfl) T.z_int (by decide +kernel) (pa_cons (pe_cmpR op_eq (pe_call (ok__law_next T) (hr.mono (by decide)) (by rfl) T._law_next.g T._law_next.F.kp T._law_next.b .nil pass0 (pa_cons (pv 0) (pa_cons pe_int pa_nil))) pe_int (nomark _)) pa_nil))))
      (pss_cons (ps_set (i := 3) sc__law_weave.nd rfl (by first | exact Or.inl rfl | exact Or.inr rfl) (pe_call (ok__law_next T) (hr.mono (by decide)) (by rfl) T._law_next.g T._law_next.F.kp T._law_next.b .nil pass0 (pa_cons (pv 0) (pa_cons (pv 2) pa_nil))))
      (pss_cons (ps_setLc (i := 4) (own := [("_law_k", 6)]) (g := gName 6) (tt := tYes) rfl sc__law_weave.nd rfl rfl (sw_true rfl rfl rfl (by decide +kernel)) (pi_range1 (by rfl) T.z_range (pa_cons (pv 1) pa_nil)) (blkOk_by (own := [("_law_k", 6)]) (N := ["_law_d", "_law_named", "_law_many", "_law_turn", "_law_weave_here", "_law_kinds", "_law_k"]) (sc := defScope s__law_weave) (by decide +kernel)) (fun _ _ _ _ _ => pg_name (i := 6) sc__law_weave.nd rfl (Or.inl rfl)) (fun _ _ _ _ _ => pts_nil) (fun _ _ _ _ _ => (pe_tdK (K := K) rfl (pa_cons pe_str (pa_cons (pe_op op_mod (pe_op op_add (pv 6) (pv 3)) (pv 2)) pa_nil)))))
      (pss_cons (ps_setLc (i := 5) (own := [("_law_k", 6)]) (g := gName 6) (tt := tYes) rfl sc__law_weave.nd rfl rfl (sw_true rfl rfl rfl (by decide +kernel)) (pi_range1 (by rfl) T.z_range (pa_cons (pv 1) pa_nil)) (blkOk_by (own := [("_law_k", 6)]) (N := ["_law_d", "_law_named", "_law_many", "_law_turn", "_law_weave_here", "_law_kinds", "_law_k"]) (sc := defScope s__law_weave) (by decide +kernel)) (fun _ _ _ _ _ => pg_name (i := 6) sc__law_weave.nd rfl (Or.inl rfl)) (fun _ _ _ _ _ => pts_nil) (fun _ _ _ _ _ => pe_str))
      (pss_cons (ps_for PassesOwn.never rfl (pi_range1 (by rfl) T.z_range (pa_cons (pe_op op_add pe_int (pe_call (ok__law_next T) (hr.mono (by decide)) (by rfl) T._law_next.g T._law_next.F.kp T._law_next.b .nil pass0 (pa_cons (pv 0) (pa_cons pe_int pa_nil)))) pa_nil)) (pg_name (i := 6) sc__law_weave.nd rfl (by first | exact Or.inl rfl | exact Or.inr rfl)) (pss_cons (ps_expr (pe_bm PySem.F.plainAttrs_list PySem.F.slot_list_append PySem.F.type_list_append mt_appA (pv 4) (pa_cons (pe_call (ok__law_line T) hr (by rfl) T._law_line.g T._law_line.F.kp T._law_line.b .nil pass0 (pa_cons (pv 0) (pa_cons (pv 5) pa_nil))) pa_nil)))
      (pss_one (ps_expr (pe_bm PySem.F.plainAttrs_list PySem.F.slot_list_append PySem.F.type_list_append mt_appA (pv 5) (pa_cons (pe_call (ok__law_kind T) (hr.mono (by decide)) (by rfl) T._law_kind.g T._law_kind.F.kp T._law_kind.b .nil pass0 (pa_cons (pe_ix ix_listA (pv 4) (pe_op op_sub (pe_callB call_lenA (by rfl) T.z_len PySem.boot_len (pa_cons (pv 4) pa_nil)) pe_int) (fun _ _ => rfl)) (pa_cons (pv 5) pa_nil))) pa_nil))))))
      (pss_one (ps_ret (pe_tr (pa_cons (pv 4) (pa_cons (pv 5) (pa_cons (pv 2) pa_nil))))))))))))), ?_⟩
  walk_at "go"
  intro r1 H1 e1 e2 d1 b1
  have back : ∀ {H' : Hp} {l : Addr}, But D H H' → IsDice K H' D → H' l = none → H l = none := fun {H' l} B d n => by
    cases z : H l with
    | none => rfl
    | some u =>
      by_cases hD : l = D
      · obtain ⟨_, eD⟩ := d.at
        rw [hD, eD] at n
        cases n
      · rw [B _ _ hD z] at n
        cases n
  walk_at "go"
  refine ite_d (fun c => ?_) (fun c => ?_)
  · walk_at "go"
    refine .mk ⟨D, rfl, d1, fun p H' lw lk ls ks many ht aw ak nw nk wk dw d' b' => ?_⟩
    exact q p H' lw lk ls ks many ht aw ak (back b1 d1 nw) (back b1 d1 nk) wk dw d' (b1.trans b')
  · walk_at "go"
    intro r2 H2 e3 e4 d2 b2
    walk_at "go"
    intro r3 H3 e5 e6 d3 b3
    walk_at "go"
    have m1 : 1 + r2 ≤ (1 + r2 + (if decide (V.int r3 = V.int 3) = true then 1 else 0)) := by split <;> omega
    have m2 : (1 + r2 + (if decide (V.int r3 = V.int 3) = true then 1 else 0)) ≤ 5 := by split <;> omega
    intro r4 H4 e7 e8 d4 b4
    walk_at "go"
    intro lw nw
    have B4 : But D H H4 := b1.trans (b2.trans (b3.trans b4))
    have Dw : D ≠ lw := d4.ne_new nw
    refine loop_rng (lo := 0) (n := (1 + r2).toNat) (fun i H5 => Hold (Same H4 H5 ∧ Acc K H5 lw (((List.range i).map fun (j : Nat) => Ln.source (((j : Int) + r4) % (1 + r2 + (if decide (V.int r3 = V.int 3) = true then 1 else 0)))).map Ln.d)))
      (.mk ⟨same_new nw, acc_nil upd_same⟩) ?_ ?_
    · intro i H5 hi h
      obtain ⟨s5, a5⟩ := h.out
      walk_at "go"
      refine ⟨[.str "source", .int ((0 + (i : Int) + r4) % (1 + r2 + (if decide (V.int r3 = V.int 3) = true then 1 else 0)))], .cons (.str _) (.cons (.int _) .nil), by simp, fun p6 H6 s6 t6 i6 => ?_⟩
      obtain ⟨acc, ea, hla, b7, t7, a7⟩ := (a5.same s6).push i6 (by rw [List.length_map, List.length_map, List.length_range]; omega)
      refine ⟨acc, ea, hla, .mk ⟨same_put (s5.trans s6) nw, ?_⟩⟩
      rw [List.range_succ, List.map_append, List.map_append]
      have : (0 + (i : Int)) = (i : Int) := by omega
      rw [this] at a7
      exact a7
    intro H5 h
    obtain ⟨s5, a5⟩ := h.out
    have d5 := d4.same s5
    walk_at "go"
    intro lk nk
    have Dk : D ≠ lk := d5.ne_new nk
    obtain ⟨xw, ew⟩ := a5.at
    have wk : lw ≠ lk := ne_of_none ew nk
    refine loop_rng (lo := 0) (n := (1 + r2).toNat) (fun i H6 => Hold (Same H5 H6 ∧ Acc K H6 lk (List.replicate i (PyData.str "number"))))
      (.mk ⟨same_new nk, acc_nil upd_same⟩) ?_ ?_
    · intro i H6 hi h
      obtain ⟨s6, a6⟩ := h.out
      walk_at "go"
      obtain ⟨acc, ea, hla, b7, t7, a7⟩ := a6.push (.str "number") (by rw [List.length_replicate]; omega)
      refine ⟨acc, ea, hla, .mk ⟨same_put s6 nk, ?_⟩⟩
      rw [List.replicate_succ']
      exact a7
    intro H6 h
    obtain ⟨s6, a6⟩ := h.out
    have d6 := d5.same s6
    have aw6 := a5.same s6
    have B6 : But D H H6 := B4.trans ((same_but s5).trans (same_but s6))
    have nwH : H lw = none := back B4 d4 nw
    have nkH : H lk = none := back (B4.trans (same_but s5)) d5 nk
    walk_at "go"
    intro r7 H7 e9 e10 d7 b7
    walk_at "go"
    refine for_range (lo := 0) (n := (1 + r7).toNat) (fun i σ H8 => Hold (∃ (ls : List Ln) (ks : List Kd) (o6 : Option V), σ = [some (.ref D), some (.int (1 + r2)), some (.int (1 + r2 + (if decide (V.int r3 = V.int 3) = true then 1 else 0))), some (.int r4), some (.ref lw), some (.ref lk), o6] ∧ Acc K H8 lw (ls.map Ln.d) ∧ Acc K H8 lk (ks.map Kd.d) ∧
        ls.length ≤ 4 + i ∧ 1 ≤ ls.length ∧ GoodW (1 + r2 + (if decide (V.int r3 = V.int 3) = true then 1 else 0)) ls ks ∧ (∀ k ∈ ks, k.dp ≤ 2) ∧ twos ls ≤ i ∧ IsDice K H8 D ∧ But D H H8))
      (.mk ⟨_, List.replicate (1 + r2).toNat .num, none, rfl, aw6.but b7 (b7.dtk d6) Dw.symm, by rw [List.map_replicate]; exact a6.but b7 (b7.dtk d6) Dk.symm, by rw [List.length_map, List.length_range]; omega, by rw [List.length_map, List.length_range]; omega,
        srcs_of e7 (by omega) _ (by omega), fun k hk => by rw [List.eq_of_mem_replicate hk]; decide, ?_, d7, B6.trans b7⟩) ?_ ?_
    · unfold twos
      rw [List.filter_map, List.length_map]
      have : (List.range (1 + r2).toNat).filter (two ∘ fun (j : Nat) => Ln.source (((j : Int) + r4) % (1 + r2 + (if decide (V.int r3 = V.int 3) = true then 1 else 0)))) = [] := by
        rw [List.filter_eq_nil_iff]
        intro j _
        show ¬ false = true
        decide
      rw [this]
      exact Nat.le_refl _
    · intro i σ H8 hi h
      obtain ⟨ls, ks, o6, rfl, aw8, ak8, l4, l1, g8, dp8, t8, d8, B8⟩ := h.out
      have len := g8.len
      walk_at "go"
      refine .mk ⟨D, lk, ks, rfl, rfl, d8, Dk, ak8, by omega, by omega, dp8, fun v H9 l k iv dl d9 b9 => ?_⟩
      have aw9 := aw8.but b9 (b9.dtk d8) Dw.symm
      have ak9 := ak8.but b9 (b9.dtk d8) Dk.symm
      refine ⟨_, _, _, _, rfl, rfl, aw9, iv, by rw [List.length_map]; omega, fun H10 b10 t10 a10 => ?_⟩
      have ak10 := ak9.but b10 t10 wk.symm
      have d10 := d9.keep t10 fun xs e => b10 _ _ Dw e
      have B10 : But D H H10 := fun b u hb e => b10 _ _ (ne_of_none e nwH) (b9 _ _ hb (B8 _ _ hb e))
      rw [← List.map_singleton (f := Ln.d), ← List.map_append] at a10
      walk_at "go"
      refine ⟨_, _, rfl, a10, ?_⟩
      rw [List.length_map, List.length_append]
      walk_at "go"
      refine ⟨_, _, _, ls.length, l.d, rfl, a10, rfl, by simp, ?_, fun u iu => ?_⟩
      · rw [List.getElem?_map, List.getElem?_append_right (Nat.le_refl _), Nat.sub_self]
        rfl
      walk_at "go"
      refine .mk ⟨l, lk, ks, k, rfl, iu, ak10, fun a ha => (dl.np a ha).1, dl.kk, fun x H11 s11 ix => ?_⟩
      refine ⟨_, _, _, _, rfl, rfl, ak10.same s11, ix, by rw [List.length_map]; omega, fun H12 b12 t12 a12 => ?_⟩
      rw [← List.map_singleton (f := Kd.d), ← List.map_append] at a12
      refine .mk ⟨ls ++ [l], ks ++ [k], _, rfl, (a10.same s11).but b12 t12 wk, a12, by rw [List.length_append]; simp; omega, by rw [List.length_append]; omega, g8.more dl, fun k' hk' => ?_, ?_, (d10.same s11).keep t12 fun xs e => b12 _ _ Dk e, ?_⟩
      · rcases List.mem_append.mp hk' with hk' | hk'
        · exact dp8 k' hk'
        · rw [List.mem_singleton.mp hk']; exact dl.dp
      · have := twos_snoc (ls := ls) (l := l)
        omega
      · intro b u hb e
        exact b12 _ _ (ne_of_none e nkH) (s11 _ _ (B10 _ _ hb e))
    · intro σ H8 h
      obtain ⟨ls, ks, o6, rfl, aw8, ak8, l4, l1, g8, dp8, t8, d8, B8⟩ := h.out
      walk_at "go"
      refine ⟨by simp, fun p9 H9 n9 s9 t9 e9 => ?_⟩
      exact q p9 H9 lw lk ls ks (1 + r2 + (if decide (V.int r3 = V.int 3) = true then 1 else 0)) (SqT.of e9) (aw8.same s9) (ak8.same s9) nwH nkH wk ⟨g8, l1, by omega, by omega, m2, dp8, by omega⟩ (d8.same s9) (B8.trans (same_but s9))

local macro_rules | `(tactic| walk_at "len") => `(tactic| (refine And.intro (by rw [sizeLine_eq]; (try simp only [len_app]); omega) ?_; walk_at "go"))
def spLRow (K : PySem.W.Frag) : Sp := fun vs H Q _ => ∃ (v : V), vs = [v] ∧ Hold (∃ (l : Ln), Im K H v l.d ∧ l.sm ∧ ∀ H', Same H H' → Q (.str l.row) H')
theorem words_len {ws : List PyData} (hl : ws.length ≤ 4) (hw : ∀ d ∈ ws, isW d) : ((ws.map wordS).map (·.length)).sum + (ws.map wordS).length * ((" " : Str)).length ≤ 16777216 := by
  have h2 := sum_bound (xs := ws.map wordS) (n := 10) fun x hx => by
    obtain ⟨d, hd, rfl⟩ := List.mem_map.mp hx
    exact wordS_len (hw d hd)
  have h3 : ((" " : Str)).length = 1 := by decide +kernel
  rw [h3]
  rw [List.length_map] at h2 ⊢
  omega
theorem ok__law_row (T : Tx P K w mg) : FnOk P w K mg base CX0 1 T._law_row.f T._law_row.fd ["_law_line_here"] (spLRow K) := by
  refine T._law_row.F.ok sc__law_row (fun vs H Q E h => ?_) (fun cdv A outer s H vs Q E hr h => ?_)
  · obtain ⟨a, rfl, _⟩ := h
    rfl
  obtain ⟨v, rfl, h⟩ := h
  obtain ⟨l, iv, sm, q⟩ := h.out
  refine ⟨_, (pss_cons (ps_if (pt_cmpR op_eq (pe_ix ix_tupD (pv 0) pe_int (fun _ _ => rfl)) pe_str (nomark _)) (pss_one (ps_ret (pe_op op_add_str pe_str (pe_callTy (call_strP hr) (by rfl) T.z_str (by decide +kernel) (pa_cons (pe_ix ix_tupD (pv 0) pe_int (fun _ _ => rfl)) pa_nil))))) pss_nil)
      (pss_cons (ps_if (pt_cmpR op_inTS (pe_ix ix_tupD (pv 0) pe_int (fun _ _ => rfl)) (pe_td (pa_cons pe_str (pa_cons pe_str (pa_cons pe_str pa_nil)))) (by rfl)) (pss_one (ps_ret (pe_op op_add_str (pe_op op_add_str (pe_op op_add_str (pe_op op_add_str (pe_ix ix_tupD (pv 0) pe_int (fun _ _ => rfl)) pe_str) (pe_callTy (call_strP hr) (by rfl) T.z_str (by decide +kernel) (pa_cons (pe_ix ix_tupD (pv 0) pe_int (fun _ _ => rfl)) pa_nil))) pe_str) (pe_callTy (call_strP hr) (by rfl) T.z_str (by decide +kernel) (pa_cons (pe_ix ix_tupD (pv 0) pe_int (fun _ _ => rfl)) pa_nil))))) pss_nil)
      (pss_cons (ps_if (pt_cmpR op_eq (pe_ix ix_tupD (pv 0) pe_int (fun _ _ => rfl)) pe_str (nomark _)) (pss_one (ps_ret (pe_op op_add_str (pe_op op_add_str (pe_op op_add_str (pe_op op_add_str (pe_op op_add_str pe_str (pe_ix ix_tupD (pv 0) pe_int (fun _ _ => rfl))) pe_str) (pe_callTy (call_strP hr) (by rfl) T.z_str (by decide +kernel) (pa_cons (pe_ix ix_tupD (pv 0) pe_int (fun _ _ => rfl)) pa_nil))) pe_str) (pe_callTy (call_strP hr) (by rfl) T.z_str (by decide +kernel) (pa_cons (pe_ix ix_tupD (pv 0) pe_int (fun _ _ => rfl)) pa_nil))))) pss_nil)
      (pss_cons (ps_set (i := 1) sc__law_row.nd rfl (by first | exact Or.inl rfl | exact Or.inr rfl) (pe_callTy (call_strP hr) (by rfl) T.z_str (by decide +kernel) (pa_cons (pe_ix ix_tupD (pv 0) pe_int (fun _ _ => rfl)) pa_nil)))
      (pss_cons (ps_if (pt_cmpR op_inTS (pe_ix ix_tupD (pv 0) pe_int (fun _ _ => rfl)) (pe_td (pa_cons pe_str (pa_cons pe_str (pa_cons pe_str pa_nil)))) (by rfl)) (pss_one (ps_set (i := 1) sc__law_row.nd rfl (by first | exact Or.inl rfl | exact Or.inr rfl) (pe_joinK (K := K) rfl pe_str (pe_lc (own := [("_law_part", 2)]) (g := gName 2) (tt := tYes) rfl sc__law_row.nd (pi_tup (pe_ix ix_tupD (pv 0) pe_int (fun _ _ => rfl))) (blkOk_by (own := [("_law_part", 2)]) (N := ["_law_line_here", "_law_told", "_law_part", "_law_word"]) (sc := defScope s__law_row) (by decide +kernel)) (fun _ _ _ _ _ => pg_name (i := 2) sc__law_row.nd rfl (Or.inl rfl)) (fun _ _ _ _ _ => pts_nil) (fun _ _ _ _ _ => (pe_joinK (K := K) rfl pe_str (pe_lc (own := [("_law_word", 3)]) (g := gName 3) (tt := tYes) rfl sc__law_row.nd (pi_tupK (K := K) rfl (pv 2)) (blkOk_by (own := [("_law_word", 3)]) (N := ["_law_line_here", "_law_told", "_law_part", "_law_word"]) (by rfl)) (fun _ _ _ _ _ => pg_name (i := 3) sc__law_row.nd rfl (Or.inl rfl)) (fun _ _ _ _ _ => pts_nil) (fun _ _ _ _ _ => (pe_callTy call_strW (by rfl) T.z_str (by decide +kernel) (pa_cons (pv 3) pa_nil)))))))))) pss_nil)
      (pss_one (ps_ret (pe_op op_add_str (pe_op op_add_str (pe_op op_add_str (pe_op op_add_str (pe_ix ix_tupD (pv 0) pe_int (fun _ _ => rfl)) pe_str) (pv 1)) pe_str) (pe_callTy (call_strP hr) (by rfl) T.z_str (by decide +kernel) (pa_cons (pe_ix ix_tupD (pv 0) pe_int (fun _ _ => rfl)) pa_nil)))))))))), ?_⟩
  have nm : ∀ a ∈ l.names, isW (.int a) := sm_num sm
  have nl : ∀ a ∈ l.names, (numS a).length ≤ 8 := fun a ha => numS_len (nm a ha).1 (nm a ha).2
  obtain ⟨hn, hnm, hsr⟩ := id sm
  have sp : ((" " : Str)).length = 1 := by decide +kernel
  have so : ((" of " : Str)).length = 4 := by decide +kernel
  cases l with
  | source k =>
    have hk := hsr k rfl
    have wk : isW (.int k) := ⟨hk.1, by omega⟩
    have kl := numS_len wk.1 wk.2
    have wl : (("source " : Str)).length = 7 := by decide +kernel
    walk_at "wds"
    refine ⟨_, 1, 1, _, iv, rfl, rfl, rfl, fun u iu => ?_⟩
    cases Im.i iu
    refine .inl ⟨_, rfl, wk.1, wk.2, ?_⟩
    walk_at "go"
    walk_at "len"
    exact q _ (Same.refl _)
  | chain a b =>
    have wa := nm a List.mem_cons_self
    have wb := nm b (List.mem_cons_of_mem _ List.mem_cons_self)
    have la := nl a List.mem_cons_self
    have lb := nl b (List.mem_cons_of_mem _ List.mem_cons_self)
    have wl : (("chain" : Str)).length ≤ 10 := by decide +kernel
    walk_at "wds"
    refine ⟨[.str "chain", .str "pair", .str "merge"], .cons (.str _) (.cons (.str _) (.cons (.str _) (.nil))), by simp, fun p1 H1 s1 t1 i1 => ?_⟩
    refine ⟨_, ["chain", "pair", "merge"], rfl, i1, ?_⟩
    refine ⟨_, rfl, ?_⟩
    walk_at "w"
    walk_at "go"
    have iv1 := iv.u t1
    walk_at "wds"
    walk_at "len"
    refine ⟨_, 1, 1, _, iv1, rfl, rfl, rfl, fun u iu => ?_⟩
    cases Im.i iu
    refine .inl ⟨_, rfl, wa.1, wa.2, ?_⟩
    walk_at "go"
    walk_at "len"
    walk_at "len"
    refine ⟨_, 2, 2, _, iv1, rfl, rfl, rfl, fun u iu => ?_⟩
    cases Im.i iu
    refine .inl ⟨_, rfl, wb.1, wb.2, ?_⟩
    walk_at "go"
    walk_at "len"
    exact q _ s1
  | pair a b =>
    have wa := nm a List.mem_cons_self
    have wb := nm b (List.mem_cons_of_mem _ List.mem_cons_self)
    have la := nl a List.mem_cons_self
    have lb := nl b (List.mem_cons_of_mem _ List.mem_cons_self)
    have wl : (("pair" : Str)).length ≤ 10 := by decide +kernel
    walk_at "wds"
    refine ⟨[.str "chain", .str "pair", .str "merge"], .cons (.str _) (.cons (.str _) (.cons (.str _) (.nil))), by simp, fun p1 H1 s1 t1 i1 => ?_⟩
    refine ⟨_, ["chain", "pair", "merge"], rfl, i1, ?_⟩
    refine ⟨_, rfl, ?_⟩
    walk_at "w"
    walk_at "go"
    have iv1 := iv.u t1
    walk_at "wds"
    walk_at "len"
    refine ⟨_, 1, 1, _, iv1, rfl, rfl, rfl, fun u iu => ?_⟩
    cases Im.i iu
    refine .inl ⟨_, rfl, wa.1, wa.2, ?_⟩
    walk_at "go"
    walk_at "len"
    walk_at "len"
    refine ⟨_, 2, 2, _, iv1, rfl, rfl, rfl, fun u iu => ?_⟩
    cases Im.i iu
    refine .inl ⟨_, rfl, wb.1, wb.2, ?_⟩
    walk_at "go"
    walk_at "len"
    exact q _ s1
  | merge a b =>
    have wa := nm a List.mem_cons_self
    have wb := nm b (List.mem_cons_of_mem _ List.mem_cons_self)
    have la := nl a List.mem_cons_self
    have lb := nl b (List.mem_cons_of_mem _ List.mem_cons_self)
    have wl : (("merge" : Str)).length ≤ 10 := by decide +kernel
    walk_at "wds"
    refine ⟨[.str "chain", .str "pair", .str "merge"], .cons (.str _) (.cons (.str _) (.cons (.str _) (.nil))), by simp, fun p1 H1 s1 t1 i1 => ?_⟩
    refine ⟨_, ["chain", "pair", "merge"], rfl, i1, ?_⟩
    refine ⟨_, rfl, ?_⟩
    walk_at "w"
    walk_at "go"
    have iv1 := iv.u t1
    walk_at "wds"
    walk_at "len"
    refine ⟨_, 1, 1, _, iv1, rfl, rfl, rfl, fun u iu => ?_⟩
    cases Im.i iu
    refine .inl ⟨_, rfl, wa.1, wa.2, ?_⟩
    walk_at "go"
    walk_at "len"
    walk_at "len"
    refine ⟨_, 2, 2, _, iv1, rfl, rfl, rfl, fun u iu => ?_⟩
    cases Im.i iu
    refine .inl ⟨_, rfl, wb.1, wb.2, ?_⟩
    walk_at "go"
    walk_at "len"
    exact q _ s1
  | take n a =>
    have hb : (decide (0 ≤ n) && decide (n ≤ 9999)) = true := hn
    rw [Bool.and_eq_true, decide_eq_true_eq, decide_eq_true_eq] at hb
    have wn : isW (.int n) := ⟨hb.1, by omega⟩
    have ln := numS_len wn.1 wn.2
    have wa := nm a List.mem_cons_self
    have la := nl a List.mem_cons_self
    have wl : (("take" : Str)).length ≤ 10 := by decide +kernel
    walk_at "wds"
    refine ⟨[.str "chain", .str "pair", .str "merge"], .cons (.str _) (.cons (.str _) (.cons (.str _) (.nil))), by simp, fun p1 H1 s1 t1 i1 => ?_⟩
    refine ⟨_, ["chain", "pair", "merge"], rfl, i1, ?_⟩
    refine ⟨_, rfl, ?_⟩
    walk_at "w"
    walk_at "go"
    have iv1 := iv.u t1
    walk_at "wds"
    refine ⟨_, 1, 1, _, iv1, rfl, rfl, rfl, fun u iu => ?_⟩
    cases Im.i iu
    refine .inl ⟨_, rfl, wn.1, wn.2, ?_⟩
    walk_at "go"
    walk_at "wds"
    refine ⟨[.str "map", .str "keep", .str "while"], .cons (.str _) (.cons (.str _) (.cons (.str _) (.nil))), by simp, fun p2 H2 s2 t2 i2 => ?_⟩
    refine ⟨_, ["map", "keep", "while"], rfl, i2, ?_⟩
    refine ⟨_, rfl, ?_⟩
    walk_at "w"
    walk_at "go"
    have iv2 := iv1.u t2
    walk_at "wds"
    walk_at "len"
    walk_at "len"
    walk_at "len"
    refine ⟨_, 2, 2, _, iv2, rfl, rfl, rfl, fun u iu => ?_⟩
    cases Im.i iu
    refine .inl ⟨_, rfl, wa.1, wa.2, ?_⟩
    walk_at "go"
    walk_at "len"
    exact q _ (s1.trans s2)
  | skip n a =>
    have hb : (decide (0 ≤ n) && decide (n ≤ 9999)) = true := hn
    rw [Bool.and_eq_true, decide_eq_true_eq, decide_eq_true_eq] at hb
    have wn : isW (.int n) := ⟨hb.1, by omega⟩
    have ln := numS_len wn.1 wn.2
    have wa := nm a List.mem_cons_self
    have la := nl a List.mem_cons_self
    have wl : (("skip" : Str)).length ≤ 10 := by decide +kernel
    walk_at "wds"
    refine ⟨[.str "chain", .str "pair", .str "merge"], .cons (.str _) (.cons (.str _) (.cons (.str _) (.nil))), by simp, fun p1 H1 s1 t1 i1 => ?_⟩
    refine ⟨_, ["chain", "pair", "merge"], rfl, i1, ?_⟩
    refine ⟨_, rfl, ?_⟩
    walk_at "w"
    walk_at "go"
    have iv1 := iv.u t1
    walk_at "wds"
    refine ⟨_, 1, 1, _, iv1, rfl, rfl, rfl, fun u iu => ?_⟩
    cases Im.i iu
    refine .inl ⟨_, rfl, wn.1, wn.2, ?_⟩
    walk_at "go"
    walk_at "wds"
    refine ⟨[.str "map", .str "keep", .str "while"], .cons (.str _) (.cons (.str _) (.cons (.str _) (.nil))), by simp, fun p2 H2 s2 t2 i2 => ?_⟩
    refine ⟨_, ["map", "keep", "while"], rfl, i2, ?_⟩
    refine ⟨_, rfl, ?_⟩
    walk_at "w"
    walk_at "go"
    have iv2 := iv1.u t2
    walk_at "wds"
    walk_at "len"
    walk_at "len"
    walk_at "len"
    refine ⟨_, 2, 2, _, iv2, rfl, rfl, rfl, fun u iu => ?_⟩
    cases Im.i iu
    refine .inl ⟨_, rfl, wa.1, wa.2, ?_⟩
    walk_at "go"
    walk_at "len"
    exact q _ (s1.trans s2)
  | group n a =>
    have hb : (decide (1 ≤ n) && isNum n) = true := hn
    rw [Bool.and_eq_true, decide_eq_true_eq, isNum_iff] at hb
    have wn : isW (.int n) := isW_num hb.2
    have ln := numS_len wn.1 wn.2
    have wa := nm a List.mem_cons_self
    have la := nl a List.mem_cons_self
    have wl : (("group" : Str)).length ≤ 10 := by decide +kernel
    walk_at "wds"
    refine ⟨[.str "chain", .str "pair", .str "merge"], .cons (.str _) (.cons (.str _) (.cons (.str _) (.nil))), by simp, fun p1 H1 s1 t1 i1 => ?_⟩
    refine ⟨_, ["chain", "pair", "merge"], rfl, i1, ?_⟩
    refine ⟨_, rfl, ?_⟩
    walk_at "w"
    walk_at "go"
    have iv1 := iv.u t1
    walk_at "wds"
    refine ⟨_, 1, 1, _, iv1, rfl, rfl, rfl, fun u iu => ?_⟩
    cases Im.i iu
    refine .inl ⟨_, rfl, wn.1, wn.2, ?_⟩
    walk_at "go"
    walk_at "wds"
    refine ⟨[.str "map", .str "keep", .str "while"], .cons (.str _) (.cons (.str _) (.cons (.str _) (.nil))), by simp, fun p2 H2 s2 t2 i2 => ?_⟩
    refine ⟨_, ["map", "keep", "while"], rfl, i2, ?_⟩
    refine ⟨_, rfl, ?_⟩
    walk_at "w"
    walk_at "go"
    have iv2 := iv1.u t2
    walk_at "wds"
    walk_at "len"
    walk_at "len"
    walk_at "len"
    refine ⟨_, 2, 2, _, iv2, rfl, rfl, rfl, fun u iu => ?_⟩
    cases Im.i iu
    refine .inl ⟨_, rfl, wa.1, wa.2, ?_⟩
    walk_at "go"
    walk_at "len"
    exact q _ (s1.trans s2)
  | window n a =>
    have hb : (decide (1 ≤ n) && decide (n ≤ 9)) = true := hn
    rw [Bool.and_eq_true, decide_eq_true_eq, decide_eq_true_eq] at hb
    have wn : isW (.int n) := ⟨by omega, by omega⟩
    have ln := numS_len wn.1 wn.2
    have wa := nm a List.mem_cons_self
    have la := nl a List.mem_cons_self
    have wl : (("window" : Str)).length ≤ 10 := by decide +kernel
    walk_at "wds"
    refine ⟨[.str "chain", .str "pair", .str "merge"], .cons (.str _) (.cons (.str _) (.cons (.str _) (.nil))), by simp, fun p1 H1 s1 t1 i1 => ?_⟩
    refine ⟨_, ["chain", "pair", "merge"], rfl, i1, ?_⟩
    refine ⟨_, rfl, ?_⟩
    walk_at "w"
    walk_at "go"
    have iv1 := iv.u t1
    walk_at "wds"
    refine ⟨_, 1, 1, _, iv1, rfl, rfl, rfl, fun u iu => ?_⟩
    cases Im.i iu
    refine .inl ⟨_, rfl, wn.1, wn.2, ?_⟩
    walk_at "go"
    walk_at "wds"
    refine ⟨[.str "map", .str "keep", .str "while"], .cons (.str _) (.cons (.str _) (.cons (.str _) (.nil))), by simp, fun p2 H2 s2 t2 i2 => ?_⟩
    refine ⟨_, ["map", "keep", "while"], rfl, i2, ?_⟩
    refine ⟨_, rfl, ?_⟩
    walk_at "w"
    walk_at "go"
    have iv2 := iv1.u t2
    walk_at "wds"
    walk_at "len"
    walk_at "len"
    walk_at "len"
    refine ⟨_, 2, 2, _, iv2, rfl, rfl, rfl, fun u iu => ?_⟩
    cases Im.i iu
    refine .inl ⟨_, rfl, wa.1, wa.2, ?_⟩
    walk_at "go"
    walk_at "len"
    exact q _ (s1.trans s2)
  | fold w n a =>
    have hb : isNum n = true := hn
    rw [isNum_iff] at hb
    have wn : isW (.int n) := isW_num hb
    have ln := numS_len wn.1 wn.2
    have wa := nm a List.mem_cons_self
    have la := nl a List.mem_cons_self
    have lw := (fw_isW w).1
    have wl : (("fold " : Str)).length ≤ 10 := by decide +kernel
    walk_at "wds"
    refine ⟨[.str "chain", .str "pair", .str "merge"], .cons (.str _) (.cons (.str _) (.cons (.str _) (.nil))), by simp, fun p1 H1 s1 t1 i1 => ?_⟩
    refine ⟨_, ["chain", "pair", "merge"], rfl, i1, ?_⟩
    refine ⟨_, rfl, ?_⟩
    walk_at "w"
    walk_at "go"
    have iv1 := iv.u t1
    walk_at "wds"
    refine ⟨_, 1, 1, _, iv1, rfl, rfl, rfl, fun u iu => ?_⟩
    cases Im.s iu
    walk_at "go"
    walk_at "len"
    walk_at "len"
    refine ⟨_, 2, 2, _, iv1, rfl, rfl, rfl, fun u iu => ?_⟩
    cases Im.i iu
    refine .inl ⟨_, rfl, wn.1, wn.2, ?_⟩
    walk_at "go"
    walk_at "len"
    walk_at "len"
    refine ⟨_, 3, 3, _, iv1, rfl, rfl, rfl, fun u iu => ?_⟩
    cases Im.i iu
    refine .inl ⟨_, rfl, wa.1, wa.2, ?_⟩
    walk_at "go"
    walk_at "len"
    exact q _ s1
  | map ds a =>
    obtain ⟨dl, dw⟩ := deeds_ws hn
    obtain ⟨pl1, pl2⟩ := parts_len (ps := ds.map Deed.ws) (by rw [List.length_map]; omega) dw
    have pl3 : (Str.join ", " (List.map sideS (List.map Deed.ws ds))).length ≤ 5200 := pl1
    have wa := nm a List.mem_cons_self
    have la := nl a List.mem_cons_self
    have wl : (("map" : Str)).length ≤ 10 := by decide +kernel
    walk_at "wds"
    refine ⟨[.str "chain", .str "pair", .str "merge"], .cons (.str _) (.cons (.str _) (.cons (.str _) (.nil))), by simp, fun p1 H1 s1 t1 i1 => ?_⟩
    refine ⟨_, ["chain", "pair", "merge"], rfl, i1, ?_⟩
    refine ⟨_, rfl, ?_⟩
    walk_at "w"
    walk_at "go"
    have iv1 := iv.u t1
    walk_at "wds"
    refine ⟨_, 1, 1, _, iv1, rfl, rfl, rfl, fun u iu => ?_⟩
    have iu : Im K H1 u (.tuple (ds.map Deed.d)) := iu
    have iu2 : Im K H1 u (.tuple ((ds.map Deed.ws).map PyData.tuple)) := by
      rw [List.map_map, show PyData.tuple ∘ Deed.ws = Deed.d from funext fun d => (Deed.d_ws d).symm]
      exact iu
    refine .inr ⟨u, ds.map Deed.ws, rfl, iu2, by rw [List.length_map]; omega, dw, fun tt => ?_⟩
    walk_at "go"
    walk_at "wds"
    refine ⟨[.str "map", .str "keep", .str "while"], .cons (.str _) (.cons (.str _) (.cons (.str _) (.nil))), by simp, fun p2 H2 s2 t2 i2 => ?_⟩
    refine ⟨_, ["map", "keep", "while"], rfl, i2, ?_⟩
    refine ⟨_, rfl, ?_⟩
    walk_at "w"
    walk_at "go"
    have iv2 := iv1.u t2
    refine ⟨⟨_, rfl⟩, ?_⟩
    walk_at "go"
    refine ⟨_, 1, 1, _, iv2, rfl, rfl, rfl, fun u iu => ?_⟩
    have iu : Im K H2 u (.tuple (ds.map Deed.d)) := iu
    obtain ⟨b, xs, rfl, ht, hs⟩ := id iu.t
    have len := hs.len
    rw [List.length_map] at len
    refine ⟨b, rfl, ⟨_, ht⟩, fun D nD => ?_⟩
    refine loop_tup (K := K) (a := b) (xs := xs) (fun i H3 => Hold (Same H2 H3 ∧ H3 D = some (.lst ((((ds.take i).map Deed.ws).map sideS).map V.str))))
        (.mk ⟨same_new nD, upd_same⟩) (fun i H3 _ h => (same_tk h.out.1).t _ _ ht) ?_ ?_
    · intro i x H3 hi h
      obtain ⟨s3, e3⟩ := h.out
      obtain ⟨d0, hd0, ix⟩ := hs.get hi
      rw [List.getElem?_map] at hd0
      obtain ⟨d, hd, rfl⟩ := Option.map_eq_some_iff.mp hd0
      rw [Deed.d_ws] at ix
      obtain ⟨wl2, ww⟩ := dw d.ws (List.mem_map_of_mem (List.mem_of_getElem? hd))
      obtain ⟨c, ys, rfl, htc, hsc⟩ := id (ix.u (same_tk s3)).t
      have lenc := hsc.len
      walk_at "go"
      refine ⟨⟨_, rfl⟩, ?_⟩
      walk_at "go"
      intro G nG
      refine loop_tup (K := K) (a := c) (xs := ys) (fun j H4 => Hold (Same H3 H4 ∧ H4 G = some (.lst (((d.ws.take j).map wordS).map V.str))))
          (.mk ⟨same_new nG, upd_same⟩) (fun j H4 _ h => (same_tk h.out.1).t _ _ htc) ?_ ?_
      · intro j y H4 hj h
        obtain ⟨s4, e4⟩ := h.out
        obtain ⟨f, hf, iy⟩ := hsc.get hj
        walk_at "go"
        refine ⟨_, _, rfl, word_or iy (ww f (List.mem_of_getElem? hf)), ww f (List.mem_of_getElem? hf), ?_⟩
        refine ⟨_, e4, ?_, .mk ⟨same_put s4 nG, ?_⟩⟩
        · rw [List.length_map, List.length_map, List.length_take]
          exact small1000 (by omega)
        · rw [upd_same, take_succ hf, List.map_append, List.map_append]
          rfl
      intro H4 h
      obtain ⟨s4, e4⟩ := h.out
      rw [lenc, List.take_length] at e4
      walk_at "go"
      refine ⟨_, _, _, rfl, rfl, SqL.of e4, words_len (by omega) ww, ?_⟩
      refine ⟨_, s4 _ _ e3, ?_, .mk ⟨same_put (s3.trans s4) nD, ?_⟩⟩
      · rw [List.length_map, List.length_map, List.length_map, List.length_take]
        exact small1000 (by omega)
      · rw [upd_same, take_succ hd, List.map_append, List.map_append, List.map_append]
        rfl
    · intro H3 h
      obtain ⟨s3, e3⟩ := h.out
      rw [len, List.take_length] at e3
      walk_at "go"
      have sc : ((", " : Str)).length = 2 := by decide +kernel
      refine ⟨_, _, _, rfl, rfl, SqL.of e3, ?_, ?_⟩
      · rw [sc, List.length_map, List.length_map]; omega
      have iv3 := iv2.u (same_tk s3)
      walk_at "go"
      walk_at "wds"
      walk_at "len"
      walk_at "len"
      walk_at "len"
      refine ⟨_, 2, 2, _, iv3, rfl, rfl, rfl, fun u iu => ?_⟩
      cases Im.i iu
      refine .inl ⟨_, rfl, wa.1, wa.2, ?_⟩
      walk_at "go"
      walk_at "len"
      exact q _ ((s1.trans s2).trans s3)
  | keep ds a =>
    obtain ⟨dl, dw⟩ := tests_ws hn
    obtain ⟨pl1, pl2⟩ := parts_len (ps := ds.map Tst.ws) (by rw [List.length_map]; omega) dw
    have pl3 : (Str.join ", " (List.map sideS (List.map Tst.ws ds))).length ≤ 5200 := pl1
    have wa := nm a List.mem_cons_self
    have la := nl a List.mem_cons_self
    have wl : (("keep" : Str)).length ≤ 10 := by decide +kernel
    walk_at "wds"
    refine ⟨[.str "chain", .str "pair", .str "merge"], .cons (.str _) (.cons (.str _) (.cons (.str _) (.nil))), by simp, fun p1 H1 s1 t1 i1 => ?_⟩
    refine ⟨_, ["chain", "pair", "merge"], rfl, i1, ?_⟩
    refine ⟨_, rfl, ?_⟩
    walk_at "w"
    walk_at "go"
    have iv1 := iv.u t1
    walk_at "wds"
    refine ⟨_, 1, 1, _, iv1, rfl, rfl, rfl, fun u iu => ?_⟩
    have iu : Im K H1 u (.tuple (ds.map Tst.d)) := iu
    have iu2 : Im K H1 u (.tuple ((ds.map Tst.ws).map PyData.tuple)) := by
      rw [List.map_map, show PyData.tuple ∘ Tst.ws = Tst.d from funext fun d => (Tst.d_ws d).symm]
      exact iu
    refine .inr ⟨u, ds.map Tst.ws, rfl, iu2, by rw [List.length_map]; omega, dw, fun tt => ?_⟩
    walk_at "go"
    walk_at "wds"
    refine ⟨[.str "map", .str "keep", .str "while"], .cons (.str _) (.cons (.str _) (.cons (.str _) (.nil))), by simp, fun p2 H2 s2 t2 i2 => ?_⟩
    refine ⟨_, ["map", "keep", "while"], rfl, i2, ?_⟩
    refine ⟨_, rfl, ?_⟩
    walk_at "w"
    walk_at "go"
    have iv2 := iv1.u t2
    refine ⟨⟨_, rfl⟩, ?_⟩
    walk_at "go"
    refine ⟨_, 1, 1, _, iv2, rfl, rfl, rfl, fun u iu => ?_⟩
    have iu : Im K H2 u (.tuple (ds.map Tst.d)) := iu
    obtain ⟨b, xs, rfl, ht, hs⟩ := id iu.t
    have len := hs.len
    rw [List.length_map] at len
    refine ⟨b, rfl, ⟨_, ht⟩, fun D nD => ?_⟩
    refine loop_tup (K := K) (a := b) (xs := xs) (fun i H3 => Hold (Same H2 H3 ∧ H3 D = some (.lst ((((ds.take i).map Tst.ws).map sideS).map V.str))))
        (.mk ⟨same_new nD, upd_same⟩) (fun i H3 _ h => (same_tk h.out.1).t _ _ ht) ?_ ?_
    · intro i x H3 hi h
      obtain ⟨s3, e3⟩ := h.out
      obtain ⟨d0, hd0, ix⟩ := hs.get hi
      rw [List.getElem?_map] at hd0
      obtain ⟨d, hd, rfl⟩ := Option.map_eq_some_iff.mp hd0
      rw [Tst.d_ws] at ix
      obtain ⟨wl2, ww⟩ := dw d.ws (List.mem_map_of_mem (List.mem_of_getElem? hd))
      obtain ⟨c, ys, rfl, htc, hsc⟩ := id (ix.u (same_tk s3)).t
      have lenc := hsc.len
      walk_at "go"
      refine ⟨⟨_, rfl⟩, ?_⟩
      walk_at "go"
      intro G nG
      refine loop_tup (K := K) (a := c) (xs := ys) (fun j H4 => Hold (Same H3 H4 ∧ H4 G = some (.lst (((d.ws.take j).map wordS).map V.str))))
          (.mk ⟨same_new nG, upd_same⟩) (fun j H4 _ h => (same_tk h.out.1).t _ _ htc) ?_ ?_
      · intro j y H4 hj h
        obtain ⟨s4, e4⟩ := h.out
        obtain ⟨f, hf, iy⟩ := hsc.get hj
        walk_at "go"
        refine ⟨_, _, rfl, word_or iy (ww f (List.mem_of_getElem? hf)), ww f (List.mem_of_getElem? hf), ?_⟩
        refine ⟨_, e4, ?_, .mk ⟨same_put s4 nG, ?_⟩⟩
        · rw [List.length_map, List.length_map, List.length_take]
          exact small1000 (by omega)
        · rw [upd_same, take_succ hf, List.map_append, List.map_append]
          rfl
      intro H4 h
      obtain ⟨s4, e4⟩ := h.out
      rw [lenc, List.take_length] at e4
      walk_at "go"
      refine ⟨_, _, _, rfl, rfl, SqL.of e4, words_len (by omega) ww, ?_⟩
      refine ⟨_, s4 _ _ e3, ?_, .mk ⟨same_put (s3.trans s4) nD, ?_⟩⟩
      · rw [List.length_map, List.length_map, List.length_map, List.length_take]
        exact small1000 (by omega)
      · rw [upd_same, take_succ hd, List.map_append, List.map_append, List.map_append]
        rfl
    · intro H3 h
      obtain ⟨s3, e3⟩ := h.out
      rw [len, List.take_length] at e3
      walk_at "go"
      have sc : ((", " : Str)).length = 2 := by decide +kernel
      refine ⟨_, _, _, rfl, rfl, SqL.of e3, ?_, ?_⟩
      · rw [sc, List.length_map, List.length_map]; omega
      have iv3 := iv2.u (same_tk s3)
      walk_at "go"
      walk_at "wds"
      walk_at "len"
      walk_at "len"
      walk_at "len"
      refine ⟨_, 2, 2, _, iv3, rfl, rfl, rfl, fun u iu => ?_⟩
      cases Im.i iu
      refine .inl ⟨_, rfl, wa.1, wa.2, ?_⟩
      walk_at "go"
      walk_at "len"
      exact q _ ((s1.trans s2).trans s3)
  | whil ds a =>
    obtain ⟨dl, dw⟩ := tests_ws hn
    obtain ⟨pl1, pl2⟩ := parts_len (ps := ds.map Tst.ws) (by rw [List.length_map]; omega) dw
    have pl3 : (Str.join ", " (List.map sideS (List.map Tst.ws ds))).length ≤ 5200 := pl1
    have wa := nm a List.mem_cons_self
    have la := nl a List.mem_cons_self
    have wl : (("while" : Str)).length ≤ 10 := by decide +kernel
    walk_at "wds"
    refine ⟨[.str "chain", .str "pair", .str "merge"], .cons (.str _) (.cons (.str _) (.cons (.str _) (.nil))), by simp, fun p1 H1 s1 t1 i1 => ?_⟩
    refine ⟨_, ["chain", "pair", "merge"], rfl, i1, ?_⟩
    refine ⟨_, rfl, ?_⟩
    walk_at "w"
    walk_at "go"
    have iv1 := iv.u t1
    walk_at "wds"
    refine ⟨_, 1, 1, _, iv1, rfl, rfl, rfl, fun u iu => ?_⟩
    have iu : Im K H1 u (.tuple (ds.map Tst.d)) := iu
    have iu2 : Im K H1 u (.tuple ((ds.map Tst.ws).map PyData.tuple)) := by
      rw [List.map_map, show PyData.tuple ∘ Tst.ws = Tst.d from funext fun d => (Tst.d_ws d).symm]
      exact iu
    refine .inr ⟨u, ds.map Tst.ws, rfl, iu2, by rw [List.length_map]; omega, dw, fun tt => ?_⟩
    walk_at "go"
    walk_at "wds"
    refine ⟨[.str "map", .str "keep", .str "while"], .cons (.str _) (.cons (.str _) (.cons (.str _) (.nil))), by simp, fun p2 H2 s2 t2 i2 => ?_⟩
    refine ⟨_, ["map", "keep", "while"], rfl, i2, ?_⟩
    refine ⟨_, rfl, ?_⟩
    walk_at "w"
    walk_at "go"
    have iv2 := iv1.u t2
    refine ⟨⟨_, rfl⟩, ?_⟩
    walk_at "go"
    refine ⟨_, 1, 1, _, iv2, rfl, rfl, rfl, fun u iu => ?_⟩
    have iu : Im K H2 u (.tuple (ds.map Tst.d)) := iu
    obtain ⟨b, xs, rfl, ht, hs⟩ := id iu.t
    have len := hs.len
    rw [List.length_map] at len
    refine ⟨b, rfl, ⟨_, ht⟩, fun D nD => ?_⟩
    refine loop_tup (K := K) (a := b) (xs := xs) (fun i H3 => Hold (Same H2 H3 ∧ H3 D = some (.lst ((((ds.take i).map Tst.ws).map sideS).map V.str))))
        (.mk ⟨same_new nD, upd_same⟩) (fun i H3 _ h => (same_tk h.out.1).t _ _ ht) ?_ ?_
    · intro i x H3 hi h
      obtain ⟨s3, e3⟩ := h.out
      obtain ⟨d0, hd0, ix⟩ := hs.get hi
      rw [List.getElem?_map] at hd0
      obtain ⟨d, hd, rfl⟩ := Option.map_eq_some_iff.mp hd0
      rw [Tst.d_ws] at ix
      obtain ⟨wl2, ww⟩ := dw d.ws (List.mem_map_of_mem (List.mem_of_getElem? hd))
      obtain ⟨c, ys, rfl, htc, hsc⟩ := id (ix.u (same_tk s3)).t
      have lenc := hsc.len
      walk_at "go"
      refine ⟨⟨_, rfl⟩, ?_⟩
      walk_at "go"
      intro G nG
      refine loop_tup (K := K) (a := c) (xs := ys) (fun j H4 => Hold (Same H3 H4 ∧ H4 G = some (.lst (((d.ws.take j).map wordS).map V.str))))
          (.mk ⟨same_new nG, upd_same⟩) (fun j H4 _ h => (same_tk h.out.1).t _ _ htc) ?_ ?_
      · intro j y H4 hj h
        obtain ⟨s4, e4⟩ := h.out
        obtain ⟨f, hf, iy⟩ := hsc.get hj
        walk_at "go"
        refine ⟨_, _, rfl, word_or iy (ww f (List.mem_of_getElem? hf)), ww f (List.mem_of_getElem? hf), ?_⟩
        refine ⟨_, e4, ?_, .mk ⟨same_put s4 nG, ?_⟩⟩
        · rw [List.length_map, List.length_map, List.length_take]
          exact small1000 (by omega)
        · rw [upd_same, take_succ hf, List.map_append, List.map_append]
          rfl
      intro H4 h
      obtain ⟨s4, e4⟩ := h.out
      rw [lenc, List.take_length] at e4
      walk_at "go"
      refine ⟨_, _, _, rfl, rfl, SqL.of e4, words_len (by omega) ww, ?_⟩
      refine ⟨_, s4 _ _ e3, ?_, .mk ⟨same_put (s3.trans s4) nD, ?_⟩⟩
      · rw [List.length_map, List.length_map, List.length_map, List.length_take]
        exact small1000 (by omega)
      · rw [upd_same, take_succ hd, List.map_append, List.map_append, List.map_append]
        rfl
    · intro H3 h
      obtain ⟨s3, e3⟩ := h.out
      rw [len, List.take_length] at e3
      walk_at "go"
      have sc : ((", " : Str)).length = 2 := by decide +kernel
      refine ⟨_, _, _, rfl, rfl, SqL.of e3, ?_, ?_⟩
      · rw [sc, List.length_map, List.length_map]; omega
      have iv3 := iv2.u (same_tk s3)
      walk_at "go"
      walk_at "wds"
      walk_at "len"
      walk_at "len"
      walk_at "len"
      refine ⟨_, 2, 2, _, iv3, rfl, rfl, rfl, fun u iu => ?_⟩
      cases Im.i iu
      refine .inl ⟨_, rfl, wa.1, wa.2, ?_⟩
      walk_at "go"
      walk_at "len"
      exact q _ ((s1.trans s2).trans s3)

def spNumR (K : PySem.W.Frag) : Sp := fun vs H Q _ => ∃ (w : Str), vs = [.str w] ∧ w.length ≤ 1000000 ∧ Q (match numR w with | some n => .int n | none => .non) H
theorem ok_number_read (T : Tx P K w mg) : FnOk P w K mg base CX0 1 T.number_read.f T.number_read.fd ["word"] (spNumR K) := by
  refine T.number_read.F.ok sc_number_read (fun vs H Q E h => ?_) (fun cdv A outer s H vs Q E hr h => ?_)
  · obtain ⟨a, rfl, _⟩ := h
    rfl
  obtain ⟨w, rfl, hl, q⟩ := h
  refine ⟨_, (pss_cons (ps_if (PW.pt (pw_or (pt_not (PW.pt (pw_and (pt_val (pe_bm0 PySem.F.plainAttrs_str PySem.F.slot_str_isascii PySem.F.type_str_isascii mt_isascii (pv 0))) (pw_and1 (pt_val (pe_bm0 PySem.F.plainAttrs_str PySem.F.slot_str_isdigit PySem.F.type_str_isdigit mt_isdigit (pv 0))))))) (pw_or1 (pt_cmpR op_gt (pe_callB call_len_str (by rfl) T.z_len PySem.boot_len (pa_cons (pv 0) pa_nil)) (pe_glob (v := .int 9) (by rfl) T.c_MOST_FIGURES.g ⟨_, rfl⟩) (nomark _))))) (pss_one (ps_ret pe_non)) pss_nil)
      (pss_cons (ps_if (PW.pt (pw_and (pt_cmpR op_eq (pe_ix ix_str (pv 0) pe_int (fun _ _ => rfl)) pe_str (nomark _)) (pw_and1 (pt_cmpR op_ne (pv 0) pe_str (nomark _))))) (pss_one (ps_ret pe_non)) pss_nil)
      (pss_one (ps_ret (pe_callTy call_int_str (by rfl) T.z_int (by decide +kernel) (pa_cons (pv 0) pa_nil)))))), ?_⟩
  walk_at "go"
  have q0 : numR w = none → Q .non H := fun e => by rw [e] at q; exact q
  refine ⟨trivial, ?_⟩
  walk_at "go"
  by_cases ha : Txt.isascii w = true
  · refine ite_t ha ?_
    walk_at "go"
    refine ⟨trivial, ?_⟩
    refine ⟨_, rfl, ?_⟩
    by_cases hd : Txt.isdigit w = true
    · refine ite_f (by rw [hd]; rfl) ?_
      walk_at "go"
      refine ⟨by rw [sizeLine_eq]; omega, ?_⟩
      walk_at "go"
      by_cases hn : 9 < w.length
      · refine ite_t (decide_eq_true (by omega)) ?_
        exact q0 (if_pos (.inr hn))
      refine ite_f (decide_eq_false (by omega)) ?_
      have e0 : numR w = if w.cps.toList.head? = some 48 ∧ w ≠ "0" then none else some ((NumText.digitsVal w.cps.toList : Nat) : Int) := if_neg (by rw [ha, hd]; exact fun z => z.elim (fun z => by cases z) (fun z => hn z))
      obtain ⟨ne, dg⟩ := ascii_digits ha hd
      obtain ⟨c, r, ec⟩ := List.exists_cons_of_ne_nil ne
      walk_at "go"
      refine ⟨w, 0, c, rfl, rfl, by rw [sizeLine_eq]; omega, by rw [ec]; exact atI_zero c r, ?_⟩
      walk_at "go"
      have fin : ¬ (w.cps.toList.head? = some 48 ∧ w ≠ "0") → numR w = some ((NumText.digitsVal w.cps.toList : Nat) : Int) := fun n => e0.trans (if_neg n)
      have last : ¬ (w.cps.toList.head? = some 48 ∧ w ≠ "0") → intText? w = some ((NumText.digitsVal w.cps.toList : Nat) : Int) ∧ w.length ≤ 640 ∧ Q (.int ((NumText.digitsVal w.cps.toList : Nat) : Int)) H := fun n =>
        ⟨int_of_digits ha hd (by omega), by omega, by have := q; rw [fin n] at this; exact this⟩
      by_cases hc : c = 48
      · refine ite_t (decide_eq_true (by subst hc; rfl)) ?_
        walk_at "go"
        by_cases hz : w = "0"
        · have l := last fun z => z.2 hz
          refine ite_f (by subst hz; rfl) ?_
          walk_at "go"
          exact ⟨w, _, rfl, l⟩
        · refine ite_t (by rw [show decide (V.str w = V.str "0") = false from decide_eq_false fun z => hz (V.str.inj z)]; rfl) ?_
          exact q0 (e0.trans (if_pos ⟨by rw [ec, hc]; rfl, hz⟩))
      · have l := last fun z => by rw [ec] at z; exact hc (Option.some.inj z.1)
        refine ite_f (decide_eq_false fun z => hc ?_) ?_
        · have := congrArg (fun x : Str => x.cps.toList) (V.str.inj z)
          exact (List.cons.inj this).1
        walk_at "go"
        exact ⟨w, _, rfl, l⟩
    · refine ite_t (by rw [Bool.eq_false_iff.mpr hd]; rfl) ?_
      walk_at "go"
      exact q0 (if_pos (.inl (by rw [Bool.eq_false_iff.mpr hd, Bool.and_false])))
  · refine ite_f (Bool.eq_false_iff.mpr ha) ?_
    walk_at "go"
    exact q0 (if_pos (.inl (by rw [Bool.eq_false_iff.mpr ha, Bool.false_and])))

def spNumsR (K : PySem.W.Frag) : Sp := fun vs H Q _ => ∃ (v m : V), vs = [v, m] ∧ Hold (∃ (a : Addr) (n : Nat) (w : Str) (r : List Str), v = .ref a ∧ m = .int n ∧ n ≤ 2 ∧ SqL K H a ((w :: r).map V.str) ∧ Shorts (w :: r) ∧ Ans K H Q (headR (w :: r) n))
theorem ok_numbers_read (T : Tx P K w mg) : FnOk P w K mg base CX0 2 T.numbers_read.f T.numbers_read.fd ["words", "many"] (spNumsR K) := by
  refine T.numbers_read.F.ok sc_numbers_read (fun vs H Q E h => ?_) (fun cdv A outer s H vs Q E hr h => ?_)
  · obtain ⟨a, b, rfl, _⟩ := h
    rfl
  obtain ⟨v, m, rfl, h⟩ := h
  obtain ⟨a, n, u, r, rfl, rfl, n2, sq, ⟨hl, hs⟩, q⟩ := h.out
  refine ⟨_, (pss_cons (ps_setLc (i := 2) (own := [("word", 3)]) (g := gName 3) (tt := tYes) rfl sc_numbers_read.nd rfl rfl (sw_true rfl rfl rfl (by decide +kernel)) (pi_list (pe_slice sl_list (pv 0) (po_some pe_int) po_none)) (blkOk_by (own := [("word", 3)]) (N := ["words", "many", "numbers", "word"]) (sc := defScope s_numbers_read) (by decide +kernel)) (fun _ _ _ _ _ => pg_name (i := 3) sc_numbers_read.nd rfl (Or.inl rfl)) (fun _ _ _ _ _ => pts_nil) (fun _ _ _ _ _ => (pe_call (ok_number_read T) hr (by rfl) T.number_read.g T.number_read.F.kp T.number_read.b .nil pass0 (pa_cons (pv 3) pa_nil))))
      (pss_cons (ps_if (PW.pt (pw_or (pt_cmpR op_ne (pe_callB call_len_seq (by rfl) T.z_len PySem.boot_len (pa_cons (pv 2) pa_nil)) (pv 1) (nomark _)) (pw_or1 (pt_cmpR op_in_seq pe_non (pv 2) (by rfl))))) (pss_one (ps_ret pe_non)) pss_nil)
      (pss_one (ps_ret (pe_td (pa_cons (pe_ix ix_list (pv 0) pe_int (fun _ _ => rfl)) (StX.pa_star (pv 2) pa_nil))))))), ?_⟩
  walk_at "go"
  have ec : cutV ((u :: r).map V.str) (some 1) none = r.map V.str := cut1 _ _
  refine ⟨a, _, rfl, sq, fun p np => ?_⟩
  have s1 : Same H (upd H p (.lst (cutV ((u :: r).map V.str) (some 1) none))) := same_new np
  have e1 : upd H p (.lst (cutV ((u :: r).map V.str) (some 1) none)) p = some (.lst (r.map V.str)) := by rw [upd_same, ec]
  refine ⟨p, rfl, ⟨_, SqL.of e1⟩, fun D nD => ?_⟩
  have s2 := s1.trans (same_new nD (o := .lst []))
  have pD := ne_of_none e1 nD
  refine loop_list (K := K) (a := p) (xs := r.map V.str) (fun i H2 => Hold (Same H H2 ∧ H2 p = some (.lst (r.map V.str)) ∧ H2 D = some (.lst (((r.take i).map numR).map ans)) ∧ H D = none))
    (.mk ⟨s2, same_new nD _ _ e1, upd_same, s1.free nD⟩) (fun i H2 _ h => SqL.of h.out.2.1) ?_ ?_
  · intro i x H2 hi h
    obtain ⟨s3, e3, f3, nD0⟩ := h.out
    rw [List.getElem?_map] at hi
    obtain ⟨z, hz, rfl⟩ := Option.map_eq_some_iff.mp hi
    walk_at "go"
    refine ⟨hs z (List.mem_cons_of_mem _ (List.mem_of_getElem? hz)), _, f3, ?_, .mk ⟨same_put s3 nD0, by rw [upd_ne pD]; exact e3, ?_, nD0⟩⟩
    · rw [List.length_map, List.length_map, List.length_take, sizeLine_eq]
      have : r.length < 1000000 := by have : (u :: r).length = r.length + 1 := rfl; omega
      omega
    · rw [upd_same, take_succ hz, List.map_append, List.map_append]
      rfl
  · intro H2 h
    obtain ⟨s3, e3, f3, nD0⟩ := h.out
    rw [List.length_map, List.take_length] at f3
    walk_at "go"
    have s4 : SqL K H2 D _ := SqL.of f3
    by_cases hc : r.length = n
    · refine ite_f (by rw [List.length_map, List.length_map, hc]; simp) ?_
      walk_at "go"
      refine ⟨ans_flat _, _, rfl, ?_⟩
      cases e : numsR r with
      | none =>
        have hi : (if false = true then !inV .non ((r.map numR).map ans) else inV .non ((r.map numR).map ans)) = true := by rw [if_neg Bool.false_ne_true, nums_in, e]; rfl
        refine ite_t hi ?_
        rw [head_none e] at q
        exact q H2 s3
      | some l =>
        have hi : (if false = true then !inV .non ((r.map numR).map ans) else inV .non ((r.map numR).map ans)) = false := by rw [if_neg Bool.false_ne_true, nums_in, e]; rfl
        refine ite_f hi ?_
        rw [head_some e hc] at q
        rw [nums_some e] at f3
        walk_at "go"
        refine ⟨a, _, 0, .str u, rfl, rfl, s3.seq sq, atI_zero _ _, ?_⟩
        walk_at "go"
        refine ⟨.str u :: l.map PyData.int, ?_, ?_, fun p H' s t i => q _ _ (s3.trans s) i⟩
        · rw [List.append_nil, nums_some e]
          exact .cons (.str _) (Ims.ints _)
        · have := numsR_len e
          simp only [List.length_cons, List.length_map]
          omega
    · refine ite_t (by rw [List.length_map, List.length_map, Bool.not_eq_true', decide_eq_false_iff_not]; intro z; injection z with z; exact hc (Int.ofNat.inj z)) ?_
      rw [head_len hc] at q
      exact q H2 s3

def spPartR (K : PySem.W.Frag) : Sp := fun vs H Q _ => ∃ (v k : V), vs = [v, k] ∧ Hold (∃ (a : Addr) (known : List Str) (w : Str) (r : List Str), v = .ref a ∧ (∃ b, k = .ref b ∧ ∀ H, SqT K H b (known.map V.str)) ∧ SqL K H a ((w :: r).map V.str) ∧ Shorts (w :: r) ∧ Ans K H Q (partR known (w :: r)))
theorem ok_part_read (T : Tx P K w mg) : FnOk P w K mg base CX0 3 T.part_read.f T.part_read.fd ["words", "known"] (spPartR K) := by
  refine T.part_read.F.ok sc_part_read (fun vs H Q E h => ?_) (fun cdv A outer s H vs Q E hr h => ?_)
  · obtain ⟨a, b, rfl, _⟩ := h
    rfl
  obtain ⟨v, k, rfl, h⟩ := h
  obtain ⟨a, known, u, r, rfl, ⟨b, rfl, sk⟩, sq, hl, q⟩ := h.out
  refine ⟨_, (pss_cons (ps_if (pt_cmpR op_notIn_seq (pe_ix ix_list (pv 0) pe_int (fun _ _ => rfl)) (pv 1) (by rfl)) (pss_one (ps_ret pe_non)) pss_nil)
      (pss_one (ps_ret (pe_call (ok_numbers_read T) hr (by rfl) T.numbers_read.g T.numbers_read.F.kp T.numbers_read.b .nil pass0 (pa_cons (pv 0) (pa_cons (pe_kget (pe_glob (v := .ref T.c_NUMBERS.a) (by rfl) T.c_NUMBERS.g rfl) (pe_ix ix_list (pv 0) pe_int (fun _ _ => rfl)) pe_int ⟨by rfl, by rfl, by rfl, by rfl⟩) pa_nil)))))), ?_⟩
  walk_at "go"
  refine ⟨a, _, 0, .str u, rfl, rfl, sq, atI_zero _ _, ?_⟩
  walk_at "go"
  refine ⟨b, _, rfl, .inr (sk _), rfl, strs_flat _, _, rfl, ?_⟩
  by_cases hk : u ∈ known
  · have hi : (if true = true then !inV (.str u) (known.map V.str) else inV (.str u) (known.map V.str)) = false := by rw [if_pos rfl, in_strs, decide_eq_true hk]; rfl
    refine ite_f hi ?_
    walk_at "go"
    refine ⟨T.c_NUMBERS.a, numbersC, rfl, T.c_NUMBERS.h, ?_⟩
    walk_at "go"
    refine ⟨a, _, 0, .str u, rfl, rfl, sq, atI_zero _ _, ?_⟩
    walk_at "go"
    rw [many_get]
    refine .mk ⟨a, _, u, r, rfl, rfl, many_le u, sq, hl, ?_⟩
    have e : partR known (u :: r) = headR (u :: r) (manyOf u) := if_pos hk
    rw [← e]
    exact q
  · have hi : (if true = true then !inV (.str u) (known.map V.str) else inV (.str u) (known.map V.str)) = true := by rw [if_pos rfl, in_strs, decide_eq_false hk]; rfl
    refine ite_t hi ?_
    have e : partR known (u :: r) = none := if_neg hk
    rw [e] at q
    exact q H (Same.refl H)

def spPartsR (K : PySem.W.Frag) : Sp := fun vs H Q _ => ∃ (v k : V), vs = [v, k] ∧ Hold (∃ (a : Addr) (known : List Str) (w : Str) (r : List Str), v = .ref a ∧ (∃ b, k = .ref b ∧ (∀ H, SqT K H b (known.map V.str)) ∧ ∀ w ∈ known, PyData.strOk w = true) ∧ SqL K H a ((w :: r).map V.str) ∧ Wds (w :: r) ∧ Ans K H Q (partsR known (w :: r)))
theorem ok_parts_read (T : Tx P K w mg) : FnOk P w K mg base CX0 4 T.parts_read.f T.parts_read.fd ["words", "known"] (spPartsR K) := by
  refine T.parts_read.F.ok sc_parts_read (fun vs H Q E h => ?_) (fun cdv A outer s H vs Q E hr h => ?_)
  · obtain ⟨a, b, rfl, _⟩ := h
    rfl
  obtain ⟨v, k, rfl, h⟩ := h
  obtain ⟨a, known, u, r, rfl, ⟨b, rfl, sk, ko⟩, sq, hl, q⟩ := h.out
  refine ⟨_, (pss_cons (ps_setLc (i := 2) (own := [("part", 3)]) (g := gName 3) (tt := tYes) rfl sc_parts_read.nd rfl rfl (sw_true rfl rfl rfl (by decide +kernel)) (pi_list (pe_splitK (pe_joinK (K := K) rfl pe_str (pe_slice sl_list (pv 0) (po_some pe_int) po_none)) pe_str)) (blkOk_by (own := [("part", 3)]) (N := ["words", "known", "parts", "part"]) (sc := defScope s_parts_read) (by decide +kernel)) (fun _ _ _ _ _ => pg_name (i := 3) sc_parts_read.nd rfl (Or.inl rfl)) (fun _ _ _ _ _ => pts_nil) (fun _ _ _ _ _ => (pe_call (ok_part_read T) hr (by rfl) T.part_read.g T.part_read.F.kp T.part_read.b .nil pass0 (pa_cons (pe_splitK (pv 3) pe_str) (pa_cons (pv 1) pa_nil)))))
      (pss_one (ps_ret (pe_ifExp (pt_cmpR (op_inD (hu65 hr)) pe_non (pv 2) (by rfl)) pe_non (pe_td (pa_cons (pe_ix ix_list (pv 0) pe_int (fun _ _ => rfl)) (pa_cons (pe_callTy call_tupleA (by rfl) T.z_tuple (by decide +kernel) (pa_cons (pv 2) pa_nil)) pa_nil))))))), ?_⟩
  have sp1 : ((" " : Str)).length = 1 := by decide +kernel
  have hj := hl.join
  have ht := hl.tail
  have ec : cutV ((u :: r).map V.str) (some 1) none = r.map V.str := cut1 _ _
  walk_at "go"
  refine ⟨⟨_, rfl⟩, ?_⟩
  walk_at "go"
  refine ⟨a, _, rfl, sq, fun p np => ?_⟩
  have s1 : Same H (upd H p (.lst (cutV ((u :: r).map V.str) (some 1) none))) := same_new np
  have e1 : upd H p (.lst (cutV ((u :: r).map V.str) (some 1) none)) p = some (.lst (r.map V.str)) := by rw [upd_same, ec]
  refine ⟨_, p, r, rfl, rfl, SqL.of e1, by rw [sp1]; omega, ?_⟩
  refine ⟨⟨_, rfl⟩, ?_⟩
  walk_at "go"
  refine ⟨by rw [sizeLine_eq]; omega, fun p2 H2 n2 s2 e2 => ?_⟩
  have row2 := split_cm hj
  generalize hps : Txt.split (Str.join " " r) ", " = ps at e2 row2
  have eq : partsR known (u :: r) = (match allR (ps.map fun p => partR known (Txt.split p " ")) with
    | some ps => some [PyData.str u, PyData.tuple (ps.map PyData.tuple)]
    | none => none) := by rw [← hps]; rfl
  generalize hos : (ps.map fun p => partR known (Txt.split p " ")) = os at eq
  have los : os.length = ps.length := by rw [← hos, List.length_map]
  have oko : ∀ o ∈ os, POk known o := fun o ho => by
    rw [← hos] at ho
    obtain ⟨p, _, rfl⟩ := List.mem_map.mp ho
    exact partR_ok _ _
  have hlp : ps.length ≤ 1000000 := by unfold Wds at row2; omega
  refine ⟨p2, rfl, ⟨_, SqL.of e2⟩, fun D nD => ?_⟩
  have s12 := s1.trans s2
  have s3 := s12.trans (same_new nD (o := .lst []))
  have pD := ne_of_none e2 nD
  refine loop_list (K := K) (a := p2) (xs := ps.map V.str) (fun i H3 => Hold (Same H H3 ∧ H3 p2 = some (.lst (ps.map V.str)) ∧ Acc K H3 D ((os.take i).map dOf) ∧ H D = none))
    (.mk ⟨s3, same_new nD _ _ e2, acc_nil upd_same, s12.free nD⟩) (fun i H3 _ h => SqL.of h.out.2.1) ?_ ?_
  · intro i x H3 hi h
    obtain ⟨s4, e4, a4, nD0⟩ := h.out
    rw [List.getElem?_map] at hi
    obtain ⟨z, hz, rfl⟩ := Option.map_eq_some_iff.mp hi
    have hzl := row2.one (List.mem_of_getElem? hz)
    have ho : os[i]? = some (partR known (Txt.split z " ")) := by rw [← hos, List.getElem?_map, hz]; rfl
    have hil := (List.getElem?_eq_some_iff.mp hz).1
    walk_at "go"
    refine ⟨⟨_, rfl⟩, ?_⟩
    walk_at "go"
    refine ⟨by rw [sizeLine_eq]; omega, fun p3 H4 n3 s5 e5 => ?_⟩
    obtain ⟨w', r', ew, roww⟩ := split_sp hzl
    rw [ew] at e5 ho
    walk_at "go"
    have key : ∀ (v : V) (H5 : Hp), Same H4 H5 → Im K H5 v (dOf (partR known (w' :: r'))) → ∃ acc, H5 D = some (.lst acc) ∧ acc.length < sizeLine ∧ Hold (Same H (upd H5 D (.lst (acc ++ [v]))) ∧ upd H5 D (.lst (acc ++ [v])) p2 = some (.lst (ps.map V.str)) ∧ Acc K (upd H5 D (.lst (acc ++ [v]))) D ((os.take (i + 1)).map dOf) ∧ H D = none) := fun v H5 s6 iv => by
      have s7 := s5.trans s6
      obtain ⟨acc, ea, hla, b7, t7, a7⟩ := (a4.same s7).push iv (by rw [List.length_map, List.length_take]; omega)
      refine ⟨acc, ea, hla, .mk ⟨same_put (s4.trans s7) nD0, b7 _ _ pD (s7 _ _ e4), ?_, nD0⟩⟩
      rw [take_succ ho, List.map_append]
      exact a7
    refine .mk ⟨p3, known, w', r', rfl, ⟨b, rfl, sk⟩, SqL.of e5, roww.shorts, ?_⟩
    cases e : partR known (w' :: r') with
    | none => exact fun H5 s6 => key .non H5 s6 (by rw [e]; exact .non)
    | some ds => exact fun v H5 s6 iv => key v H5 s6 (by rw [e]; exact iv)
  · intro H3 h
    obtain ⟨s4, e4, a4, nD0⟩ := h.out
    rw [List.length_map, ← los, List.take_length] at a4
    walk_at "go"
    refine ⟨.none, _, .non, a4.dp, rfl, parts_shaped ko oko, ?_⟩
    refine ⟨_, rfl, ?_⟩
    cases e : allR os with
    | none =>
      have hi : ((os.map dOf).any fun z => PyData.eqv z .none) = true := by rw [none_any, e]; rfl
      refine ite_t hi ?_
      rw [e] at eq
      rw [eq] at q
      exact q H3 s4
    | some pl =>
      have hi : ((os.map dOf).any fun z => PyData.eqv z .none) = false := by rw [none_any, e]; rfl
      refine ite_f hi ?_
      rw [e] at eq
      rw [eq] at q
      rw [all_some e] at a4
      walk_at "go"
      refine ⟨a, _, 0, .str u, rfl, rfl, s4.seq sq, atI_zero _ _, ?_⟩
      walk_at "go"
      refine ⟨D, _, rfl, a4, fun p5 H5 s5 t5 i5 => ?_⟩
      walk_at "go"
      exact ⟨[.str u, .tuple (pl.map PyData.tuple)], .cons (.str _) (.cons i5 .nil), (by decide : 2 ≤ 1000), fun p H' s t i => q _ _ ((s4.trans s5).trans s) i⟩

def spAheadR (K : PySem.W.Frag) : Sp := fun vs H Q _ => ∃ (v : V), vs = [v] ∧ Hold (∃ (a : Addr) (w : Str) (r : List Str), v = .ref a ∧ SqL K H a ((w :: r).map V.str) ∧ Wds (w :: r) ∧ Ans K H Q (aheadR (w :: r)))
set_option hygiene false in
local macro_rules | `(tactic| walk_at "ahead_rest") => `(tactic| (
  walk_at "go"
  refine ⟨a, _, 0, .str u, rfl, rfl, sq1, atI_zero _ _, ?_⟩
  walk_at "go"
  by_cases h3 : u = "map"
  · refine ite_t (decide_eq_true (congrArg V.str h3)) ?_
    walk_at "go"
    refine .mk ⟨a, deedW, u, r, rfl, ⟨T.c_DEEDS.a, rfl, T.c_DEEDS.h, by decide +kernel⟩, sq1, hl, ?_⟩
    rw [e2, if_pos h3] at q
    exact q.same s1
  refine ite_f (decide_eq_false fun z => h3 (V.str.inj z)) ?_
  walk_at "go"
  refine ⟨a, _, 0, .str u, rfl, rfl, sq1, atI_zero _ _, ?_⟩
  walk_at "go"
  refine ⟨[.str "keep", .str "while"], .cons (.str _) (.cons (.str _) .nil), (by decide : 2 ≤ 1000), fun p2 H2 s2 t2 i2 => ?_⟩
  refine ⟨u, ["keep", "while"], rfl, i2, _, rfl, ?_⟩
  by_cases h4 : u ∈ (["keep", "while"] : List Str)
  · refine ite_t (decide_eq_true h4) ?_
    walk_at "go"
    refine .mk ⟨a, testW, u, r, rfl, ⟨T.c_TESTS.a, rfl, T.c_TESTS.h, by decide +kernel⟩, s2.seq sq1, hl, ?_⟩
    rw [e2, if_neg h3, if_pos h4] at q
    exact q.same (s1.trans s2)
  refine ite_f (decide_eq_false h4) ?_
  rw [e2, if_neg h3, if_neg h4] at q
  exact q H2 (s1.trans s2)))
theorem ok_ahead_of_place (T : Tx P K w mg) : FnOk P w K mg base CX0 5 T.ahead_of_place.f T.ahead_of_place.fd ["words"] (spAheadR K) := by
  refine T.ahead_of_place.F.ok sc_ahead_of_place (fun vs H Q E h => ?_) (fun cdv A outer s H vs Q E hr h => ?_)
  · obtain ⟨a, rfl, _⟩ := h
    rfl
  obtain ⟨v, rfl, h⟩ := h
  obtain ⟨a, u, r, rfl, sq, hl, q⟩ := h.out
  refine ⟨_, (pss_cons (ps_if (pt_cmpR op_inTS (pe_ix ix_list (pv 0) pe_int (fun _ _ => rfl)) (pe_td (pa_cons pe_str (pa_cons pe_str (pa_cons pe_str (pa_cons pe_str pa_nil))))) (by rfl)) (pss_one (ps_ret (pe_call (ok_numbers_read T) (hr.mono (by decide)) (by rfl) T.numbers_read.g T.numbers_read.F.kp T.numbers_read.b .nil pass0 (pa_cons (pv 0) (pa_cons pe_int pa_nil))))) pss_nil)
      (pss_cons (ps_if (PW.pt (pw_and (pt_cmpR op_eq (pe_ix ix_list (pv 0) pe_int (fun _ _ => rfl)) pe_str (nomark _)) (pw_and (pt_cmpR op_eq (pe_callB call_len_seq (by rfl) T.z_len PySem.boot_len (pa_cons (pv 0) pa_nil)) pe_int (nomark _)) (pw_and1 (pt_cmpR op_in_seq (pe_ix ix_list (pv 0) pe_int (fun _ _ => rfl)) (pe_glob (v := .ref T.c_FOLDS.a) (by rfl) T.c_FOLDS.g rfl) (by rfl)))))) (pss_cons (ps_set (i := 1) sc_ahead_of_place.nd rfl (by first | exact Or.inl rfl | exact Or.inr rfl) (pe_call (ok_number_read T) (hr.mono (by decide)) (by rfl) T.number_read.g T.number_read.F.kp T.number_read.b .nil pass0 (pa_cons (pe_ix ix_list (pv 0) pe_int (fun _ _ => rfl)) pa_nil)))
      (pss_one (ps_ret (pe_ifExp (pt_cmpR op_isN (pv 1) pe_non (nomark _)) pe_non (pe_td (pa_cons pe_str (pa_cons (pe_ix ix_list (pv 0) pe_int (fun _ _ => rfl)) (pa_cons (pv 1) pa_nil)))))))) pss_nil)
      (pss_cons (ps_if (pt_cmpR op_eq (pe_ix ix_list (pv 0) pe_int (fun _ _ => rfl)) pe_str (nomark _)) (pss_one (ps_ret (pe_call (ok_parts_read T) hr (by rfl) T.parts_read.g T.parts_read.F.kp T.parts_read.b .nil pass0 (pa_cons (pv 0) (pa_cons (pe_glob (v := .ref T.c_DEEDS.a) (by rfl) T.c_DEEDS.g rfl) pa_nil))))) pss_nil)
      (pss_cons (ps_if (pt_cmpR op_inTS (pe_ix ix_list (pv 0) pe_int (fun _ _ => rfl)) (pe_td (pa_cons pe_str (pa_cons pe_str pa_nil))) (by rfl)) (pss_one (ps_ret (pe_call (ok_parts_read T) hr (by rfl) T.parts_read.g T.parts_read.F.kp T.parts_read.b .nil pass0 (pa_cons (pv 0) (pa_cons (pe_glob (v := .ref T.c_TESTS.a) (by rfl) T.c_TESTS.g rfl) pa_nil))))) pss_nil)
      (pss_one (ps_ret pe_non)))))), ?_⟩
  walk_at "go"
  refine ⟨a, _, 0, .str u, rfl, rfl, sq, atI_zero _ _, ?_⟩
  walk_at "go"
  refine ⟨[.str "take", .str "skip", .str "group", .str "window"], .cons (.str _) (.cons (.str _) (.cons (.str _) (.cons (.str _) .nil))), (by decide : 4 ≤ 1000), fun p1 H1 s1 t1 i1 => ?_⟩
  have sq1 := s1.seq sq
  refine ⟨u, ["take", "skip", "group", "window"], rfl, i1, _, rfl, ?_⟩
  by_cases h1 : u ∈ (["take", "skip", "group", "window"] : List Str)
  · refine ite_t (decide_eq_true h1) ?_
    walk_at "go"
    refine .mk ⟨a, 1, u, r, rfl, rfl, by decide, sq1, hl.shorts, ?_⟩
    have e : aheadR (u :: r) = headR (u :: r) 1 := if_pos h1
    rw [e] at q
    exact q.same s1
  refine ite_f (decide_eq_false h1) ?_
  walk_at "go"
  refine ⟨a, _, 0, .str u, rfl, rfl, sq1, atI_zero _ _, ?_⟩
  walk_at "go"
  by_cases hf : u = "fold" ∧ foldTail r = true
  · obtain ⟨h2, h6⟩ := hf
    refine ite_t (decide_eq_true (congrArg V.str h2)) ?_
    obtain ⟨f, n, rfl, h7⟩ := fold_tail h6
    walk_at "go"
    refine ⟨T.c_FOLDS.a, _, rfl, .inr (T.c_FOLDS.h _), rfl, strs_flat foldW, _, rfl, ?_⟩
    have hi : (if false = true then !inV (.str f) (foldW.map V.str) else inV (.str f) (foldW.map V.str)) = true := by rw [if_neg Bool.false_ne_true, in_strs, decide_eq_true h7]
    refine ite_t hi ?_
    walk_at "go"
    refine ⟨hl.shorts.2 n (by simp), ?_⟩
    have eN : aheadR ["fold", f, n] = (numR n).map fun n => [.str "fold", .str f, .int n] := by
      show aheadC "fold" [f, n] = _
      unfold aheadC
      rw [if_neg (by decide +kernel), if_pos ⟨rfl, h6⟩]
      rfl
    rw [h2, eN] at q
    cases e : numR n with
    | none =>
      rw [e] at q
      walk_at "go"
      exact q H1 s1
    | some m =>
      rw [e] at q
      walk_at "go"
      exact ⟨[.str "fold", .str f, .int m], .cons (.str _) (.cons (.str _) (.cons (.int _) .nil)), (by decide : 3 ≤ 1000), fun p H' s t i => q _ _ (s1.trans s) i⟩
  have e2 : aheadR (u :: r) = (if u = "map" then partsR deedW (u :: r) else if u ∈ (["keep", "while"] : List Str) then partsR testW (u :: r) else none) := by
    show aheadC u r = _
    unfold aheadC
    rw [if_neg h1, if_neg hf]
  by_cases h2 : u = "fold"
  · refine ite_t (decide_eq_true (congrArg V.str h2)) ?_
    walk_at "go"
    by_cases h5 : r.length = 2
    · obtain ⟨f, n, er⟩ : ∃ f n, r = [f, n] := by
        match r, h5 with
        | [f, n], _ => exact ⟨f, n, rfl⟩
      have h7 : f ∉ foldW := fun z => hf ⟨h2, by rw [er]; exact decide_eq_true z⟩
      have h8 : decide (V.int (((u :: r).map V.str).length : Nat) = V.int 3) = true := by rw [er]; rfl
      refine ite_t h8 ?_
      walk_at "go"
      refine ⟨a, _, 1, .str f, rfl, rfl, sq1, by rw [er]; rfl, ?_⟩
      walk_at "go"
      refine ⟨T.c_FOLDS.a, _, rfl, .inr (T.c_FOLDS.h _), rfl, strs_flat foldW, _, rfl, ?_⟩
      have hi : (if false = true then !inV (.str f) (foldW.map V.str) else inV (.str f) (foldW.map V.str)) = false := by rw [if_neg Bool.false_ne_true, in_strs, decide_eq_false h7]
      refine ite_f hi ?_
      walk_at "ahead_rest"
    · refine ite_f (decide_eq_false fun z => h5 ?_) ?_
      · injection z with z
        rw [List.length_map, List.length_cons] at z
        omega
      walk_at "ahead_rest"
  · refine ite_f (decide_eq_false fun z => h2 (V.str.inj z)) ?_
    walk_at "ahead_rest"

def spLineR (K : PySem.W.Frag) : Sp := fun vs H Q _ => ∃ (v : V), vs = [v] ∧ Hold (∃ (a : Addr) (w : Str) (r : List Str), v = .ref a ∧ SqL K H a ((w :: r).map V.str) ∧ Wds (w :: r) ∧ Ans K H Q (lineR (w :: r)))
theorem ok_line_read (T : Tx P K w mg) : FnOk P w K mg base CX0 6 T.line_read.f T.line_read.fd ["words"] (spLineR K) := by
  refine T.line_read.F.ok sc_line_read (fun vs H Q E h => ?_) (fun cdv A outer s H vs Q E hr h => ?_)
  · obtain ⟨a, rfl, _⟩ := h
    rfl
  obtain ⟨v, rfl, h⟩ := h
  obtain ⟨a, u, r, rfl, sq, hl, q⟩ := h.out
  refine ⟨_, (pss_cons (ps_if (pt_cmpR op_eq (pe_ix ix_list (pv 0) pe_int (fun _ _ => rfl)) pe_str (nomark _)) (pss_one (ps_ret (pe_call (ok_numbers_read T) (hr.mono (by decide)) (by rfl) T.numbers_read.g T.numbers_read.F.kp T.numbers_read.b .nil pass0 (pa_cons (pv 0) (pa_cons pe_int pa_nil))))) pss_nil)
      (pss_cons (ps_if (pt_cmpR op_inTS (pe_ix ix_list (pv 0) pe_int (fun _ _ => rfl)) (pe_td (pa_cons pe_str (pa_cons pe_str (pa_cons pe_str pa_nil)))) (by rfl)) (pss_one (ps_ret (pe_call (ok_numbers_read T) (hr.mono (by decide)) (by rfl) T.numbers_read.g T.numbers_read.F.kp T.numbers_read.b .nil pass0 (pa_cons (pv 0) (pa_cons pe_int pa_nil))))) pss_nil)
      (pss_cons (ps_if (PW.pt (pw_or (pt_cmpR op_lt (pe_callB call_len_seq (by rfl) T.z_len PySem.boot_len (pa_cons (pv 0) pa_nil)) pe_int (nomark _)) (pw_or1 (pt_cmpR op_ne (pe_ix ix_list (pv 0) (pe_un un_neg pe_int) (fun _ _ => rfl)) pe_str (nomark _))))) (pss_one (ps_ret pe_non)) pss_nil)
      (pss_cons (ps_set (i := 1) sc_line_read.nd rfl (by first | exact Or.inl rfl | exact Or.inr rfl) (pe_call (ok_ahead_of_place T) hr (by rfl) T.ahead_of_place.g T.ahead_of_place.F.kp T.ahead_of_place.b .nil pass0 (pa_cons (pe_slice sl_list (pv 0) po_none (po_some (pe_un un_neg pe_int))) pa_nil)))
      (pss_cons (ps_set (i := 2) sc_line_read.nd rfl (by first | exact Or.inl rfl | exact Or.inr rfl) (pe_call (ok_number_read T) (hr.mono (by decide)) (by rfl) T.number_read.g T.number_read.F.kp T.number_read.b .nil pass0 (pa_cons (pe_ix ix_list (pv 0) (pe_un un_neg pe_int) (fun _ _ => rfl)) pa_nil)))
      (pss_cons (ps_if (PW.pt (pw_or (pt_cmpR op_isN (pv 1) pe_non (nomark _)) (pw_or1 (pt_cmpR op_isN (pv 2) pe_non (nomark _))))) (pss_one (ps_ret pe_non)) pss_nil)
      (pss_one (ps_ret (pe_op op_catTD (pv 1) (pe_td (pa_cons (pv 2) pa_nil))))))))))), ?_⟩
  walk_at "go"
  refine ⟨a, _, 0, .str u, rfl, rfl, sq, atI_zero _ _, ?_⟩
  walk_at "go"
  by_cases h1 : u = "source"
  · refine ite_t (decide_eq_true (congrArg V.str h1)) ?_
    walk_at "go"
    refine .mk ⟨a, 1, u, r, rfl, rfl, by decide, sq, hl.shorts, ?_⟩
    have e : lineR (u :: r) = headR (u :: r) 1 := if_pos h1
    rw [e] at q
    exact q
  refine ite_f (decide_eq_false fun z => h1 (V.str.inj z)) ?_
  walk_at "go"
  refine ⟨a, _, 0, .str u, rfl, rfl, sq, atI_zero _ _, ?_⟩
  walk_at "go"
  refine ⟨[.str "chain", .str "pair", .str "merge"], .cons (.str _) (.cons (.str _) (.cons (.str _) .nil)), (by decide : 3 ≤ 1000), fun p1 H1 s1 t1 i1 => ?_⟩
  have sq1 := s1.seq sq
  refine ⟨u, ["chain", "pair", "merge"], rfl, i1, _, rfl, ?_⟩
  by_cases h2 : u ∈ (["chain", "pair", "merge"] : List Str)
  · refine ite_t (decide_eq_true h2) ?_
    walk_at "go"
    refine .mk ⟨a, 2, u, r, rfl, rfl, by decide, sq1, hl.shorts, ?_⟩
    have e : lineR (u :: r) = headR (u :: r) 2 := by
      unfold lineR
      show (if u = "source" then _ else if u ∈ (["chain", "pair", "merge"] : List Str) then _ else _) = _
      rw [if_neg h1, if_pos h2]
    rw [e] at q
    exact q.same s1
  refine ite_f (decide_eq_false h2) ?_
  walk_at "go"
  by_cases h3 : r.length < 2
  · refine ite_t (decide_eq_true (by rw [List.length_map, List.length_cons]; omega)) ?_
    rw [line_short h1 h2 h3] at q
    exact q H1 s1
  refine ite_f (decide_eq_false (by rw [List.length_map, List.length_cons]; omega)) ?_
  obtain ⟨r0, x, y, rfl⟩ := last_two r (by omega)
  have ws : (u :: (r0 ++ [x, y])).map V.str = (u :: r0).map V.str ++ [.str x, .str y] := by simp
  rw [ws] at sq1
  rw [line_eq h1 h2] at q
  walk_at "go"
  refine ⟨a, _, -2, .str x, rfl, rfl, sq1, atI_back2 _ _ _, ?_⟩
  walk_at "go"
  by_cases h4 : x = "of"
  · refine ite_f (by rw [decide_eq_true (congrArg V.str h4)]; rfl) ?_
    rw [if_neg (fun z => z h4)] at q
    walk_at "go"
    refine ⟨a, _, rfl, sq1, fun p np => ?_⟩
    have s2 : Same H1 (upd H1 p (.lst (cutV ((u :: r0).map V.str ++ [.str x, .str y]) none (some (-2))))) := same_new np
    have ec : cutV ((u :: r0).map V.str ++ [.str x, .str y]) none (some (-2)) = (u :: r0).map V.str := cut_back2 _ _ _
    have e1 : upd H1 p (.lst (cutV ((u :: r0).map V.str ++ [.str x, .str y]) none (some (-2)))) p = some (.lst ((u :: r0).map V.str)) := by rw [upd_same, ec]
    have hy : y.length ≤ 1000000 := hl.shorts.2 y (by simp)
    walk_at "go"
    refine .mk ⟨p, u, r0, rfl, SqL.of e1, hl.front, ?_⟩
    cases e : aheadR (u :: r0) with
    | none =>
      have q0 : Ans K H Q none := by rw [e] at q; cases e2 : numR y <;> (rw [e2] at q; exact q)
      intro H2 s3
      have s4 := (s1.trans s2).trans s3
      walk_at "go"
      refine ⟨a, _, -1, .str y, rfl, rfl, (s2.trans s3).seq sq1, atI_back1 _ _ _, ?_⟩
      walk_at "go"
      exact q0 _ s4
    | some ds =>
      have dl := ahead_size e
      intro v H2 s3 iv
      have s4 := (s1.trans s2).trans s3
      obtain ⟨b, xs, rfl, ht, hs⟩ := id iv.t
      walk_at "go"
      refine ⟨a, _, -1, .str y, rfl, rfl, (s2.trans s3).seq sq1, atI_back1 _ _ _, ?_⟩
      walk_at "go"
      cases e2 : numR y with
      | none =>
        rw [e, e2] at q
        walk_at "go"
        exact q H2 s4
      | some m =>
        rw [e, e2] at q
        walk_at "go"
        refine ⟨[.int m], .cons (.int _) .nil, (by decide : 1 ≤ 1000), fun p' H3 s5 t5 i5 => ?_⟩
        exact ⟨ds, [.int m], iv.u t5, i5, by rw [List.length_singleton]; omega, fun v H4 s6 t6 i6 => q v H4 ((s4.trans s5).trans s6) i6⟩
  · refine ite_t (by rw [decide_eq_false fun z => h4 (V.str.inj z)]; rfl) ?_
    rw [if_pos h4] at q
    exact q H1 s1

def spBadText (K : PySem.W.Frag) (C : Addr) : Sp := fun vs H Q _ => ∃ (v r : V), vs = [v, r] ∧ Hold (∃ (x : Addr) (n : Int), v = .ref x ∧ r = .int n ∧ 0 ≤ n ∧ n < 10000000 ∧ H x = some (exo x C none) ∧
  ∀ dx, H dx = none → dx ≠ x → Q .non (upd (upd H dx (exd dx [("row", .int n)])) x (exo x C (some dx))))
theorem ok_BadText___init__ (T : Tx P K w mg) : FnOk P w K mg base CX0 1 T.BadText___init__.f T.BadText___init__.fd ["self", "row"] (spBadText K T.k_BadText.C) := by
  refine fn_superE (pl := _) T.BadText___init__.SF sc_BadText___init__ rfl rfl rfl T.z_super rfl (fun vs H Q E h => ?_) (fun _ => rfl) (fun _ => rfl) (fun _ => rfl) (fun _ => rfl) (fun _ => rfl) (fun A outer s H vs Q E hr h => ?_)
  · obtain ⟨a, b, rfl, _⟩ := h
    rfl
  obtain ⟨v1, v2, rfl, h⟩ := h
  obtain ⟨x, n, rfl, rfl, n0, n1, ex, q⟩ := h.out
  refine ⟨x, [.int n], _, _, rfl, ex, (pa_cons (pe_joined (PJ.cons pe_str (PJ.cons (pe_fmt (pv 1)) (PJ.cons pe_str PJ.nil)))) pa_nil), (pss_one (ps_ost (pv 0) (pv 1))), ?_⟩
  walk_at "go"
  obtain ⟨f1, f2⟩ := figs_len n0 n1
  have z0 : (Str.empty ++ ("row " : Str)).length = 4 := by decide +kernel
  refine ⟨by rw [z0]; decide, ?_⟩
  refine ⟨_, rfl, .inr ⟨n, rfl, f2, ?_⟩⟩
  refine ⟨_, rfl, by rw [PySem.Str.length_append, z0, sizeLine_eq]; omega, ?_⟩
  refine ⟨_, rfl, by rw [PySem.Str.length_append, PySem.Str.length_append, z0, show ((" is no line of a weave" : Str)).length = 22 by decide +kernel, sizeLine_eq]; omega, ?_⟩
  refine ⟨by simp, ex, ?_⟩
  refine ⟨_, rfl, _, rfl, x, _, rfl, T.x_BadText.ox, T.n_BadText_row, .inl ⟨ex, fun dx nd ne => ?_⟩⟩
  exact q dx nd ne

def spRead (K : PySem.W.Frag) (C : Addr) : Sp := fun vs H Q E => ∃ (v : V), vs = [v] ∧ Hold (∃ (t : Str), v = .str t ∧ t.length + 3 ≤ 1000000 ∧
  (∀ ls, rowsR 0 (Txt.split t "\n") = .inr ls → ∀ (p : Addr) H', H p = none → Same H H' → Acc K H' p (ls.map PyData.tuple) → Q (.ref p) H') ∧
  (∀ k, rowsR 0 (Txt.split t "\n") = .inl k → ∀ (d : Addr) H', H d = none → Same H H' → H' d = some (.xd [("row", .int k)]) → E (.ref C) (some d) H'))
theorem ok_read (T : Tx P K w mg) : FnOk P w K mg base (L2N.CX P w) 7 T.read.f T.read.fd ["text"] (spRead K T.k_BadText.C) := by
  refine okN T.read.F sc_read (fun vs H Q E h => ?_) (fun cdv A outer s H vs Q E hr h => ?_)
  · obtain ⟨a, rfl, _⟩ := h
    rfl
  obtain ⟨v, rfl, h⟩ := h
  obtain ⟨t, rfl, tl, qs, qe⟩ := h.out
  refine ⟨_, (pss_cons (ps_set (i := 1) sc_read.nd rfl (by first | exact Or.inl rfl | exact Or.inr rfl) (pe_ld pa_nil))
      (pss_cons (ps_for (L2.passes_of rfl) rfl (pi_enum (by rfl) T.z_enumerate (pa_cons (pe_splitK (pv 0) pe_str) pa_nil)) (pg_tup rfl (pgs_cons (pg_name (i := 2) sc_read.nd rfl (by first | exact Or.inl rfl | exact Or.inr rfl)) (pgs_cons (pg_name (i := 3) sc_read.nd rfl (by first | exact Or.inl rfl | exact Or.inr rfl)) pgs_nil))) (pss_cons (ps_set (i := 4) sc_read.nd rfl (by first | exact Or.inl rfl | exact Or.inr rfl) (pe_call (ok_line_read T) hr (by rfl) T.line_read.g T.line_read.F.kp T.line_read.b .nil pass0 (pa_cons (pe_splitK (pv 3) pe_str) pa_nil)))
      (pss_cons (ps_if (pt_cmpR op_isN (pv 4) pe_non (nomark _)) (pss_one (L2N.ps_raise rfl (L2N.takes_of rfl rfl rfl rfl) (pmk_oexN T.x_BadText.ox T.BadText___init__.iC T.BadText___init__.tI (ok_BadText___init__ T) (hr.mono (by decide)) T.BadText___init__.b (by rfl) T.k_BadText.g (pa_cons (pv 2) pa_nil)))) pss_nil)
      (pss_one (ps_expr (pe_bm PySem.F.plainAttrs_list PySem.F.slot_list_append PySem.F.type_list_append mt_appA (pv 1) (pa_cons (pv 4) pa_nil)))))))
      (pss_one (ps_ret (pv 1))))), ?_⟩
  walk_at "go"
  have hw := split_row (x := t) (y := "\n") (by decide +kernel) (by decide +kernel)
  generalize hrs : Txt.split t "\n" = rs at qs qe hw
  refine ⟨[], .nil, by simp, fun pw H1 n1 s1 t1 a1 => ?_⟩
  have a1 : Acc K H1 pw [] := a1
  walk_at "go"
  refine ⟨⟨t, rfl⟩, t, "\n", rfl, rfl, by decide +kernel, by rw [sizeLine_eq]; omega, fun pr H2 n2 s2 e2 => ?_⟩
  rw [hrs] at e2
  walk_at "go"
  have nw2 : H pr = none := s1.free n2
  have pwr : pw ≠ pr := by
    obtain ⟨_, z, _⟩ := a1
    exact ne_of_none z n2
  refine ⟨_, _, rfl, SqL.of e2, ?_⟩
  refine for_enum (K := K) (a := pr) (xs := rs.map V.str) (fun i σ H3 => Hold (∃ (o3 o4 o5 : Option V) (ls : List (List PyData)), σ = [some (.str t), some (.ref pw), o3, o4, o5] ∧ But pw H1 H3 ∧ TK K H1 H3 ∧ H3 pr = some (.lst (rs.map V.str)) ∧ Acc K H3 pw (ls.map PyData.tuple) ∧ ls.length = i ∧
      rowsR 0 rs = comb ls (rowsR i (rs.drop i)))) ?_ (fun i σ H3 _ h => by obtain ⟨_, _, _, _, _, _, _, z, _⟩ := h.out; exact SqL.of z) ?_ ?_
  · exact .mk ⟨none, none, none, [], rfl, same_but s2, same_tk s2, e2, a1.same s2, rfl, (comb_nil _).symm⟩
  · intro i x σ H3 T0 H4 hx h nT s4 eT
    obtain ⟨o3, o4, o5, ls, rfl, b3, t3, e3, a3, hl, hr3⟩ := h.out
    rw [List.getElem?_map] at hx
    obtain ⟨row, hrow, rfl⟩ := Option.map_eq_some_iff.mp hx
    have hmem := List.mem_of_getElem? hrow
    have hil := (List.getElem?_eq_some_iff.mp hrow).1
    have lrow : row.length + 1 ≤ 1000000 := by
      have := mem_sum hmem
      have := List.length_pos_of_mem hmem
      omega
    have li : i < 1000000 := by omega
    rw [drop_next hrow] at hr3
    obtain ⟨u, r, hsp, hwd⟩ := split_sp lrow
    have eR : rowR row = lineR (u :: r) := by
      show lineR (Txt.split row " ") = _
      rw [hsp]
    refine ⟨T0, _, rfl, SqT.of eT, rfl, ?_⟩
    walk_at "go"
    refine ⟨⟨row, rfl⟩, row, " ", rfl, rfl, by decide +kernel, by rw [sizeLine_eq]; omega, fun pl H5 n5 s5 e5 => ?_⟩
    rw [hsp] at e5
    walk_at "go"
    have s35 := s4.trans s5
    have b5 : But pw H1 H5 := b3.trans (same_but s35)
    have t5 : TK K H1 H5 := t3.trans (same_tk s35)
    refine .mk ⟨pl, u, r, rfl, SqL.of e5, hwd, ?_⟩
    cases hlr : lineR (u :: r) with
    | none =>
      rw [hlr] at eR
      refine fun H6 s6 => ?_
      walk_at "go"
      have s36 := s35.trans s6
      have e6 : rowsR 0 rs = .inl i := by
        rw [hr3]
        show comb ls (match rowR row with | none => .inl i | some l => _) = _
        rw [eR]
        rfl
      have SH : Same H H6 := fun b o e => (b3.trans (same_but s36)) b o (ne_of_none e n1) (s1 b o e)
      refine ⟨by simp, fun a na => ?_⟩
      refine ⟨_, _, rfl, .mk ⟨a, (i : Int), rfl, rfl, by omega, by omega, upd_same, fun dx nd ne => ?_⟩⟩
      have nd6 := upd_none nd ne
      refine ⟨rfl, dx, _, upd_same, by rw [upd_ne ne, upd_same], nd6, ?_⟩
      exact qe i e6 dx _ (SH.free nd6) (raised_same SH na nd6) upd_same
    | some l =>
      rw [hlr] at eR
      refine fun v H6 s6 iv => ?_
      walk_at "go"
      refine ite_f (by cases iv with | tup _ _ => rfl) ?_
      have s36 := s35.trans s6
      have a6 := a3.same s36
      walk_at "go"
      refine ⟨pw, v, _, _, rfl, rfl, a6, iv, by rw [List.length_map]; omega, fun H7 b7 t7 a7 => ?_⟩
      refine .mk ⟨_, _, _, ls ++ [l], rfl, (b3.trans (same_but s36)).trans b7, (t3.trans (same_tk s36)).trans t7, b7 _ _ pwr.symm (s36 _ _ e3), by rw [List.map_append]; exact a7, by rw [List.length_append, hl]; rfl, ?_⟩
      rw [hr3]
      show comb ls (match rowR row with | none => .inl i | some l => _) = _
      rw [eR]
      exact comb_step _ _ _
  · intro σ H3 h
    obtain ⟨o3, o4, o5, ls, rfl, b3, t3, e3, a3, hl, hr3⟩ := h.out
    rw [List.length_map] at hl hr3
    rw [List.drop_length] at hr3
    walk_at "go"
    refine qs ls ?_ pw H3 n1 (fun b o e => b3 b o (ne_of_none e n1) (s1 b o e)) a3
    rw [hr3]
    show comb ls (.inr []) = _
    exact congrArg Sum.inr (List.append_nil ls)

def kindWords : List Str := ["line", "text", "outlet", "gone", "source", "over"]
/-- the six answers for the class D -/
structure KitS (K : PySem.W.Frag) (D : Addr) (cs : List Addr) (bs : List Bool) : Prop where
  len : cs.length = bs.length
  at_ : ∀ (i : Nat) (c : Addr) (b : Bool), cs[i]? = some c → bs[i]? = some b → PySem.W.kitOne K (.ref D) (.ref c) = some b
theorem kit6 {K : PySem.W.Frag} {D c0 c1 c2 c3 c4 c5 : Addr} {b0 b1 b2 b3 b4 b5 : Bool} (h0 : PySem.W.kitOne K (.ref D) (.ref c0) = some b0) (h1 : PySem.W.kitOne K (.ref D) (.ref c1) = some b1) (h2 : PySem.W.kitOne K (.ref D) (.ref c2) = some b2)
    (h3 : PySem.W.kitOne K (.ref D) (.ref c3) = some b3) (h4 : PySem.W.kitOne K (.ref D) (.ref c4) = some b4) (h5 : PySem.W.kitOne K (.ref D) (.ref c5) = some b5) : KitS K D [c0, c1, c2, c3, c4, c5] [b0, b1, b2, b3, b4, b5] := by
  refine ⟨rfl, fun i c b e1 e2 => ?_⟩
  match i, e1, e2 with
  | 0, e1, e2 => cases e1; cases e2; exact h0
  | 1, e1, e2 => cases e1; cases e2; exact h1
  | 2, e1, e2 => cases e1; cases e2; exact h2
  | 3, e1, e2 => cases e1; cases e2; exact h3
  | 4, e1, e2 => cases e1; cases e2; exact h4
  | 5, e1, e2 => cases e1; cases e2; exact h5
  | _ + 6, e1, _ => simp at e1
def spIs (K : PySem.W.Frag) (cs : List Addr) : Addr → Value → Option Addr → Sp := fun a cls d vs H Q _ => ∃ (v1 v2 : V), vs = [v1, v2] ∧ Hold (∃ (D : Addr) (b0 b1 b2 b3 b4 b5 : Bool) (x : Str), v1 = .ref a ∧ v2 = .str x ∧ cls = .ref D ∧ ExcC K D ∧
  KitS K D cs [b0, b1, b2, b3, b4, b5] ∧ PySem.W.kitOne K (.ref D) (.type "ValueError") = some true ∧ (∀ dd, d = some dd → ∃ fs, H dd = some (.xd fs)) ∧ [b0, b1, b2, b3, b4, b5] = kindWords.map (fun y => decide (x = y)) ∧ ∀ H', Same H H' → Q (.bl true) H')
theorem okI__law_is (T : Tx P K w mg) : FnI P w K mg base 1 T._law_is.f T._law_is.fd ["_law_e", "_law_word"] (spIs K [T.k_BadLine.C, T.k_BadText.C, T.k_NoOutlet.C, T.k_LetGo.C, T.k_NoSource.C, T.k_Over.C]) := by
  refine okI T._law_is.F sc__law_is (fun a cls d vs H Q h => ?_) (fun p cls d cdv A l s H vs Q hz hf hot hr h => ?_)
  · obtain ⟨a, b, rfl, _⟩ := h
    rfl
  obtain ⟨v1, v2, rfl, h⟩ := h
  obtain ⟨D, b0, b1, b2, b3, b4, b5, x, rfl, rfl, rfl, XC, ks, kv, hd, hb, q⟩ := h.out
  have IS {X : Cx} (e : X.pn = [p]) (e2 : X.K = K) : CallR X (.builtin "isinstance") (rIsP X.K p D d) := by
    subst e2
    exact call_isP (by rw [e]; exact List.mem_cons_self) XC hz.zc hf
  refine ⟨_, (pss_cons (ps_set (i := 2) sc__law_is.nd rfl (by first | exact Or.inl rfl | exact Or.inr rfl) (pe_ld (pa_cons (pe_callB (IS rfl rfl) (by rfl) T.z_isinstance (by decide +kernel) (pa_cons (pv 0) (pa_cons (pe_glob (v := .ref T.k_BadLine.C) (by rfl) T.k_BadLine.g rfl) pa_nil))) (pa_cons (pe_callB (IS rfl rfl) (by rfl) T.z_isinstance (by decide +kernel) (pa_cons (pv 0) (pa_cons (pe_glob (v := .ref T.k_BadText.C) (by rfl) T.k_BadText.g rfl) pa_nil))) (pa_cons (pe_callB (IS rfl rfl) (by rfl) T.z_isinstance (by decide +kernel) (pa_cons (pv 0) (pa_cons (pe_glob (v := .ref T.k_NoOutlet.C) (by rfl) T.k_NoOutlet.g rfl) pa_nil))) (pa_cons (pe_callB (IS rfl rfl) (by rfl) T.z_isinstance (by decide +kernel) (pa_cons (pv 0) (pa_cons (pe_glob (v := .ref T.k_LetGo.C) (by rfl) T.k_LetGo.g rfl) pa_nil))) pa_nil))))))
      (pss_cons (ps_set (i := 2) sc__law_is.nd rfl (by first | exact Or.inl rfl | exact Or.inr rfl) (pe_op op_catL (pv 2) (pe_ld (pa_cons (pe_callB (IS rfl rfl) (by rfl) T.z_isinstance (by decide +kernel) (pa_cons (pv 0) (pa_cons (pe_glob (v := .ref T.k_NoSource.C) (by rfl) T.k_NoSource.g rfl) pa_nil))) (pa_cons (pe_callB (IS rfl rfl) (by rfl) T.z_isinstance (by decide +kernel) (pa_cons (pv 0) (pa_cons (pe_glob (v := .ref T.k_Over.C) (by rfl) T.k_Over.g rfl) pa_nil))) pa_nil)))))
      (pss_cons (ps_set (i := 3) sc__law_is.nd rfl (by first | exact Or.inl rfl | exact Or.inr rfl) (pe_ld (pa_cons pe_str (pa_cons pe_str (pa_cons pe_str (pa_cons pe_str (pa_cons pe_str (pa_cons pe_str pa_nil))))))))
      (pss_one (ps_ret (pe_and (pe_callB (IS rfl rfl) (by rfl) T.z_isinstance (by decide +kernel) (pa_cons (pv 0) (pa_cons (pe_bltn (v := .ty "ValueError") (u := .type "ValueError") (by rfl) T.z_ValueError (by decide +kernel) rfl) pa_nil))) (pe_one (pe_cmpR (op_eqD (unitsH hr)) (pv 2) (pe_lcH (own := [("_law_one", 4)]) (g := gName 4) ⟨p, hot, List.mem_cons_self⟩ sc__law_is.nd (pv 3) (blkOk_by (own := [("_law_one", 4)]) (N := ["_law_e", "_law_word", "_law_kinds", "_law_words", "_law_one"]) (sc := defScope s__law_is) (by decide +kernel)) (fun _ _ _ _ _ => pg_name (i := 4) sc__law_is.nd rfl (Or.inl rfl)) (fun _ _ _ _ _ => (pe_cmpR op_eq (pv 1) (pv 4) (nomark _)))) (nomark _))))))))), ?_⟩
  walk_at "go"
  refine ⟨_, _, b0, rfl, ref_val, ks.at_ 0 _ _ rfl rfl, hd, ?_⟩
  walk_at "go"
  refine ⟨_, _, b1, rfl, ref_val, ks.at_ 1 _ _ rfl rfl, hd, ?_⟩
  walk_at "go"
  refine ⟨_, _, b2, rfl, ref_val, ks.at_ 2 _ _ rfl rfl, hd, ?_⟩
  walk_at "go"
  refine ⟨_, _, b3, rfl, ref_val, ks.at_ 3 _ _ rfl rfl, hd, ?_⟩
  walk_at "go"
  refine ⟨[.bool b0, .bool b1, .bool b2, .bool b3], .cons (.bl _) (.cons (.bl _) (.cons (.bl _) (.cons (.bl _) .nil))), by simp, fun l1 H1 n1 s1 t1 a1 => ?_⟩
  have hd1 : ∀ dd, d = some dd → ∃ fs, H1 dd = some (.xd fs) := fun dd e => by
    obtain ⟨fs, z⟩ := hd dd e
    exact ⟨fs, s1 _ _ z⟩
  walk_at "go"
  refine ⟨_, _, b4, rfl, ref_val, ks.at_ 4 _ _ rfl rfl, hd1, ?_⟩
  walk_at "go"
  refine ⟨_, _, b5, rfl, ref_val, ks.at_ 5 _ _ rfl rfl, hd1, ?_⟩
  walk_at "go"
  refine ⟨[.bool b4, .bool b5], .cons (.bl _) (.cons (.bl _) .nil), by simp, fun l2 H2 n2 s2 t2 a2 => ?_⟩
  walk_at "go"
  refine ⟨l1, l2, _, _, rfl, rfl, a1.same s2, a2, by simp, fun l3 H3 n3 s3 t3 a3 => ?_⟩
  walk_at "go"
  refine ⟨kindWords.map PyData.str, ims_strs kindWords, by decide, fun l4 H4 n4 s4 t4 a4 => ?_⟩
  have hd4 : ∀ dd, d = some dd → ∃ fs, H4 dd = some (.xd fs) := fun dd e => by
    obtain ⟨fs, z⟩ := hd1 dd e
    exact ⟨fs, s4 _ _ (s3 _ _ (s2 _ _ z))⟩
  walk_at "go"
  refine ⟨_, _, true, rfl, ty_val, kv, hd4, ?_⟩
  walk_at "go"
  obtain ⟨xs4, e4, i4⟩ := a4
  have ex4 := Ims_strs _ i4
  subst ex4
  refine ⟨⟨_, SqL.of e4⟩, fun J nJ => ?_⟩
  refine loop_list (K := K) (a := l4) (xs := kindWords.map V.str) (fun i H5 => Hold (Same H4 H5 ∧ H5 J = some (.lst ((kindWords.take i).map fun y => V.bl (decide (x = y))))))
    (.mk ⟨same_new nJ, upd_same⟩) (fun i H5 _ h => SqL.of (h.out.1 _ _ e4)) ?_ ?_
  · intro i y H5 hi h
    obtain ⟨s5, e5⟩ := h.out
    rw [List.getElem?_map] at hi
    obtain ⟨w1, hw, rfl⟩ := Option.map_eq_some_iff.mp hi
    walk_at "go"
    have lt : (kindWords.take i).length ≤ 6 := by rw [List.length_take]; exact Nat.min_le_right _ _
    refine ⟨_, e5, ?_, .mk ⟨same_put s5 nJ, ?_⟩⟩
    · rw [List.length_map]
      exact small1000 (by omega)
    · rw [upd_same, take_succ hw, List.map_append, dec_vstr]
      rfl
  · intro H5 h
    obtain ⟨s5, e5⟩ := h.out
    rw [List.length_map, List.take_length] at e5
    have a3' := ((a3.same s4).same s5)
    have aJ : Acc K H5 J ((kindWords.map fun y => decide (x = y)).map PyData.bool) := ⟨_, e5, by rw [show (kindWords.map fun y => V.bl (decide (x = y))) = (kindWords.map fun y => decide (x = y)).map V.bl by rw [List.map_map]; rfl]; exact Ims.bools _⟩
    have e3 : [PyData.bool b0, .bool b1, .bool b2, .bool b3] ++ [.bool b4, .bool b5] = (kindWords.map fun y => decide (x = y)).map PyData.bool := by rw [← hb]; rfl
    have a3' : Acc K H5 l3 ([PyData.bool b0, .bool b1, .bool b2, .bool b3] ++ [.bool b4, .bool b5]) := a3'
    rw [e3] at a3'
    refine ⟨_, _, a3'.dp, aJ.dp, bools_shaped _, bools_shaped _, ?_⟩
    rw [SeqAt.eqv_refl _ (SeqAt.canLay_of_shaped (bools_shaped _))]
    exact q _ (s1.trans (s2.trans (s3.trans (s4.trans s5))))

def spWhole (K : PySem.W.Frag) : Sp := fun vs H Q _ => ∃ (i : Int), vs = [.int i] ∧ Q (.bl true) H
theorem ok__law_whole (T : Tx P K w mg) : FnOk P w K mg base CX0 1 T._law_whole.f T._law_whole.fd ["_law_found"] (spWhole K) := by
  refine T._law_whole.F.ok sc__law_whole (fun vs H Q E h => ?_) (fun cdv A outer s H vs Q E hr h => ?_)
  · obtain ⟨a, rfl, _⟩ := h
    rfl
  obtain ⟨i, rfl, q⟩ := h
  refine ⟨_, (pss_one (ps_ret (pe_and (pe_callB call_isD (by rfl) T.z_isinstance (by decide +kernel) (pa_cons (pv 0) (pa_cons (pe_bltn (v := .ty "int") (u := .type "int") (by rfl) T.z_int (by decide +kernel) rfl) pa_nil))) (pe_one (pe_not (pe_callB call_isD (by rfl) T.z_isinstance (by decide +kernel) (pa_cons (pv 0) (pa_cons (pe_bltn (v := .ty "bool") (u := .type "bool") (by rfl) T.z_bool (by decide +kernel) rfl) pa_nil)))))))), ?_⟩
  walk_at "go"
  refine ⟨.int i, "int", .int i, true, rfl, .int i, rfl, ?_⟩
  walk_at "go"
  refine ⟨.int i, "bool", .int i, false, rfl, .int i, rfl, ?_⟩
  walk_at "go"
  exact q
theorem okI__law_whole (T : Tx P K w mg) : FnI P w K mg base 1 T._law_whole.f T._law_whole.fd ["_law_found"] (fun _ _ _ => spWhole K) := by
  refine okI T._law_whole.F sc__law_whole (fun _ _ _ vs H Q h => ?_) (fun p cls d cdv A l s H vs Q hz hf hot hr h => ?_)
  · obtain ⟨a, rfl, _⟩ := h
    rfl
  obtain ⟨i, rfl, q⟩ := h
  refine ⟨_, (pss_one (ps_ret (pe_and (pe_callB call_isD (by rfl) T.z_isinstance (by decide +kernel) (pa_cons (pv 0) (pa_cons (pe_bltn (v := .ty "int") (u := .type "int") (by rfl) T.z_int (by decide +kernel) rfl) pa_nil))) (pe_one (pe_not (pe_callB call_isD (by rfl) T.z_isinstance (by decide +kernel) (pa_cons (pv 0) (pa_cons (pe_bltn (v := .ty "bool") (u := .type "bool") (by rfl) T.z_bool (by decide +kernel) rfl) pa_nil)))))))), ?_⟩
  walk_at "go"
  refine ⟨.int i, "int", .int i, true, rfl, .int i, rfl, ?_⟩
  walk_at "go"
  refine ⟨.int i, "bool", .int i, false, rfl, .int i, rfl, ?_⟩
  walk_at "go"
  exact q

def spRefused (K : PySem.W.Frag) : Sp := fun vs H Q _ => ∃ (v1 v2 : V), vs = [v1, v2] ∧ Hold (∃ (t : Str) (k : Nat), v1 = .str t ∧ v2 = .int (k : Int) ∧ t.length + 3 ≤ 1000000 ∧ rowsR 0 (Txt.split t "\n") = .inl k ∧ ∀ H', Same H H' → Q (.bl true) H')
theorem ok__law_refused (T : Tx P K w mg) : FnOk P w K mg base CX0 8 T._law_refused.f T._law_refused.fd ["_law_text", "_law_row_here"] (spRefused K) := by
  refine T._law_refused.F.ok sc__law_refused (fun vs H Q E h => ?_) (fun cdv A outer s H vs Q E hr h => ?_)
  · obtain ⟨a, b, rfl, _⟩ := h
    rfl
  obtain ⟨v1, v2, rfl, h⟩ := h
  obtain ⟨t, k, rfl, rfl, tl, hk, q⟩ := h.out
  refine ⟨_, (pss_cons (L2N.ps_try_as (i := 2) rfl rfl sc__law_refused.nd rfl rfl ⟨rfl, by decide, .inl T.k_WeaveError.g⟩ takesN (fun W pn xe tk po => (pss_one (ps_expr (pe_callS (ok_read T) hr (by rfl) T.read.g T.read.F.kp T.read.b (fun σ => L2N.passAt tk σ) (pa_cons (pv 0) pa_nil))))) (fun a oe cls d pn hz hf => (pss_one (ps_ret (pe_and (pe_callI (okI__law_is T) (room_s hr (by decide)) hz (hot_of hz hf) List.mem_cons_self (by rfl) T._law_is.g T._law_is.F.kp T._law_is.b (pa_cons (pv 2) (pa_cons pe_str pa_nil))) (pe_and (pe_callI (okI__law_whole T) (room_s hr (by decide)) hz (hot_of hz hf) List.mem_cons_self (by rfl) T._law_whole.g T._law_whole.F.kp T._law_whole.b (pa_cons (pe_xf T.x_BadText.xf T.n_BadText_row hz.zc hf (pv 2)) pa_nil)) (pe_one (pe_cmpR op_eq (pe_xf T.x_BadText.xf T.n_BadText_row hz.zc hf (pv 2)) (pv 1) (nomark _)))))))))
      (pss_one (ps_ret pe_bl))), ?_⟩
  walk_at "go"
  refine .mk ⟨t, rfl, tl, fun ls e => (by rw [hk] at e; cases e), fun k2 e d H1 nd s1 ed => ?_⟩
  rw [hk] at e
  obtain rfl : k = k2 := Sum.inl.inj e
  refine ⟨true, T.m_BadText_WeaveError, fun _ a na => ?_, fun z => by cases z⟩
  walk_at "go"
  refine .mk ⟨_, false, true, false, false, false, false, "text", rfl, rfl, rfl, T.x_BadText.xc, kit6 T.i_BadText_BadLine T.i_BadText_BadText T.i_BadText_NoOutlet T.i_BadText_LetGo T.i_BadText_NoSource T.i_BadText_Over, T.i_BadText_ValueError,
    fun dd e => (by obtain rfl := Option.some.inj e; exact ⟨_, ed⟩), by decide +kernel, fun H2 s2 => ?_⟩
  walk_at "go"
  refine ⟨d, _, .int (k : Int), rfl, s2 _ _ ed, rfl, ?_⟩
  walk_at "go"
  refine ⟨d, _, .int (k : Int), rfl, s2 _ _ ed, rfl, ?_⟩
  walk_at "go"
  rw [decide_eq_true rfl]
  exact q _ (s1.trans s2)

def spLike (K : PySem.W.Frag) (n : Nat) : Sp := fun vs H Q _ => ∃ (v w : V), vs = [v, w] ∧ Hold (∃ d, Dp K H v d ∧ Dp K H w d ∧ lk d = true ∧ d.depth < n ∧ Q (.bl true) H)
theorem like_step (T : Tx P K w mg) {n : Nat} (ih : FnOk P w K mg base CX0 n T._law_like.f T._law_like.fd ["_law_found", "_law_due"] (spLike K n)) : FnOk P w K mg base CX0 (n + 1) T._law_like.f T._law_like.fd ["_law_found", "_law_due"] (spLike K (n + 1)) := by
  refine T._law_like.F.ok sc__law_like (fun vs H Q E h => ?_) (fun cdv A outer s H vs Q E hr h => ?_)
  · obtain ⟨a, vk, rfl, _⟩ := h
    rfl
  obtain ⟨v, u, rfl, h⟩ := h
  obtain ⟨d, hv, hu, hl, hd, q⟩ := h.out
  refine ⟨_, (pss_cons (ps_if (pt_val (pe_callB call_isD (by rfl) T.z_isinstance (by decide +kernel) (pa_cons (pv 1) (pa_cons (pe_bltn (v := .ty "str") (u := .type "str") (by rfl) T.z_str (by decide +kernel) rfl) pa_nil)))) (pss_one (ps_ret (pe_and (pe_callB call_isD (by rfl) T.z_isinstance (by decide +kernel) (pa_cons (pv 0) (pa_cons (pe_bltn (v := .ty "str") (u := .type "str") (by rfl) T.z_str (by decide +kernel) rfl) pa_nil))) (pe_one (pe_cmpR op_eq (pv 0) (pv 1) (nomark _)))))) pss_nil)
      (pss_cons (ps_if (pt_val (pe_callB call_isD (by rfl) T.z_isinstance (by decide +kernel) (pa_cons (pv 1) (pa_cons (pe_bltn (v := .ty "int") (u := .type "int") (by rfl) T.z_int (by decide +kernel) rfl) pa_nil)))) (pss_one (ps_ret (pe_and (pe_callB call_isD (by rfl) T.z_isinstance (by decide +kernel) (pa_cons (pv 0) (pa_cons (pe_bltn (v := .ty "int") (u := .type "int") (by rfl) T.z_int (by decide +kernel) rfl) pa_nil))) (pe_and (pe_not (pe_callB call_isD (by rfl) T.z_isinstance (by decide +kernel) (pa_cons (pv 0) (pa_cons (pe_bltn (v := .ty "bool") (u := .type "bool") (by rfl) T.z_bool (by decide +kernel) rfl) pa_nil)))) (pe_one (pe_cmpR op_eq (pv 0) (pv 1) (nomark _))))))) pss_nil)
      (pss_cons (ps_if (pt_cmpR op_isN (pv 1) pe_non (nomark _)) (pss_one (ps_ret (pe_cmpR op_isN (pv 0) pe_non (nomark _)))) pss_nil)
      (pss_cons (ps_if (PW.pt (pw_or (pt_cmpR op_ne (pe_callB call_isD (by rfl) T.z_isinstance (by decide +kernel) (pa_cons (pv 1) (pa_cons (pe_bltn (v := .ty "tuple") (u := .type "tuple") (by rfl) T.z_tuple (by decide +kernel) rfl) pa_nil))) (pe_callB call_isD (by rfl) T.z_isinstance (by decide +kernel) (pa_cons (pv 0) (pa_cons (pe_bltn (v := .ty "tuple") (u := .type "tuple") (by rfl) T.z_tuple (by decide +kernel) rfl) pa_nil))) (nomark _)) (pw_or1 (pt_cmpR op_ne (pe_callB call_isD (by rfl) T.z_isinstance (by decide +kernel) (pa_cons (pv 1) (pa_cons (pe_bltn (v := .ty "list") (u := .type "list") (by rfl) T.z_list (by decide +kernel) rfl) pa_nil))) (pe_callB call_isD (by rfl) T.z_isinstance (by decide +kernel) (pa_cons (pv 0) (pa_cons (pe_bltn (v := .ty "list") (u := .type "list") (by rfl) T.z_list (by decide +kernel) rfl) pa_nil))) (nomark _))))) (pss_one (ps_ret pe_bl)) pss_nil)
      (pss_cons (ps_if (pt_cmpR op_ne (pe_callB call_lenP (by rfl) T.z_len PySem.boot_len (pa_cons (pv 0) pa_nil)) (pe_callB call_lenP (by rfl) T.z_len PySem.boot_len (pa_cons (pv 1) pa_nil)) (nomark _)) (pss_one (ps_ret pe_bl)) pss_nil)
      (pss_cons (ps_for PassesOwn.never rfl (pi_range1 (by rfl) T.z_range (pa_cons (pe_callB call_lenP (by rfl) T.z_len PySem.boot_len (pa_cons (pv 1) pa_nil)) pa_nil)) (pg_name (i := 2) sc__law_like.nd rfl (by first | exact Or.inl rfl | exact Or.inr rfl)) (pss_one (ps_if (pt_not (pt_val (pe_call ih hr (by rfl) T._law_like.g T._law_like.F.kp T._law_like.b .nil pass0 (pa_cons (pe_ix ix_P (pv 0) (pv 2) (fun _ _ => rfl)) (pa_cons (pe_ix ix_P (pv 1) (pv 2) (fun _ _ => rfl)) pa_nil))))) (pss_one (ps_ret pe_bl)) pss_nil)))
      (pss_one (ps_ret pe_bl)))))))), ?_⟩
  walk_at "go"
  cases d with
  | dict z => cases hl
  | bool z => cases hl
  | str x =>
    obtain rfl := Dp_s hv
    obtain rfl := Dp_s hu
    refine ⟨_, "str", _, true, rfl, hu, (by show kitB "str" "str" = some true; decide +kernel), ?_⟩
    walk_at "go"
    refine ⟨_, "str", _, true, rfl, hu, (by show kitB "str" "str" = some true; decide +kernel), ?_⟩
    walk_at "go"
    rw [decide_eq_true rfl]
    exact q
  | int x =>
    obtain rfl := Dp_i hv
    obtain rfl := Dp_i hu
    refine ⟨_, "str", _, false, rfl, hu, (by show kitB "int" "str" = some false; decide +kernel), ?_⟩
    walk_at "go"
    refine ⟨_, "int", _, true, rfl, hu, (by show kitB "int" "int" = some true; decide +kernel), ?_⟩
    walk_at "go"
    refine ⟨_, "int", _, true, rfl, hu, (by show kitB "int" "int" = some true; decide +kernel), ?_⟩
    walk_at "go"
    refine ⟨_, "bool", _, false, rfl, hu, (by show kitB "int" "bool" = some false; decide +kernel), ?_⟩
    walk_at "go"
    rw [decide_eq_true rfl]
    exact q
  | none =>
    obtain rfl := Dp_n hv
    obtain rfl := Dp_n hu
    refine ⟨_, "str", _, false, rfl, hu, (by show kitB "NoneType" "str" = some false; decide +kernel), ?_⟩
    walk_at "go"
    refine ⟨_, "int", _, false, rfl, hu, (by show kitB "NoneType" "int" = some false; decide +kernel), ?_⟩
    walk_at "go"
    exact q
  | tuple ds =>
    have hl : (decide (ds.length ≤ 100000000) && lks ds) = true := hl
    rw [Bool.and_eq_true] at hl
    obtain ⟨hl1, hl2⟩ := hl
    have hl1 := of_decide_eq_true hl1
    have hd : PyData.depthAll ds + 1 < n + 1 := hd
    obtain ⟨b, rfl⟩ : ∃ b, u = .ref b := by cases hu; exact ⟨_, rfl⟩
    refine ⟨_, "str", _, false, rfl, hu, (by show kitB "tuple" "str" = some false; decide +kernel), ?_⟩
    walk_at "go"
    refine ⟨_, "int", _, false, rfl, hu, (by show kitB "tuple" "int" = some false; decide +kernel), ?_⟩
    walk_at "go"
    refine ⟨_, "tuple", _, true, rfl, hu, (by show kitB "tuple" "tuple" = some true; decide +kernel), ?_⟩
    walk_at "go"
    refine ⟨_, "tuple", _, true, rfl, hv, (by show kitB "tuple" "tuple" = some true; decide +kernel), ?_⟩
    walk_at "go"
    refine ⟨_, "list", _, false, rfl, hu, (by show kitB "tuple" "list" = some false; decide +kernel), ?_⟩
    walk_at "go"
    refine ⟨_, "list", _, false, rfl, hv, (by show kitB "tuple" "list" = some false; decide +kernel), ?_⟩
    walk_at "go"
    refine ite_f (by rw [decide_eq_true rfl]; rfl) ?_
    walk_at "go"
    refine for_range (lo := 0) (n := ds.length) (fun i σ H2 => Hold (∃ o, σ = [some v, some (.ref b), o] ∧ H2 = H)) (.mk ⟨none, rfl, rfl⟩) ?_ ?_
    · rintro i σ H2 hi h
      obtain ⟨o, rfl, rfl⟩ := h.out
      have hi' : ds[i]? = some ds[i] := List.getElem?_eq_getElem hi
      walk_at "go"
      refine ⟨_, _, i, _, .inl hv, rfl, by omega, hi', fun x hx => ?_⟩
      walk_at "go"
      refine ⟨_, _, i, _, .inl hu, rfl, by omega, hi', fun y hy => ?_⟩
      have dg := depth_get hi'
      refine ⟨_, _, rfl, .mk ⟨ds[i], hx, hy, lks_get hl2 hi', by omega, ?_⟩⟩
      walk_at "go"
      exact .mk ⟨_, rfl, rfl⟩
    · rintro σ H2 h
      obtain ⟨o, rfl, rfl⟩ := h.out
      exact q
  | list ds =>
    have hl : (decide (ds.length ≤ 100000000) && lks ds) = true := hl
    rw [Bool.and_eq_true] at hl
    obtain ⟨hl1, hl2⟩ := hl
    have hl1 := of_decide_eq_true hl1
    have hd : PyData.depthAll ds + 1 < n + 1 := hd
    obtain ⟨b, rfl⟩ : ∃ b, u = .ref b := by cases hu; exact ⟨_, rfl⟩
    refine ⟨_, "str", _, false, rfl, hu, (by show kitB "list" "str" = some false; decide +kernel), ?_⟩
    walk_at "go"
    refine ⟨_, "int", _, false, rfl, hu, (by show kitB "list" "int" = some false; decide +kernel), ?_⟩
    walk_at "go"
    refine ⟨_, "tuple", _, false, rfl, hu, (by show kitB "list" "tuple" = some false; decide +kernel), ?_⟩
    walk_at "go"
    refine ⟨_, "tuple", _, false, rfl, hv, (by show kitB "list" "tuple" = some false; decide +kernel), ?_⟩
    walk_at "go"
    refine ⟨_, "list", _, true, rfl, hu, (by show kitB "list" "list" = some true; decide +kernel), ?_⟩
    walk_at "go"
    refine ⟨_, "list", _, true, rfl, hv, (by show kitB "list" "list" = some true; decide +kernel), ?_⟩
    walk_at "go"
    refine ite_f (by rw [decide_eq_true rfl]; rfl) ?_
    walk_at "go"
    refine for_range (lo := 0) (n := ds.length) (fun i σ H2 => Hold (∃ o, σ = [some v, some (.ref b), o] ∧ H2 = H)) (.mk ⟨none, rfl, rfl⟩) ?_ ?_
    · rintro i σ H2 hi h
      obtain ⟨o, rfl, rfl⟩ := h.out
      have hi' : ds[i]? = some ds[i] := List.getElem?_eq_getElem hi
      walk_at "go"
      refine ⟨_, _, i, _, .inr hv, rfl, by omega, hi', fun x hx => ?_⟩
      walk_at "go"
      refine ⟨_, _, i, _, .inr hu, rfl, by omega, hi', fun y hy => ?_⟩
      have dg := depth_get hi'
      refine ⟨_, _, rfl, .mk ⟨ds[i], hx, hy, lks_get hl2 hi', by omega, ?_⟩⟩
      walk_at "go"
      exact .mk ⟨_, rfl, rfl⟩
    · rintro σ H2 h
      obtain ⟨o, rfl, rfl⟩ := h.out
      exact q
theorem like_n (T : Tx P K w mg) : ∀ n : Nat, FnOk P w K mg base CX0 n T._law_like.f T._law_like.fd ["_law_found", "_law_due"] (spLike K n)
  | 0 => by
    have no : ∀ vs H Q E, ¬ spLike K 0 vs H Q E := fun vs H Q E h => by
      obtain ⟨v, w, _, h⟩ := h
      obtain ⟨d, _, _, _, h, _⟩ := h.out
      omega
    exact ⟨fun vs H Q E h => absurd h (no vs H Q E), fun A outer s H args us vs Q E _ _ _ _ h => absurd h (no vs H Q E)⟩
  | n + 1 => like_step T (like_n T n)
theorem ok__law_like (T : Tx P K w mg) : FnOk P w K mg base CX0 15 T._law_like.f T._law_like.fd ["_law_found", "_law_due"] (spLike K 15) := like_n T 15

def spBadRow (K : PySem.W.Frag) : Sp := fun vs H Q _ => ∃ (v : V), vs = [v] ∧ Hold (∃ (D : Addr), v = .ref D ∧ IsDice K H D ∧ ∀ (i : Nat) (r : Str) H', badRows[i]? = some r → IsDice K H' D → But D H H' → Q (.str r) H')
theorem ok__law_bad_row (T : Tx P K w mg) : FnOk P w K mg base CX0 2 T._law_bad_row.f T._law_bad_row.fd ["_law_d"] (spBadRow K) := by
  refine T._law_bad_row.F.ok sc__law_bad_row (fun vs H Q E h => ?_) (fun cdv A outer s H vs Q E hr h => ?_)
  · obtain ⟨a, rfl, _⟩ := h
    rfl
  obtain ⟨v, rfl, h⟩ := h
  obtain ⟨D, rfl, d0, q⟩ := h.out
  refine ⟨_, (pss_cons (ps_set (i := 1) sc__law_bad_row.nd rfl (by first | exact Or.inl rfl | exact Or.inr rfl) (pe_ld (pa_cons pe_str (pa_cons pe_str (pa_cons pe_str (pa_cons pe_str (pa_cons pe_str (pa_cons pe_str (pa_cons pe_str (pa_cons pe_str pa_nil))))))))))
      (pss_cons (ps_expr (pe_bm PySem.F.plainAttrs_list PySem.F.slot_list_append PySem.F.type_list_append mt_appA (pv 1) (pa_cons pe_str pa_nil)))
      (pss_cons (ps_set (i := 1) sc__law_bad_row.nd rfl (by first | exact Or.inl rfl | exact Or.inr rfl) (pe_op op_catL (pv 1) (pe_ld (pa_cons pe_str (pa_cons pe_str (pa_cons pe_str (pa_cons pe_str (pa_cons pe_str pa_nil))))))))
      (pss_cons (ps_set (i := 1) sc__law_bad_row.nd rfl (by first | exact Or.inl rfl | exact Or.inr rfl) (pe_op op_catL (pv 1) (pe_ld (pa_cons pe_str (pa_cons pe_str (pa_cons pe_str (pa_cons pe_str (pa_cons pe_str (pa_cons pe_str pa_nil)))))))))
      (pss_cons (ps_set (i := 1) sc__law_bad_row.nd rfl (by first | exact Or.inl rfl | exact Or.inr rfl) (pe_op op_catL (pv 1) (pe_ld (pa_cons pe_str (pa_cons pe_str (pa_cons pe_str (pa_cons pe_str (pa_cons pe_str (pa_cons pe_str pa_nil)))))))))
      (pss_cons (ps_set (i := 1) sc__law_bad_row.nd rfl (by first | exact Or.inl rfl | exact Or.inr rfl) (pe_op op_catL (pv 1) (pe_ld (pa_cons pe_str (pa_cons pe_str (pa_cons pe_str (pa_cons pe_str (pa_cons pe_str (pa_cons pe_str pa_nil)))))))))
      (pss_cons (ps_set (i := 1) sc__law_bad_row.nd rfl (by first | exact Or.inl rfl | exact Or.inr rfl) (pe_op op_catL (pv 1) (pe_ld (pa_cons pe_str (pa_cons pe_str (pa_cons pe_str (pa_cons pe_str (pa_cons pe_str (pa_cons pe_str pa_nil)))))))))
      (pss_one (ps_ret (pe_ix ix_listA (pv 1) (pe_call (ok__law_next T) hr (by rfl) T._law_next.g T._law_next.F.kp T._law_next.b .nil pass0 (pa_cons (pv 0) (pa_cons (pe_callB call_lenA (by rfl) T.z_len PySem.boot_len (pa_cons (pv 1) pa_nil)) pa_nil))) (fun _ _ => rfl))))))))))), ?_⟩
  walk_at "go"
  refine ⟨(badRows.take 8).map PyData.str, Ims.strs (badRows.take 8), (by decide : 8 ≤ 1000), fun l H1 n1 s1 t1 a1 => ?_⟩
  have Dl := d0.ne_new n1
  walk_at "go"
  refine ⟨l, _, _, .str "source 1 ", rfl, rfl, a1, .str _, (by decide : 8 < 1000000), fun H2 b2 t2 a2 => ?_⟩
  have d2 := (d0.same s1).keep t2 fun xs e => b2 _ _ Dl e
  have B2 : But D H H2 := fun b u hb e => b2 _ _ (ne_of_none e n1) (s1 _ _ e)
  walk_at "go"
  refine ⟨((badRows.drop 9).take 5).map PyData.str, Ims.strs ((badRows.drop 9).take 5), (by decide : 5 ≤ 1000), fun l3 H3 n3 s3 t3 a3 => ?_⟩
  walk_at "go"
  refine ⟨l, l3, _, _, rfl, rfl, a2.same s3, a3, (by decide : 9 + 5 ≤ 1000000), fun l4 H4 n4 s4 t4 a4 => ?_⟩
  walk_at "go"
  refine ⟨((badRows.drop 14).take 6).map PyData.str, Ims.strs ((badRows.drop 14).take 6), (by decide : 6 ≤ 1000), fun l5 H5 n5 s5 t5 a5 => ?_⟩
  walk_at "go"
  refine ⟨l4, l5, _, _, rfl, rfl, a4.same s5, a5, (by decide : 14 + 6 ≤ 1000000), fun l6 H6 n6 s6 t6 a6 => ?_⟩
  walk_at "go"
  refine ⟨((badRows.drop 20).take 6).map PyData.str, Ims.strs ((badRows.drop 20).take 6), (by decide : 6 ≤ 1000), fun l7 H7 n7 s7 t7 a7 => ?_⟩
  walk_at "go"
  refine ⟨l6, l7, _, _, rfl, rfl, a6.same s7, a7, (by decide : 20 + 6 ≤ 1000000), fun l8 H8 n8 s8 t8 a8 => ?_⟩
  walk_at "go"
  refine ⟨((badRows.drop 26).take 6).map PyData.str, Ims.strs ((badRows.drop 26).take 6), (by decide : 6 ≤ 1000), fun l9 H9 n9 s9 t9 a9 => ?_⟩
  walk_at "go"
  refine ⟨l8, l9, _, _, rfl, rfl, a8.same s9, a9, (by decide : 26 + 6 ≤ 1000000), fun lA HA nA sA tA aA => ?_⟩
  walk_at "go"
  refine ⟨((badRows.drop 32).take 6).map PyData.str, Ims.strs ((badRows.drop 32).take 6), (by decide : 6 ≤ 1000), fun lB HB nB sB tB aB => ?_⟩
  walk_at "go"
  refine ⟨lA, lB, _, _, rfl, rfl, aA.same sB, aB, (by decide : 32 + 6 ≤ 1000000), fun lC HC nC sC tC aC => ?_⟩
  have aC : Acc K HC lC (badRows.map PyData.str) := aC
  have s2C := ((((((((s3.trans s4).trans s5).trans s6).trans s7).trans s8).trans s9).trans sA).trans sB).trans sC
  have dC := d2.same s2C
  have BC : But D H HC := B2.trans (same_but s2C)
  have DlC : D ≠ lC := (d2.same ((((((((s3.trans s4).trans s5).trans s6).trans s7).trans s8).trans s9).trans sA).trans sB)).ne_new nC
  walk_at "go"
  refine ⟨lC, _, rfl, aC, ?_⟩
  walk_at "go"
  have len : (badRows.map PyData.str).length = 38 := by rw [List.length_map]; rfl
  refine ⟨by rw [len]; decide, by rw [len]; decide, dC, fun r H' r0 r1 d' b' => ?_⟩
  rw [len] at r1
  have hr : r.toNat < badRows.length := by
    have : badRows.length = 38 := rfl
    omega
  have aF := aC.but b' (b'.dtk dC) DlC.symm
  refine ⟨lC, _, r, r.toNat, .str badRows[r.toNat], rfl, aF, rfl, by omega, ?_, fun v iv => ?_⟩
  · rw [List.getElem?_map, List.getElem?_eq_getElem hr]
    rfl
  · obtain rfl := iv.s
    exact q r.toNat _ H' (List.getElem?_eq_getElem hr) d' (BC.trans b')

theorem lk_flat {l : Ln} (h : l.sm) : ∀ x ∈ l.its, lk x = true ∧ x.depth ≤ 2 := by
  have w : ∀ (x : Str), lk (.str x) = true ∧ (PyData.str x).depth ≤ 2 := fun x => ⟨rfl, by show 0 ≤ 2; omega⟩
  have n : ∀ (i : Int), lk (.int i) = true ∧ (PyData.int i).depth ≤ 2 := fun i => ⟨rfl, by show 0 ≤ 2; omega⟩
  have two : ∀ {u v : PyData}, (lk u = true ∧ u.depth ≤ 2) → (lk v = true ∧ v.depth ≤ 2) → ∀ x ∈ [u, v], lk x = true ∧ x.depth ≤ 2 := fun hu hv x hx => by
    rcases List.mem_cons.mp hx with rfl | hx
    · exact hu
    · rw [List.mem_singleton.mp hx]; exact hv
  have cons : ∀ {u : PyData} {us : List PyData}, (lk u = true ∧ u.depth ≤ 2) → (∀ x ∈ us, lk x = true ∧ x.depth ≤ 2) → ∀ x ∈ u :: us, lk x = true ∧ x.depth ≤ 2 := fun hu hus x hx => by
    rcases List.mem_cons.mp hx with rfl | hx
    · exact hu
    · exact hus x hx
  have parts : ∀ {ps : List PyData}, (∀ p ∈ ps, lk p = true ∧ p.depth ≤ 1) → ps.length ≤ 64 → lk (.tuple ps) = true ∧ (PyData.tuple ps).depth ≤ 2 := fun {ps} hp hl => by
    refine ⟨lk_tuple (fun x hx => (hp x hx).1) (by omega), ?_⟩
    have := depth_all (n := 1) fun x hx => (hp x hx).2
    show PyData.depthAll ps + 1 ≤ 2
    omega
  have deeds : ∀ {ds : List Deed}, deedsCan ds = true → lk (.tuple (ds.map Deed.d)) = true ∧ (PyData.tuple (ds.map Deed.d)).depth ≤ 2 := fun {ds} hd => by
    unfold deedsCan at hd
    rw [Bool.and_eq_true, Bool.and_eq_true, decide_eq_true_eq, decide_eq_true_eq] at hd
    refine parts (fun p hp => ?_) (by rw [List.length_map]; omega)
    obtain ⟨d, _, rfl⟩ := List.mem_map.mp hp
    cases d <;> exact ⟨rfl, by show (1 : Nat) ≤ 1; omega⟩
  have tests : ∀ {ds : List Tst}, testsCan ds = true → lk (.tuple (ds.map Tst.d)) = true ∧ (PyData.tuple (ds.map Tst.d)).depth ≤ 2 := fun {ds} hd => by
    unfold testsCan at hd
    rw [Bool.and_eq_true, Bool.and_eq_true, decide_eq_true_eq, decide_eq_true_eq] at hd
    refine parts (fun p hp => ?_) (by rw [List.length_map]; omega)
    obtain ⟨d, _, rfl⟩ := List.mem_map.mp hp
    cases d <;> exact ⟨rfl, by show (1 : Nat) ≤ 1; omega⟩
  obtain ⟨hn, _, _⟩ := h
  cases l with
  | source k => exact two (w _) (n _)
  | map ds a => exact cons (w _) (two (deeds hn) (n _))
  | keep ts a => exact cons (w _) (two (tests hn) (n _))
  | whil ts a => exact cons (w _) (two (tests hn) (n _))
  | take k a => exact cons (w _) (two (n _) (n _))
  | skip k a => exact cons (w _) (two (n _) (n _))
  | group k a => exact cons (w _) (two (n _) (n _))
  | window k a => exact cons (w _) (two (n _) (n _))
  | fold f k a => exact cons (w _) (cons (w _) (two (n _) (n _)))
  | chain a b => exact cons (w _) (two (n _) (n _))
  | pair a b => exact cons (w _) (two (n _) (n _))
  | merge a b => exact cons (w _) (two (n _) (n _))
theorem lines_lk {ls : List Ln} (h : ∀ l ∈ ls, l.sm) (hl : ls.length ≤ 1000) : lk (.list (ls.map Ln.d)) = true ∧ (PyData.list (ls.map Ln.d)).depth ≤ 4 := by
  have one : ∀ x ∈ ls.map Ln.d, lk x = true ∧ x.depth ≤ 3 := fun x hx => by
    obtain ⟨l, hm, rfl⟩ := List.mem_map.mp hx
    rw [Ln.d_its]
    have f := lk_flat (h l hm)
    have z : l.its.length ≤ 4 := by cases l <;> (unfold Ln.its; simp)
    refine ⟨lk_tuple (fun x hx => (f x hx).1) (by omega), ?_⟩
    have := depth_all (n := 2) fun x hx => (f x hx).2
    show PyData.depthAll l.its + 1 ≤ 3
    omega
  refine ⟨lk_list (fun x hx => (one x hx).1) (by rw [List.length_map]; omega), ?_⟩
  have := depth_all (n := 3) fun x hx => (one x hx).2
  show PyData.depthAll (ls.map Ln.d) + 1 ≤ 4
  omega
theorem bad_lens : (badRows.all fun r => decide (r.length ≤ 6000)) = true := by decide +kernel
theorem bad_len {i : Nat} {r : Str} (h : badRows[i]? = some r) : r.length ≤ 6000 := of_decide_eq_true (List.all_eq_true.mp bad_lens r (List.mem_of_getElem? h))
theorem its_d (ls : List Ln) : (ls.map Ln.its).map PyData.tuple = ls.map Ln.d := by
  rw [List.map_map]
  exact List.map_congr_left fun l _ => (Ln.d_its l).symm
theorem rows_len {rs : List Str} (h : ∀ r ∈ rs, r.length ≤ 6000) (hl : rs.length ≤ 30) : (rs.map (·.length)).sum + rs.length * (("\n" : Str)).length ≤ 200000 := by
  have h2 := sum_bound (xs := rs) (n := 6000) h
  have h3 : (("\n" : Str)).length = 1 := by decide +kernel
  rw [h3]
  omega
theorem join_le {rs : List Str} (h : ∀ r ∈ rs, r.length ≤ 6000) (hl : rs.length ≤ 30) : (Str.join "\n" rs).length ≤ 200000 := Nat.le_trans (join_len "\n" rs) (rows_len h hl)
def spLaw (K : PySem.W.Frag) : Sp := fun vs H Q _ => ∃ (a : Addr) (ns : List Int), vs = [.ref a] ∧ Fz K H a (ns.map V.int) ∧ ns.length ≤ 63 ∧ ∀ H', Q (.bl true) H'
theorem ok_law (T : Tx P K w mg) : FnOk P w K mg base CX0 16 T.law.f T.law.fd ["_law_script"] (spLaw K) := by
  refine T.law.F.ok sc_law (fun vs H Q E h => ?_) (fun cdv A outer s H vs Q E hr h => ?_)
  · obtain ⟨a, ns, rfl, _⟩ := h
    rfl
  obtain ⟨a, ns, rfl, hF, h63, q⟩ := h
  refine ⟨_, (pss_cons (ps_set (i := 1) sc_law.nd rfl (by first | exact Or.inl rfl | exact Or.inr rfl) (pe_call (ok__law_dice T) (hr.mono (by decide)) (by rfl) T._law_dice.g T._law_dice.F.kp T._law_dice.b .nil pass0 (pa_cons (pv 0) pa_nil)))
      (pss_cons (ps_set (i := 2) sc_law.nd rfl (by first | exact Or.inl rfl | exact Or.inr rfl) (pe_call (ok__law_weave T) (hr.mono (by decide)) (by rfl) T._law_weave.g T._law_weave.F.kp T._law_weave.b .nil pass0 (pa_cons (pv 1) pa_nil)))
      (pss_cons (ps_setLc (i := 3) (own := [("_law_line_here", 6)]) (g := gName 6) (tt := tYes) rfl sc_law.nd rfl rfl (sw_true rfl rfl rfl (by decide +kernel)) (pi_list (pe_ix ix_tup (pv 2) pe_int (fun _ _ => rfl))) (blkOk_by (own := [("_law_line_here", 6)]) (N := ["_law_script", "_law_d", "_law_drawn", "_law_rows", "_law_text", "_law_at", "_law_line_here"]) (sc := defScope s_law) (by decide +kernel)) (fun _ _ _ _ _ => pg_name (i := 6) sc_law.nd rfl (Or.inl rfl)) (fun _ _ _ _ _ => pts_nil) (fun _ _ _ _ _ => (pe_call (ok__law_row T) (hr.mono (by decide)) (by rfl) T._law_row.g T._law_row.F.kp T._law_row.b .nil pass0 (pa_cons (pv 6) pa_nil))))
      (pss_cons (ps_set (i := 4) sc_law.nd rfl (by first | exact Or.inl rfl | exact Or.inr rfl) (pe_joinK (K := K) rfl pe_str (pv 3)))
      (pss_cons (ps_if (PW.pt (pw_or (pt_not (pt_val (pe_call (ok__law_like T) hr (by rfl) T._law_like.g T._law_like.F.kp T._law_like.b .nil pass0 (pa_cons (pe_call (ok_read T) (hr.mono (by decide)) (by rfl) T.read.g T.read.F.kp T.read.b .nil passN (pa_cons (pv 4) pa_nil)) (pa_cons (pe_ix ix_tup (pv 2) pe_int (fun _ _ => rfl)) pa_nil))))) (pw_or1 (pt_cmpR (op_neD hr.units) (pe_call (ok_read T) (hr.mono (by decide)) (by rfl) T.read.g T.read.F.kp T.read.b .nil passN (pa_cons pe_str pa_nil)) (pe_ld (pa_cons (pe_td (pa_cons pe_str (pa_cons pe_int (pa_cons pe_int pa_nil)))) pa_nil)) (nomark _))))) (pss_one (ps_ret pe_bl)) pss_nil)
      (pss_cons (ps_set (i := 5) sc_law.nd rfl (by first | exact Or.inl rfl | exact Or.inr rfl) (pe_call (ok__law_next T) (hr.mono (by decide)) (by rfl) T._law_next.g T._law_next.F.kp T._law_next.b .nil pass0 (pa_cons (pv 1) (pa_cons (pe_op op_add (pe_callB call_lenA (by rfl) T.z_len PySem.boot_len (pa_cons (pv 3) pa_nil)) pe_int) pa_nil))))
      (pss_cons (ps_set (i := 3) sc_law.nd rfl (by first | exact Or.inl rfl | exact Or.inr rfl) (pe_op op_catL (pe_op op_catL (pe_slice sl_listD (pv 3) po_none (po_some (pv 5))) (pe_ld (pa_cons (pe_call (ok__law_bad_row T) (hr.mono (by decide)) (by rfl) T._law_bad_row.g T._law_bad_row.F.kp T._law_bad_row.b .nil pass0 (pa_cons (pv 1) pa_nil)) pa_nil))) (pe_slice sl_listD (pv 3) (po_some (pv 5)) po_none)))
      (pss_cons (ps_cut (ps_if (pt_cmpR op_eq (pe_call (ok__law_next T) (hr.mono (by decide)) (by rfl) T._law_next.g T._law_next.F.kp T._law_next.b .nil pass0 (pa_cons (pv 1) (pa_cons pe_int pa_nil))) pe_int (nomark _)) (pss_one (ps_expr (pe_bm PySem.F.plainAttrs_list PySem.F.slot_list_append PySem.F.type_list_append mt_appA (pv 3) (pa_cons pe_str pa_nil)))) pss_nil))
      (pss_cons (ps_if (pt_not (pt_val (pe_call (ok__law_refused T) (hr.mono (by decide)) (by rfl) T._law_refused.g T._law_refused.F.kp T._law_refused.b .nil pass0 (pa_cons (pe_joinK (K := K) rfl pe_str (pv 3)) (pa_cons (pv 5) pa_nil))))) (pss_one (ps_ret pe_bl)) pss_nil)
      (pss_one (ps_ret (pe_and (pe_call (ok__law_refused T) (hr.mono (by decide)) (by rfl) T._law_refused.g T._law_refused.F.kp T._law_refused.b .nil pass0 (pa_cons pe_str (pa_cons pe_int pa_nil))) (pe_one (pe_call (ok__law_refused T) (hr.mono (by decide)) (by rfl) T._law_refused.g T._law_refused.F.kp T._law_refused.b .nil pass0 (pa_cons (pe_op op_add_str (pv 4) pe_str) (pa_cons (pe_callB call_lenA (by rfl) T.z_len PySem.boot_len (pa_cons (pe_ix ix_tup (pv 2) pe_int (fun _ _ => rfl)) pa_nil)) pa_nil)))))))))))))))), ?_⟩
  walk_at "go"
  refine ⟨a, ns, rfl, hF, h63, fun D H1 nD s1 d1 => ?_⟩
  walk_at "go"
  refine .mk ⟨D, rfl, d1, fun p H2 lw lk ls ks many ht aw ak nw nk wk dw d2 b2 => ?_⟩
  have len := dw.good.len
  have l24 := dw.l24
  have l1 := dw.l1
  have m1 := dw.m1
  have m5 := dw.m5
  have sm := good_sm dw.good (by omega) (by omega)
  have ne : ls ≠ [] := by intro z; rw [z] at l1; exact absurd l1 (by decide)
  walk_at "go"
  obtain ⟨xs, ew, iw⟩ := aw
  have lenw := iw.len
  rw [List.length_map] at lenw
  refine ⟨⟨_, SqL.of ew⟩, fun J nJ => ?_⟩
  refine loop_list (K := K) (a := lw) (xs := xs) (fun i H5 => Hold (Same H2 H5 ∧ H5 J = some (.lst (((ls.take i).map Ln.row).map V.str))))
        (.mk ⟨same_new nJ, upd_same⟩) (fun i H5 _ h => SqL.of (h.out.1 _ _ ew)) ?_ ?_
  · intro i x H5 hi h
    obtain ⟨s5, e5⟩ := h.out
    obtain ⟨d0, hd0, ix⟩ := iw.get hi
    rw [List.getElem?_map] at hd0
    obtain ⟨l, hd, rfl⟩ := Option.map_eq_some_iff.mp hd0
    walk_at "go"
    refine .mk ⟨l, ix.u (same_tk s5), sm l (List.mem_of_getElem? hd), fun H6 s6 => ?_⟩
    refine ⟨_, s6 _ _ e5, ?_, .mk ⟨same_put (s5.trans s6) nJ, ?_⟩⟩
    · rw [List.length_map, List.length_map, List.length_take]
      exact small1000 (by omega)
    · rw [upd_same, take_succ hd, List.map_append, List.map_append]
      rfl
  intro H5 h
  obtain ⟨s5, e5⟩ := h.out
  rw [lenw, List.take_length] at e5
  walk_at "go"
  have rl : ∀ r ∈ ls.map Ln.row, r.length ≤ 6000 := fun x hx => by
    obtain ⟨d, hd, rfl⟩ := List.mem_map.mp hx
    exact row_len (sm d hd)
  have rn : (ls.map Ln.row).length ≤ 24 := by rw [List.length_map]; exact l24
  refine ⟨⟨_, rfl⟩, ?_⟩
  walk_at "go"
  refine ⟨_, _, _, rfl, rfl, SqL.of e5, Nat.le_trans (rows_len rl (by omega)) (by decide), ?_⟩
  walk_at "go"
  have tl := join_le rl (by omega)
  have tr := text_read ne sm
  refine .mk ⟨_, rfl, by omega, fun l2 e p1 H6 n6 s6 a6 => ?_, fun k e => by rw [tr] at e; cases e⟩
  rw [tr] at e
  obtain rfl := Sum.inr.inj e
  rw [its_d] at a6
  have s26 := s5.trans s6
  have ht6 := (same_tk s26).t _ _ ht
  have aw6 : Acc K H6 lw (ls.map Ln.d) := ⟨xs, s26 _ _ ew, iw.u (same_tk s26)⟩
  obtain ⟨k1, k2⟩ := lines_lk sm (by omega)
  walk_at "go"
  refine .mk ⟨_, a6.dp, aw6.dp, k1, by omega, ?_⟩
  walk_at "go"
  have sk : rowsR 0 (Txt.split "skip 999999999 of 0" "\n") = .inr [[.str "skip", .int 999999999, .int 0]] := by
    rw [show Txt.split "skip 999999999 of 0" "\n" = [("skip 999999999 of 0" : Str)] by decide +kernel]
    show (match rowR "skip 999999999 of 0" with | none => Sum.inl 0 | some l => match rowsR 1 [] with | .inl e => .inl e | .inr ls => .inr (l :: ls)) = _
    rw [skip_read]
    rfl
  refine .mk ⟨_, rfl, by decide +kernel, fun l3 e p3 H7 n7 s7 a7 => ?_, fun k e => by rw [sk] at e; cases e⟩
  rw [sk] at e
  obtain rfl := Sum.inr.inj e
  have a7 : Acc K H7 p3 [.tuple [.str "skip", .int 999999999, .int 0]] := a7
  walk_at "go"
  refine ⟨[.str "skip", .int 999999999, .int 0], .cons (.str _) (.cons (.int _) (.cons (.int _) .nil)), (by decide : 3 ≤ 1000), fun pt H8 s8 t8 i8 => ?_⟩
  walk_at "go"
  refine ⟨[.tuple [.str "skip", .int 999999999, .int 0]], .cons i8 .nil, (by decide : 1 ≤ 1000), fun pq H9 n9 s9 t9 a9 => ?_⟩
  have s79 := s8.trans s9
  have sh : SeqAt.shaped (.list [.tuple [.str "skip", .int 999999999, .int 0]]) = true := by decide +kernel
  refine ⟨_, _, (a7.same s79).dp, a9.dp, sh, sh, ?_⟩
  rw [SeqAt.eqv_refl _ (SeqAt.canLay_of_shaped sh)]
  walk_at "go"
  have s29 := s26.trans (s7.trans s79)
  have aJ : Acc K H9 J ((ls.map Ln.row).map PyData.str) := ⟨_, s79 _ _ (s7 _ _ (s6 _ _ e5)), Ims.strs _⟩
  have d9 := d2.same s29
  have DJ := d2.ne_new nJ
  have nl : ((ls.map Ln.row).map PyData.str).length = ls.length := by rw [List.length_map, List.length_map]
  refine ⟨J, _, rfl, aJ, ?_⟩
  rw [nl]
  walk_at "go"
  refine fun k H10 k0 k1' d10 b10 => ?_
  have t10 := b10.dtk d9
  have aJ10 := aJ.but b10 t10 DJ.symm
  walk_at "go"
  refine ⟨J, _, rfl, aJ10, fun q1 H11 n11 s11 t11 a11 => ?_⟩
  rw [cut_take _ _ k0] at a11
  walk_at "go"
  have d11 := d10.same s11
  refine .mk ⟨D, rfl, d11, fun i r H12 hi d12 b12 => ?_⟩
  have t12 := b12.dtk d11
  have Dq1 := d10.ne_new n11
  have a12 := a11.but b12 t12 Dq1.symm
  have aJ12 := (aJ10.same s11).but b12 t12 DJ.symm
  walk_at "go"
  refine ⟨[.str r], .cons (.str _) .nil, (by decide : 1 ≤ 1000), fun q2 H13 n13 s13 t13 a13 => ?_⟩
  walk_at "go"
  have lt1 : (List.take k.toNat ((ls.map Ln.row).map PyData.str)).length ≤ 24 := by rw [List.length_take, nl]; omega
  refine ⟨q1, q2, _, _, rfl, rfl, a12.same s13, a13, by show _ + 1 ≤ 1000000; omega, fun q3 H14 n14 s14 t14 a14 => ?_⟩
  walk_at "go"
  have aJ14 := (aJ12.same s13).same s14
  refine ⟨J, _, rfl, aJ14, fun q4 H15 n15 s15 t15 a15 => ?_⟩
  rw [cut_drop _ _ k0] at a15
  have lt2 : (List.drop k.toNat ((ls.map Ln.row).map PyData.str)).length ≤ 24 := by rw [List.length_drop, nl]; omega
  refine ⟨q3, q4, _, _, rfl, rfl, a14.same s15, a15, by rw [List.length_append]; show _ + 1 + _ ≤ 1000000; omega, fun q5 H16 n16 s16 t16 a16 => ?_⟩
  walk_at "go"
  have d16 := (((d12.same s13).same s14).same s15).same s16
  have Dlw := d1.ne_new nw
  have T12 : TK K H9 H12 := t10.trans ((same_tk s11).trans t12)
  have T16 : TK K H9 H16 := T12.trans (same_tk (s13.trans (s14.trans (s15.trans s16))))
  have aw9 : Acc K H9 lw (ls.map Ln.d) := aw6.same (s7.trans s79)
  have aw15 : Acc K H15 lw (ls.map Ln.d) := (((((aw9.but b10 t10 Dlw.symm).same s11).but b12 t12 Dlw.symm).same s13).same s14).same s15
  have aw16 := aw15.same s16
  have ht16 := T16.t _ _ ((same_tk (s26.trans (s7.trans s79))).t _ _ ht)
  refine ⟨fun σ H' => Hold (∃ more : List Str, σ = [some (.ref a), some (.ref D), some (.ref p), some (.ref q5), some (.str (Str.join "\n" (ls.map Ln.row))), some (.int k), none] ∧ (∀ x ∈ more, x = "map") ∧ more.length ≤ 1 ∧
    Acc K H' q5 ((((ls.map Ln.row).take k.toNat ++ [r] ++ (ls.map Ln.row).drop k.toNat) ++ more).map PyData.str) ∧ SqT K H' p [.ref lw, .ref lk, .int many] ∧ Acc K H' lw (ls.map Ln.d)), ?_, ?_⟩
  · walk_at "go"
    refine fun m H17 m0 m1' d17 b17 => ?_
    have t17 := b17.dtk d16
    have Dq5 : D ≠ q5 := (((d12.same s13).same s14).same s15).ne_new n16
    have a17 := a16.but b17 t17 Dq5.symm
    have aw17 := aw16.but b17 t17 Dlw.symm
    have ht17 := t17.t _ _ ht16
    have eR : (List.take k.toNat ((ls.map Ln.row).map PyData.str) ++ [PyData.str r] ++ List.drop k.toNat ((ls.map Ln.row).map PyData.str)) = ((ls.map Ln.row).take k.toNat ++ [r] ++ (ls.map Ln.row).drop k.toNat).map PyData.str := by
      rw [List.map_append, List.map_append, List.map_take, List.map_drop]
      rfl
    rw [eR] at a17
    walk_at "go"
    by_cases e2 : m = 2
    · refine ite_t (dv_t e2) ?_
      walk_at "go"
      have rn2 : (((ls.map Ln.row).take k.toNat ++ [r] ++ (ls.map Ln.row).drop k.toNat).map PyData.str).length ≤ 60 := by
        rw [← eR, List.length_append, List.length_append]
        show _ + 1 + _ ≤ 60
        omega
      refine ⟨q5, _, _, _, rfl, rfl, a17, .str _, by omega, fun H18 b18 t18 a18 => ?_⟩
      refine .mk ⟨["map"], rfl, fun x hx => List.mem_singleton.mp hx, by decide, by rw [List.map_append]; exact a18, t18.t _ _ ht17, aw17.but b18 t18 ?_⟩
      obtain ⟨_, z⟩ := aw15.at
      exact ne_of_none z n16
    · refine ite_f (dv_f e2) ?_
      walk_at "go"
      refine .mk ⟨[], rfl, (fun x hx => nomatch hx), by decide, by rw [List.append_nil]; exact a17, ht17, aw17⟩
  · intro σ H17 h
    obtain ⟨more, rfl, mm, ml, a17, ht17, aw17⟩ := h.out
    walk_at "go"
    refine ⟨⟨_, rfl⟩, ?_⟩
    walk_at "go"
    obtain ⟨ys, e17, i17⟩ := a17
    have ey := Ims_strs _ i17
    subst ey
    have hk : k.toNat ≤ ls.length := by omega
    obtain ⟨rb, fb⟩ := bad_at hi
    have fm : ∀ x ∈ more, Free 10 x := fun x hx => by
      rw [mm x hx]
      show ¬ _
      decide +kernel
    have ml6 : ∀ x ∈ (ls.map Ln.row).take k.toNat ++ [r] ++ (ls.map Ln.row).drop k.toNat ++ more, x.length ≤ 6000 := by
      intro x hx
      rcases List.mem_append.mp hx with hx | hx
      · rcases List.mem_append.mp hx with hx | hx
        · rcases List.mem_append.mp hx with hx | hx
          · exact rl x (List.mem_of_mem_take hx)
          · rw [List.mem_singleton.mp hx]
            exact bad_len hi
        · exact rl x (List.mem_of_mem_drop hx)
      · rw [mm x hx]
        decide +kernel
    have mn : ((ls.map Ln.row).take k.toNat ++ [r] ++ (ls.map Ln.row).drop k.toNat ++ more).length ≤ 30 := by
      rw [List.length_append, List.length_append, List.length_append, List.length_take, List.length_drop]
      show _ + 1 + _ + _ ≤ 30
      omega
    refine ⟨_, _, _, rfl, rfl, SqL.of e17, Nat.le_trans (rows_len ml6 mn) (by decide), ?_⟩
    have tl2 := join_le ml6 mn
    walk_at "go"
    refine .mk ⟨_, k.toNat, rfl, by rw [Int.toNat_of_nonneg k0], by omega, text_bad hk sm rb fb fm, fun H18 s18 => ?_⟩
    walk_at "go"
    refine .mk ⟨_, 0, rfl, rfl, by decide +kernel, text_empty, fun H19 s19 => ?_⟩
    walk_at "go"
    have s79' := s18.trans s19
    have ht19 := (same_tk s79').t _ _ ht17
    have aw19 := aw17.same s79'
    have nlw : (ls.map Ln.d).length = ls.length := List.length_map _
    refine ⟨by rw [show (("\n" : Str)).length = 1 by decide +kernel, sizeLine_eq]; omega, ?_⟩
    walk_at "go"
    refine ⟨lw, _, rfl, aw19, ?_⟩
    rw [nlw]
    walk_at "go"
    refine .mk ⟨_, ls.length, rfl, rfl, by rw [PySem.Str.length_append, show (("\n" : Str)).length = 1 by decide +kernel]; omega, text_tail ne sm, fun H20 s20 => ?_⟩
    exact q _

theorem tx_mk {P : Program} {K : PySem.W.Frag} {w : World} {h : Heap} {mg : Str → Option Value} (X : K.In h) (G : h.Ns mainGlobals mg)
    {C100 : Addr}
    {C101 : Addr}
    {C102 : Addr}
    {C103 : Addr}
    {C104 : Addr}
    {C105 : Addr}
    {C106 : Addr}
    {xa102 xb102 : Str} {xc102 : Addr} {xd102 xe102 : List Value} {xf102 : List Str} {xg102 : List Value} {xh102 : Bool} {xi102 : Option Bool} {xj102 : Option Addr} {xk102 xl102 xm102 xn102 xo102 : Option Value}
    {f1 : Addr} {od1 an1 : Option Addr} {sl1 : Array (Option Value)} {oc1 kV1 dc1 pm1 cd1 ct1 : Value}
    {f2 : Addr} {od2 an2 : Option Addr} {sl2 : Array (Option Value)} {oc2 kV2 dc2 pm2 cd2 ct2 : Value}
    {f3 : Addr} {od3 an3 : Option Addr} {sl3 : Array (Option Value)} {oc3 kV3 dc3 pm3 cd3 ct3 : Value}
    {f4 : Addr} {od4 an4 : Option Addr} {sl4 : Array (Option Value)} {oc4 kV4 dc4 pm4 cd4 ct4 : Value}
    {f5 : Addr} {od5 an5 : Option Addr} {sl5 : Array (Option Value)} {oc5 kV5 dc5 pm5 cd5 ct5 : Value}
    {f6 : Addr} {od6 an6 : Option Addr} {sl6 : Array (Option Value)} {oc6 kV6 dc6 pm6 cd6 ct6 : Value}
    {f7 : Addr} {od7 an7 : Option Addr} {sl7 : Array (Option Value)} {oc7 kV7 dc7 pm7 cd7 ct7 : Value}
    {f8 : Addr} {od8 an8 : Option Addr} {sl8 : Array (Option Value)} {oc8 kV8 dc8 pm8 cd8 ct8 : Value}
    {f9 : Addr} {od9 an9 : Option Addr} {sl9 : Array (Option Value)} {oc9 kV9 dc9 pm9 cd9 ct9 : Value}
    {f10 : Addr} {od10 an10 : Option Addr} {sl10 : Array (Option Value)} {oc10 kV10 dc10 pm10 cd10 ct10 : Value}
    {f11 : Addr} {od11 an11 : Option Addr} {sl11 : Array (Option Value)} {oc11 kV11 dc11 pm11 cd11 ct11 : Value}
    {f12 : Addr} {od12 an12 : Option Addr} {sl12 : Array (Option Value)} {oc12 kV12 dc12 pm12 cd12 ct12 : Value}
    {f13 : Addr} {od13 an13 : Option Addr} {sl13 : Array (Option Value)} {oc13 kV13 dc13 pm13 cd13 ct13 : Value}
    {f14 : Addr} {od14 an14 : Option Addr} {sl14 : Array (Option Value)} {oc14 kV14 dc14 pm14 cd14 ct14 : Value}
    {f15 : Addr} {od15 an15 : Option Addr} {sl15 : Array (Option Value)} {oc15 kV15 dc15 pm15 cd15 ct15 : Value}
    {f16 : Addr} {od16 an16 : Option Addr} {sl16 : Array (Option Value)} {oc16 kV16 dc16 pm16 cd16 ct16 : Value}
    {f17 : Addr} {od17 an17 : Option Addr} {sl17 : Array (Option Value)} {oc17 kV17 dc17 pm17 ct17 : Value}
    {cq17 cw17 : Addr} {ta17 tb17 : Value} {tc17 td17 : Option Addr} {te17 tf17 : Array (Option Value)} {tg17 : Array Value} {th17 : Str} {ti17 : Tok}
    {f18 : Addr} {od18 an18 : Option Addr} {sl18 : Array (Option Value)} {oc18 kV18 dc18 pm18 cd18 ct18 : Value}
    {f19 : Addr} {od19 an19 : Option Addr} {sl19 : Array (Option Value)} {oc19 kV19 dc19 pm19 cd19 ct19 : Value}
    {f20 : Addr} {od20 an20 : Option Addr} {sl20 : Array (Option Value)} {oc20 kV20 dc20 pm20 cd20 ct20 : Value}
    {f21 : Addr} {od21 an21 : Option Addr} {sl21 : Array (Option Value)} {oc21 kV21 dc21 pm21 cd21 ct21 : Value}
    {f22 : Addr} {od22 an22 : Option Addr} {sl22 : Array (Option Value)} {oc22 kV22 dc22 pm22 cd22 ct22 : Value}
    {f23 : Addr} {od23 an23 : Option Addr} {sl23 : Array (Option Value)} {oc23 kV23 dc23 pm23 cd23 ct23 : Value}
    {f24 : Addr} {od24 an24 : Option Addr} {sl24 : Array (Option Value)} {oc24 kV24 dc24 pm24 cd24 ct24 : Value}
    {na1 : Addr} {ns1 : Array DictEntry} {nn1 : Nat}
    {ta1 : Addr} {tb1 : Option Addr} {tc1 : Array Value} {td1 : Nat} {te1 : Array (Option Value)}
    {ta2 : Addr} {tb2 : Option Addr} {tc2 : Array Value} {td2 : Nat} {te2 : Array (Option Value)}
    {ta3 : Addr} {tb3 : Option Addr} {tc3 : Array Value} {td3 : Nat} {te3 : Array (Option Value)}
    {t1 : Tok}
    (ca100 : PySem.W.nsIn K mainGlobals "WeaveError" = some (some (.ref C100)))
    (ca101 : PySem.W.nsIn K mainGlobals "BadLine" = some (some (.ref C101)))
    (ca102 : PySem.W.nsIn K mainGlobals "BadText" = some (some (.ref C102)))
    (ca103 : PySem.W.nsIn K mainGlobals "NoOutlet" = some (some (.ref C103)))
    (ca104 : PySem.W.nsIn K mainGlobals "LetGo" = some (some (.ref C104)))
    (ca105 : PySem.W.nsIn K mainGlobals "NoSource" = some (some (.ref C105)))
    (ca106 : PySem.W.nsIn K mainGlobals "Over" = some (some (.ref C106)))
    (xp102 : K.lookup C102 = some (excClassObj xa102 xb102 C102 xc102 xd102 xe102 true xf102 xg102 xh102 xi102 xj102 xk102 xl102 xm102 xn102 xo102 "ValueError.__new__")) (xq102 : PySem.HandSPX.refsVE xe102 = true)
    (xr102 : PySem.W.findIn K (.ref C102) "__setattr__" = some (some (.builtin "object.__setattr__"))) (xs102 : PySem.W.subIn K (.ref C102) (.type "BaseException") = some true) (xt102 : PySem.W.typeIn K (.ref C102) = some (.type "type")) (xu102 : PySem.W.keepIn K (.ref C102) = true)
    (xn102_1 : PySem.W.findIn K (.ref C102) "row" = some none)
    (ya102 : PySem.W.findIn K (.ref C102) "__getattribute__" = some (some (.builtin "BaseException.__getattribute__"))) (yb102 : PySem.W.findIn K (.ref C102) "__getattr__" = some none) (yc102 : PySem.W.hasDictIn K C102 = true) (yd102 : PySem.W.findIn K (.ref C102) "__class__" = some (some (.builtin "object.__class__"))) (ye102 : PySem.W.specialIn K (.builtin "object.__class__") "__get__" = some (some (.builtin "getset_descriptor.__get__"))) (yf102 : PySem.W.takesIn K (.builtin "object.__class__") = some true) (yg102 : PySem.W.mroIn K C102 (.type "object") = some true)
    (yi102_1 : PySem.W.kitOne K (.ref C102) (.ref C101) = some false)
    (yi102_2 : PySem.W.kitOne K (.ref C102) (.ref C102) = some true)
    (yi102_3 : PySem.W.kitOne K (.ref C102) (.ref C103) = some false)
    (yi102_4 : PySem.W.kitOne K (.ref C102) (.ref C104) = some false)
    (yi102_5 : PySem.W.kitOne K (.ref C102) (.ref C105) = some false)
    (yi102_6 : PySem.W.kitOne K (.ref C102) (.ref C106) = some false)
    (yi102_0 : PySem.W.kitOne K (.ref C102) (.type "ValueError") = some true)
    (ym102_1 : PySem.W.exmOne K (.ref C102) (.ref C100) = some true)
    (a1 : PySem.W.nsIn K mainGlobals "_law_dice" = some (some (.ref f1))) (l1 : K.lookup f1 = some ⟨oc1, od1, .func (PySem.W.fnOf "_law_dice" "_law_dice" (defArgs s__law_dice) (defBody s__law_dice) (defScope s__law_dice) .none kV1 dc1 pm1 an1 cd1 ct1), sl1⟩) (c1 : PySem.W.codeIn K cd1 "_law_dice" = true) (k1 : PySem.W.keepIn K (.ref f1) = true)
    (a2 : PySem.W.nsIn K mainGlobals "_law_next" = some (some (.ref f2))) (l2 : K.lookup f2 = some ⟨oc2, od2, .func (PySem.W.fnOf "_law_next" "_law_next" (defArgs s__law_next) (defBody s__law_next) (defScope s__law_next) .none kV2 dc2 pm2 an2 cd2 ct2), sl2⟩) (c2 : PySem.W.codeIn K cd2 "_law_next" = true) (k2 : PySem.W.keepIn K (.ref f2) = true)
    (a3 : PySem.W.nsIn K mainGlobals "_law_number" = some (some (.ref f3))) (l3 : K.lookup f3 = some ⟨oc3, od3, .func (PySem.W.fnOf "_law_number" "_law_number" (defArgs s__law_number) (defBody s__law_number) (defScope s__law_number) .none kV3 dc3 pm3 an3 cd3 ct3), sl3⟩) (c3 : PySem.W.codeIn K cd3 "_law_number" = true) (k3 : PySem.W.keepIn K (.ref f3) = true)
    (a4 : PySem.W.nsIn K mainGlobals "_law_tests" = some (some (.ref f4))) (l4 : K.lookup f4 = some ⟨oc4, od4, .func (PySem.W.fnOf "_law_tests" "_law_tests" (defArgs s__law_tests) (defBody s__law_tests) (defScope s__law_tests) .none kV4 dc4 pm4 an4 cd4 ct4), sl4⟩) (c4 : PySem.W.codeIn K cd4 "_law_tests" = true) (k4 : PySem.W.keepIn K (.ref f4) = true)
    (a5 : PySem.W.nsIn K mainGlobals "_law_deeds" = some (some (.ref f5))) (l5 : K.lookup f5 = some ⟨oc5, od5, .func (PySem.W.fnOf "_law_deeds" "_law_deeds" (defArgs s__law_deeds) (defBody s__law_deeds) (defScope s__law_deeds) .none kV5 dc5 pm5 an5 cd5 ct5), sl5⟩) (c5 : PySem.W.codeIn K cd5 "_law_deeds" = true) (k5 : PySem.W.keepIn K (.ref f5) = true)
    (a6 : PySem.W.nsIn K mainGlobals "_law_long" = some (some (.ref f6))) (l6 : K.lookup f6 = some ⟨oc6, od6, .func (PySem.W.fnOf "_law_long" "_law_long" (defArgs s__law_long) (defBody s__law_long) (defScope s__law_long) .none kV6 dc6 pm6 an6 cd6 ct6), sl6⟩) (c6 : PySem.W.codeIn K cd6 "_law_long" = true) (k6 : PySem.W.keepIn K (.ref f6) = true)
    (a7 : PySem.W.nsIn K mainGlobals "_law_line" = some (some (.ref f7))) (l7 : K.lookup f7 = some ⟨oc7, od7, .func (PySem.W.fnOf "_law_line" "_law_line" (defArgs s__law_line) (defBody s__law_line) (defScope s__law_line) .none kV7 dc7 pm7 an7 cd7 ct7), sl7⟩) (c7 : PySem.W.codeIn K cd7 "_law_line" = true) (k7 : PySem.W.keepIn K (.ref f7) = true)
    (a8 : PySem.W.nsIn K mainGlobals "_law_kind" = some (some (.ref f8))) (l8 : K.lookup f8 = some ⟨oc8, od8, .func (PySem.W.fnOf "_law_kind" "_law_kind" (defArgs s__law_kind) (defBody s__law_kind) (defScope s__law_kind) .none kV8 dc8 pm8 an8 cd8 ct8), sl8⟩) (c8 : PySem.W.codeIn K cd8 "_law_kind" = true) (k8 : PySem.W.keepIn K (.ref f8) = true)
    (a9 : PySem.W.nsIn K mainGlobals "_law_weave" = some (some (.ref f9))) (l9 : K.lookup f9 = some ⟨oc9, od9, .func (PySem.W.fnOf "_law_weave" "_law_weave" (defArgs s__law_weave) (defBody s__law_weave) (defScope s__law_weave) .none kV9 dc9 pm9 an9 cd9 ct9), sl9⟩) (c9 : PySem.W.codeIn K cd9 "_law_weave" = true) (k9 : PySem.W.keepIn K (.ref f9) = true)
    (a10 : PySem.W.nsIn K mainGlobals "_law_row" = some (some (.ref f10))) (l10 : K.lookup f10 = some ⟨oc10, od10, .func (PySem.W.fnOf "_law_row" "_law_row" (defArgs s__law_row) (defBody s__law_row) (defScope s__law_row) .none kV10 dc10 pm10 an10 cd10 ct10), sl10⟩) (c10 : PySem.W.codeIn K cd10 "_law_row" = true) (k10 : PySem.W.keepIn K (.ref f10) = true)
    (a11 : PySem.W.nsIn K mainGlobals "number_read" = some (some (.ref f11))) (l11 : K.lookup f11 = some ⟨oc11, od11, .func (PySem.W.fnOf "number_read" "number_read" (defArgs s_number_read) (defBody s_number_read) (defScope s_number_read) .none kV11 dc11 pm11 an11 cd11 ct11), sl11⟩) (c11 : PySem.W.codeIn K cd11 "number_read" = true) (k11 : PySem.W.keepIn K (.ref f11) = true)
    (a12 : PySem.W.nsIn K mainGlobals "numbers_read" = some (some (.ref f12))) (l12 : K.lookup f12 = some ⟨oc12, od12, .func (PySem.W.fnOf "numbers_read" "numbers_read" (defArgs s_numbers_read) (defBody s_numbers_read) (defScope s_numbers_read) .none kV12 dc12 pm12 an12 cd12 ct12), sl12⟩) (c12 : PySem.W.codeIn K cd12 "numbers_read" = true) (k12 : PySem.W.keepIn K (.ref f12) = true)
    (a13 : PySem.W.nsIn K mainGlobals "part_read" = some (some (.ref f13))) (l13 : K.lookup f13 = some ⟨oc13, od13, .func (PySem.W.fnOf "part_read" "part_read" (defArgs s_part_read) (defBody s_part_read) (defScope s_part_read) .none kV13 dc13 pm13 an13 cd13 ct13), sl13⟩) (c13 : PySem.W.codeIn K cd13 "part_read" = true) (k13 : PySem.W.keepIn K (.ref f13) = true)
    (a14 : PySem.W.nsIn K mainGlobals "parts_read" = some (some (.ref f14))) (l14 : K.lookup f14 = some ⟨oc14, od14, .func (PySem.W.fnOf "parts_read" "parts_read" (defArgs s_parts_read) (defBody s_parts_read) (defScope s_parts_read) .none kV14 dc14 pm14 an14 cd14 ct14), sl14⟩) (c14 : PySem.W.codeIn K cd14 "parts_read" = true) (k14 : PySem.W.keepIn K (.ref f14) = true)
    (a15 : PySem.W.nsIn K mainGlobals "ahead_of_place" = some (some (.ref f15))) (l15 : K.lookup f15 = some ⟨oc15, od15, .func (PySem.W.fnOf "ahead_of_place" "ahead_of_place" (defArgs s_ahead_of_place) (defBody s_ahead_of_place) (defScope s_ahead_of_place) .none kV15 dc15 pm15 an15 cd15 ct15), sl15⟩) (c15 : PySem.W.codeIn K cd15 "ahead_of_place" = true) (k15 : PySem.W.keepIn K (.ref f15) = true)
    (a16 : PySem.W.nsIn K mainGlobals "line_read" = some (some (.ref f16))) (l16 : K.lookup f16 = some ⟨oc16, od16, .func (PySem.W.fnOf "line_read" "line_read" (defArgs s_line_read) (defBody s_line_read) (defScope s_line_read) .none kV16 dc16 pm16 an16 cd16 ct16), sl16⟩) (c16 : PySem.W.codeIn K cd16 "line_read" = true) (k16 : PySem.W.keepIn K (.ref f16) = true)
    (a17 : PySem.W.findIn K (.ref C102) "__init__" = some (some (.ref f17))) (l17 : K.lookup f17 = some ⟨oc17, od17, .func (PySem.W.fnX "__init__" "BadText.__init__" (defArgs s_BadText___init__) (defBody s_BadText___init__) (defScope s_BadText___init__) [("__class__", cq17)] .none kV17 dc17 pm17 an17 (.ref cw17) ct17), sl17⟩) (c17 : PySem.W.codeIn K (.ref cw17) "BadText.__init__" = true) (q17j : PySem.W.typeIn K (.ref f17) = some (.type "function"))
    (q17a : K.lookup cq17 = some ⟨ta17, tc17, .cell (some (.ref C102)), te17⟩) (q17b : K.lookup cw17 = some ⟨tb17, td17, .fields tg17, tf17⟩) (q17c : tg17[2]? = some (.str th17 ti17)) (q17d : ((P.main.file : Str) == th17) = true) (q17e : (P.main.scope.names.lookup ("super" : Str)).isSome = false) (q17f : PySem.W.isClsIn K C102 = true) (q17g : PySem.W.mroIn K C102 (.ref C102) = some true) (q17h : PySem.W.nsIn K cStatics "thirdparty.any" = some none) (q17i : PySem.W.ks_superIn K C102 C102 "__init__" = some (some (.builtin "ValueError.__init__"))) (q17k : PySem.W.subIn K (.ref C102) (.type "ValueError") = some true)
    (a18 : PySem.W.nsIn K mainGlobals "read" = some (some (.ref f18))) (l18 : K.lookup f18 = some ⟨oc18, od18, .func (PySem.W.fnOf "read" "read" (defArgs s_read) (defBody s_read) (defScope s_read) .none kV18 dc18 pm18 an18 cd18 ct18), sl18⟩) (c18 : PySem.W.codeIn K cd18 "read" = true) (k18 : PySem.W.keepIn K (.ref f18) = true)
    (a19 : PySem.W.nsIn K mainGlobals "_law_is" = some (some (.ref f19))) (l19 : K.lookup f19 = some ⟨oc19, od19, .func (PySem.W.fnOf "_law_is" "_law_is" (defArgs s__law_is) (defBody s__law_is) (defScope s__law_is) .none kV19 dc19 pm19 an19 cd19 ct19), sl19⟩) (c19 : PySem.W.codeIn K cd19 "_law_is" = true) (k19 : PySem.W.keepIn K (.ref f19) = true)
    (a20 : PySem.W.nsIn K mainGlobals "_law_whole" = some (some (.ref f20))) (l20 : K.lookup f20 = some ⟨oc20, od20, .func (PySem.W.fnOf "_law_whole" "_law_whole" (defArgs s__law_whole) (defBody s__law_whole) (defScope s__law_whole) .none kV20 dc20 pm20 an20 cd20 ct20), sl20⟩) (c20 : PySem.W.codeIn K cd20 "_law_whole" = true) (k20 : PySem.W.keepIn K (.ref f20) = true)
    (a21 : PySem.W.nsIn K mainGlobals "_law_refused" = some (some (.ref f21))) (l21 : K.lookup f21 = some ⟨oc21, od21, .func (PySem.W.fnOf "_law_refused" "_law_refused" (defArgs s__law_refused) (defBody s__law_refused) (defScope s__law_refused) .none kV21 dc21 pm21 an21 cd21 ct21), sl21⟩) (c21 : PySem.W.codeIn K cd21 "_law_refused" = true) (k21 : PySem.W.keepIn K (.ref f21) = true)
    (a22 : PySem.W.nsIn K mainGlobals "_law_like" = some (some (.ref f22))) (l22 : K.lookup f22 = some ⟨oc22, od22, .func (PySem.W.fnOf "_law_like" "_law_like" (defArgs s__law_like) (defBody s__law_like) (defScope s__law_like) .none kV22 dc22 pm22 an22 cd22 ct22), sl22⟩) (c22 : PySem.W.codeIn K cd22 "_law_like" = true) (k22 : PySem.W.keepIn K (.ref f22) = true)
    (a23 : PySem.W.nsIn K mainGlobals "_law_bad_row" = some (some (.ref f23))) (l23 : K.lookup f23 = some ⟨oc23, od23, .func (PySem.W.fnOf "_law_bad_row" "_law_bad_row" (defArgs s__law_bad_row) (defBody s__law_bad_row) (defScope s__law_bad_row) .none kV23 dc23 pm23 an23 cd23 ct23), sl23⟩) (c23 : PySem.W.codeIn K cd23 "_law_bad_row" = true) (k23 : PySem.W.keepIn K (.ref f23) = true)
    (a24 : PySem.W.nsIn K mainGlobals "law" = some (some (.ref f24))) (l24 : K.lookup f24 = some ⟨oc24, od24, .func (PySem.W.fnOf "law" "law" (defArgs s_law) (defBody s_law) (defScope s_law) .none kV24 dc24 pm24 an24 cd24 ct24), sl24⟩) (c24 : PySem.W.codeIn K cd24 "law" = true) (k24 : PySem.W.keepIn K (.ref f24) = true)
    (nd1a : PySem.W.nsIn K mainGlobals "NUMBERS" = some (some (.ref na1))) (nd1b : K.lookup na1 = some ⟨.type "dict", none, .dict ns1 nn1, #[]⟩) (dkn1 : PySem.W.KeysLit w.params ns1.toList) (nd1c : (na1 == sysModules) = false) (nd1d : ns1.toList.map entOf = ([("minus", 0), ("first", 0), ("second", 0), ("both", 0), ("sum", 0), ("many", 0), ("rest", 2)] : List (Str × Int)).map fun p => (some p.1, some p.2))
    (tq1a : PySem.W.nsIn K mainGlobals "DEEDS" = some (some (.ref ta1))) (tq1b : K.lookup ta1 = some ⟨.type "tuple", tb1, .seq tc1 td1, te1⟩) (tq1c : tc1.size ≤ sizeLine) (tq1d : tc1.toList.map textOf = (["add", "times", "minus", "first", "second", "both", "sum", "many"] : List Str).map some)
    (tq2a : PySem.W.nsIn K mainGlobals "TESTS" = some (some (.ref ta2))) (tq2b : K.lookup ta2 = some ⟨.type "tuple", tb2, .seq tc2 td2, te2⟩) (tq2c : tc2.size ≤ sizeLine) (tq2d : tc2.toList.map textOf = (["below", "over", "rest"] : List Str).map some)
    (tq3a : PySem.W.nsIn K mainGlobals "FOLDS" = some (some (.ref ta3))) (tq3b : K.lookup ta3 = some ⟨.type "tuple", tb3, .seq tc3 td3, te3⟩) (tq3c : tc3.size ≤ sizeLine) (tq3d : tc3.toList.map textOf = (["add", "times", "least", "most"] : List Str).map some)
    (i1 : PySem.W.nsIn K mainGlobals "MOST_FIGURES" = some (some (.int 9 t1)))
    (z1 : PySem.W.nsIn K mainGlobals "ValueError" = some none)
    (z2 : PySem.W.nsIn K mainGlobals "bool" = some none)
    (z3 : PySem.W.nsIn K mainGlobals "enumerate" = some none)
    (z4 : PySem.W.nsIn K mainGlobals "int" = some none)
    (z5 : PySem.W.nsIn K mainGlobals "isinstance" = some none)
    (z6 : PySem.W.nsIn K mainGlobals "len" = some none)
    (z7 : PySem.W.nsIn K mainGlobals "list" = some none)
    (z8 : PySem.W.nsIn K mainGlobals "max" = some none)
    (z9 : PySem.W.nsIn K mainGlobals "min" = some none)
    (z10 : PySem.W.nsIn K mainGlobals "range" = some none)
    (z11 : PySem.W.nsIn K mainGlobals "str" = some none)
    (z12 : PySem.W.nsIn K mainGlobals "super" = some none)
    (z13 : PySem.W.nsIn K mainGlobals "tuple" = some none) :
    ∃ T : Tx P K w mg, T.law.f = f24 ∧ ∀ (s : Shared) (v : Value), BindsTo s T.law.fd ⟨[v], []⟩ [("_law_script", v)] := by
  have F1 := fun_mk (st := s__law_dice) l1 c1 k1
  have b1 := F1.binds (ps := ["_law_script"]) fun _ _ _ _ _ _ us hl => match us, hl with | [_], _ => rfl
  have F2 := fun_mk (st := s__law_next) l2 c2 k2
  have b2 := F2.binds (ps := ["_law_dice_here", "_law_many"]) fun _ _ _ _ _ _ us hl => match us, hl with | [_, _], _ => rfl
  have F3 := fun_mk (st := s__law_number) l3 c3 k3
  have b3 := F3.binds (ps := ["_law_d"]) fun _ _ _ _ _ _ us hl => match us, hl with | [_], _ => rfl
  have F4 := fun_mk (st := s__law_tests) l4 c4 k4
  have b4 := F4.binds (ps := ["_law_d"]) fun _ _ _ _ _ _ us hl => match us, hl with | [_], _ => rfl
  have F5 := fun_mk (st := s__law_deeds) l5 c5 k5
  have b5 := F5.binds (ps := ["_law_d", "_law_kind_here"]) fun _ _ _ _ _ _ us hl => match us, hl with | [_, _], _ => rfl
  have F6 := fun_mk (st := s__law_long) l6 c6 k6
  have b6 := F6.binds (ps := ["_law_d"]) fun _ _ _ _ _ _ us hl => match us, hl with | [_], _ => rfl
  have F7 := fun_mk (st := s__law_line) l7 c7 k7
  have b7 := F7.binds (ps := ["_law_d", "_law_kinds"]) fun _ _ _ _ _ _ us hl => match us, hl with | [_, _], _ => rfl
  have F8 := fun_mk (st := s__law_kind) l8 c8 k8
  have b8 := F8.binds (ps := ["_law_line_here", "_law_kinds"]) fun _ _ _ _ _ _ us hl => match us, hl with | [_, _], _ => rfl
  have F9 := fun_mk (st := s__law_weave) l9 c9 k9
  have b9 := F9.binds (ps := ["_law_d"]) fun _ _ _ _ _ _ us hl => match us, hl with | [_], _ => rfl
  have F10 := fun_mk (st := s__law_row) l10 c10 k10
  have b10 := F10.binds (ps := ["_law_line_here"]) fun _ _ _ _ _ _ us hl => match us, hl with | [_], _ => rfl
  have F11 := fun_mk (st := s_number_read) l11 c11 k11
  have b11 := F11.binds (ps := ["word"]) fun _ _ _ _ _ _ us hl => match us, hl with | [_], _ => rfl
  have F12 := fun_mk (st := s_numbers_read) l12 c12 k12
  have b12 := F12.binds (ps := ["words", "many"]) fun _ _ _ _ _ _ us hl => match us, hl with | [_, _], _ => rfl
  have F13 := fun_mk (st := s_part_read) l13 c13 k13
  have b13 := F13.binds (ps := ["words", "known"]) fun _ _ _ _ _ _ us hl => match us, hl with | [_, _], _ => rfl
  have F14 := fun_mk (st := s_parts_read) l14 c14 k14
  have b14 := F14.binds (ps := ["words", "known"]) fun _ _ _ _ _ _ us hl => match us, hl with | [_, _], _ => rfl
  have F15 := fun_mk (st := s_ahead_of_place) l15 c15 k15
  have b15 := F15.binds (ps := ["words"]) fun _ _ _ _ _ _ us hl => match us, hl with | [_], _ => rfl
  have F16 := fun_mk (st := s_line_read) l16 c16 k16
  have b16 := F16.binds (ps := ["words"]) fun _ _ _ _ _ _ us hl => match us, hl with | [_], _ => rfl
  have b17 : Binds K (PySem.W.fnX "__init__" "BadText.__init__" (defArgs s_BadText___init__) (defBody s_BadText___init__) (defScope s_BadText___init__) [("__class__", cq17)] .none kV17 dc17 pm17 an17 (.ref cw17) ct17) ["self", "row"] [] := .all fun us hl => match us, hl with | [_, _], _ => rfl
  have F18 := fun_mk (st := s_read) l18 c18 k18
  have b18 := F18.binds (ps := ["text"]) fun _ _ _ _ _ _ us hl => match us, hl with | [_], _ => rfl
  have F19 := fun_mk (st := s__law_is) l19 c19 k19
  have b19 := F19.binds (ps := ["_law_e", "_law_word"]) fun _ _ _ _ _ _ us hl => match us, hl with | [_, _], _ => rfl
  have F20 := fun_mk (st := s__law_whole) l20 c20 k20
  have b20 := F20.binds (ps := ["_law_found"]) fun _ _ _ _ _ _ us hl => match us, hl with | [_], _ => rfl
  have F21 := fun_mk (st := s__law_refused) l21 c21 k21
  have b21 := F21.binds (ps := ["_law_text", "_law_row_here"]) fun _ _ _ _ _ _ us hl => match us, hl with | [_, _], _ => rfl
  have F22 := fun_mk (st := s__law_like) l22 c22 k22
  have b22 := F22.binds (ps := ["_law_found", "_law_due"]) fun _ _ _ _ _ _ us hl => match us, hl with | [_, _], _ => rfl
  have F23 := fun_mk (st := s__law_bad_row) l23 c23 k23
  have b23 := F23.binds (ps := ["_law_d"]) fun _ _ _ _ _ _ us hl => match us, hl with | [_], _ => rfl
  have F24 := fun_mk (st := s_law) l24 c24 k24
  have b24 := F24.binds (ps := ["_law_script"]) fun _ _ _ _ _ _ us hl => match us, hl with | [_], _ => rfl
  exact ⟨{
    k_WeaveError := ⟨C100, PySem.W.mg_of X G ca100⟩
    k_BadLine := ⟨C101, PySem.W.mg_of X G ca101⟩
    k_BadText := ⟨C102, PySem.W.mg_of X G ca102⟩
    k_NoOutlet := ⟨C103, PySem.W.mg_of X G ca103⟩
    k_LetGo := ⟨C104, PySem.W.mg_of X G ca104⟩
    k_NoSource := ⟨C105, PySem.W.mg_of X G ca105⟩
    k_Over := ⟨C106, PySem.W.mg_of X G ca106⟩
    n_BadText_row := xn102_1
    x_BadText := ⟨⟨⟨_, _, _, _, _, _, _, _, _, _, _, _, _, _, _, xp102, xq102⟩, xr102, xs102, xt102, xu102⟩, ⟨ya102, yb102, xs102, yc102⟩, ⟨ya102, yb102, xs102, yc102, yd102, ye102, yf102, yg102⟩⟩
    i_BadText_BadLine := yi102_1
    i_BadText_BadText := yi102_2
    i_BadText_NoOutlet := yi102_3
    i_BadText_LetGo := yi102_4
    i_BadText_NoSource := yi102_5
    i_BadText_Over := yi102_6
    i_BadText_ValueError := yi102_0
    m_BadText_WeaveError := ym102_1
    _law_dice := ⟨f1, _, F1, b1, PySem.W.mg_of X G a1⟩
    _law_next := ⟨f2, _, F2, b2, PySem.W.mg_of X G a2⟩
    _law_number := ⟨f3, _, F3, b3, PySem.W.mg_of X G a3⟩
    _law_tests := ⟨f4, _, F4, b4, PySem.W.mg_of X G a4⟩
    _law_deeds := ⟨f5, _, F5, b5, PySem.W.mg_of X G a5⟩
    _law_long := ⟨f6, _, F6, b6, PySem.W.mg_of X G a6⟩
    _law_line := ⟨f7, _, F7, b7, PySem.W.mg_of X G a7⟩
    _law_kind := ⟨f8, _, F8, b8, PySem.W.mg_of X G a8⟩
    _law_weave := ⟨f9, _, F9, b9, PySem.W.mg_of X G a9⟩
    _law_row := ⟨f10, _, F10, b10, PySem.W.mg_of X G a10⟩
    number_read := ⟨f11, _, F11, b11, PySem.W.mg_of X G a11⟩
    numbers_read := ⟨f12, _, F12, b12, PySem.W.mg_of X G a12⟩
    part_read := ⟨f13, _, F13, b13, PySem.W.mg_of X G a13⟩
    parts_read := ⟨f14, _, F14, b14, PySem.W.mg_of X G a14⟩
    ahead_of_place := ⟨f15, _, F15, b15, PySem.W.mg_of X G a15⟩
    line_read := ⟨f16, _, F16, b16, PySem.W.mg_of X G a16⟩
    BadText___init__ := ⟨f17, cq17, cw17, _, ⟨⟨oc17, od17, .none, kV17, dc17, pm17, an17, ct17, sl17, l17, rfl⟩, c17, ⟨_, _, _, q17a⟩, ⟨_, _, _, _, _, _, q17b, q17c, q17d⟩, q17e, q17f, q17g, q17h, q17i, q17k, ⟨⟨_, _, _, _, _, _, _, _, _, _, _, _, _, _, _, xp102, xq102⟩, xr102, xs102, xt102, xu102⟩⟩, b17, a17, q17j⟩
    read := ⟨f18, _, F18, b18, PySem.W.mg_of X G a18⟩
    _law_is := ⟨f19, _, F19, b19, PySem.W.mg_of X G a19⟩
    _law_whole := ⟨f20, _, F20, b20, PySem.W.mg_of X G a20⟩
    _law_refused := ⟨f21, _, F21, b21, PySem.W.mg_of X G a21⟩
    _law_like := ⟨f22, _, F22, b22, PySem.W.mg_of X G a22⟩
    _law_bad_row := ⟨f23, _, F23, b23, PySem.W.mg_of X G a23⟩
    law := ⟨f24, _, F24, b24, PySem.W.mg_of X G a24⟩
    c_NUMBERS := ⟨na1, PySem.W.mg_of X G nd1a, nd1c, ns1, nn1, nd1b, dkn1, nd1d⟩
    c_DEEDS := ⟨ta1, PySem.W.mg_of X G tq1a, fun H => tup_mk tq1b rfl rfl tq1c tq1d H⟩
    c_TESTS := ⟨ta2, PySem.W.mg_of X G tq2a, fun H => tup_mk tq2b rfl rfl tq2c tq2d H⟩
    c_FOLDS := ⟨ta3, PySem.W.mg_of X G tq3a, fun H => tup_mk tq3b rfl rfl tq3c tq3d H⟩
    c_MOST_FIGURES := ⟨t1, PySem.W.mg_of X G i1⟩
    z_ValueError := PySem.W.mg_none_of X G z1
    z_bool := PySem.W.mg_none_of X G z2
    z_enumerate := PySem.W.mg_none_of X G z3
    z_int := PySem.W.mg_none_of X G z4
    z_isinstance := PySem.W.mg_none_of X G z5
    z_len := PySem.W.mg_none_of X G z6
    z_list := PySem.W.mg_none_of X G z7
    z_max := PySem.W.mg_none_of X G z8
    z_min := PySem.W.mg_none_of X G z9
    z_range := PySem.W.mg_none_of X G z10
    z_str := PySem.W.mg_none_of X G z11
    z_super := PySem.W.mg_none_of X G z12
    z_tuple := PySem.W.mg_none_of X G z13
  }, rfl, fun s v => .of_eq rfl⟩
theorem walk {l : PySem.W.OpenLaw} {q : Program} {loose : List Str} {XP : (Str → Option Value) → Heap → Prop} {YP : World → Heap → Prop} {d : DefRec} {K : Params → PySem.W.Frag} (hn : l.most = some 63) (hdf : d.params.defaults = [])
    (hY : ∀ (w : World) (h : Heap), YP w h → (K w.params).In h) (hname : d.name = "law")
    (F : ∀ (w : World) (mg : Str → Option Value) (h : Heap), (K w.params).In h → h.Ns mainGlobals mg → ∃ (f : Addr) (T : Tx l.prog (K w.params) w mg), T.law.f = f ∧ ∀ (s : Shared) (v : Value), BindsTo s T.law.fd ⟨[v], []⟩ [("_law_script", v)]) :
    PySem.W.WalkO q loose XP YP l.row.toRowW d [] (fun f vs => PySem.call f vs) := by
  refine L2.walk_of (n := 63) (k := 16) (x := "_law_script") (CX := fun _ => CX0) (sp := fun w => spLaw (K w.params)) hn (by decide) hdf ⟨rfl, by decide, by decide⟩ hY (fun w mg fa h KX G hmg => ?_) (fun _ _ a ns hl hO hS => ⟨a, ns, rfl, fz_of hO hS, hl, fun _ => rfl⟩) fun _ _ _ _ _ z => z
  obtain ⟨f, T, hT, hb⟩ := F w mg h KX G
  have e1 : f = fa := by
    have g := T.law.g
    rw [hname] at hmg
    rw [hT, hmg] at g
    cases g; rfl
  subst e1
  subst hT
  exact ⟨T.law.fd, hb, fun base _ _ => ok_law T⟩
end
end Wv
open PySem PySem.W PyProof.Rows
set_option maxRecDepth 100000 in
set_option maxHeartbeats 0 in
theorem PySem.Challenge.cw_weavepull_k20_read_or_refused_holds : PySem.Challenge.rw_weavepull_k20_read_or_refused.Holds := by
  w_on; o_law; k_head; (case hw => w_witness2)
  k_fill
  refine Wv.walk (l := PySem.Challenge.rw_weavepull_k20_read_or_refused) rfl rfl (fun w h Y => PySem.W.kIn_of Y) rfl ?F
  case F =>
    intro w mg h KX G
    refine' ⟨_, Wv.tx_mk (w := w) KX G ?ca100 ?ca101 ?ca102 ?ca103 ?ca104 ?ca105 ?ca106 ?xp102 ?xq102 ?xr102 ?xs102 ?xt102 ?xu102 ?xn102_1 ?ya102 ?yb102 ?yc102 ?yd102 ?ye102 ?yf102 ?yg102 ?yi102_1 ?yi102_2 ?yi102_3 ?yi102_4 ?yi102_5 ?yi102_6 ?yi102_0 ?ym102_1 ?a1 ?l1 ?c1 ?k1 ?a2 ?l2 ?c2 ?k2 ?a3 ?l3 ?c3 ?k3 ?a4 ?l4 ?c4 ?k4 ?a5 ?l5 ?c5 ?k5 ?a6 ?l6 ?c6 ?k6 ?a7 ?l7 ?c7 ?k7 ?a8 ?l8 ?c8 ?k8 ?a9 ?l9 ?c9 ?k9 ?a10 ?l10 ?c10 ?k10 ?a11 ?l11 ?c11 ?k11 ?a12 ?l12 ?c12 ?k12 ?a13 ?l13 ?c13 ?k13 ?a14 ?l14 ?c14 ?k14 ?a15 ?l15 ?c15 ?k15 ?a16 ?l16 ?c16 ?k16 ?a17 ?l17 ?c17 ?q17j ?q17a ?q17b ?q17c ?q17d ?q17e ?q17f ?q17g ?q17h ?q17i ?q17k ?a18 ?l18 ?c18 ?k18 ?a19 ?l19 ?c19 ?k19 ?a20 ?l20 ?c20 ?k20 ?a21 ?l21 ?c21 ?k21 ?a22 ?l22 ?c22 ?k22 ?a23 ?l23 ?c23 ?k23 ?a24 ?l24 ?c24 ?k24 ?nd1a ?nd1b ?dkn1 ?nd1c ?nd1d ?tq1a ?tq1b ?tq1c ?tq1d ?tq2a ?tq2b ?tq2c ?tq2d ?tq3a ?tq3b ?tq3c ?tq3d ?i1 ?z1 ?z2 ?z3 ?z4 ?z5 ?z6 ?z7 ?z8 ?z9 ?z10 ?z11 ?z12 ?z13⟩
    (case ca100 => k_is)
    (case ca101 => k_is)
    (case ca102 => k_is)
    (case ca103 => k_is)
    (case ca104 => k_is)
    (case ca105 => k_is)
    (case ca106 => k_is)
    (case xp102 => first | k_is | rfl | decide +kernel)
    (case xq102 => first | k_is | rfl | decide +kernel)
    (case xr102 => first | k_is | rfl | decide +kernel)
    (case xs102 => first | k_is | rfl | decide +kernel)
    (case xt102 => first | k_is | rfl | decide +kernel)
    (case xu102 => first | k_is | rfl | decide +kernel)
    (case xn102_1 => first | k_is | rfl | decide +kernel)
    (case ya102 => first | k_is | rfl | decide +kernel)
    (case yb102 => first | k_is | rfl | decide +kernel)
    (case yc102 => first | k_is | rfl | decide +kernel)
    (case yd102 => first | k_is | rfl | decide +kernel)
    (case ye102 => first | k_is | rfl | decide +kernel)
    (case yf102 => first | k_is | rfl | decide +kernel)
    (case yg102 => first | k_is | rfl | decide +kernel)
    (case yi102_1 => first | k_is | rfl | decide +kernel)
    (case yi102_2 => first | k_is | rfl | decide +kernel)
    (case yi102_3 => first | k_is | rfl | decide +kernel)
    (case yi102_4 => first | k_is | rfl | decide +kernel)
    (case yi102_5 => first | k_is | rfl | decide +kernel)
    (case yi102_6 => first | k_is | rfl | decide +kernel)
    (case yi102_0 => first | k_is | rfl | decide +kernel)
    (case ym102_1 => first | k_is | rfl | decide +kernel)
    (case a1 => k_is)
    (case l1 => k_is)
    (case c1 => k_is)
    (case k1 => k_is)
    (case a2 => k_is)
    (case l2 => k_is)
    (case c2 => k_is)
    (case k2 => k_is)
    (case a3 => k_is)
    (case l3 => k_is)
    (case c3 => k_is)
    (case k3 => k_is)
    (case a4 => k_is)
    (case l4 => k_is)
    (case c4 => k_is)
    (case k4 => k_is)
    (case a5 => k_is)
    (case l5 => k_is)
    (case c5 => k_is)
    (case k5 => k_is)
    (case a6 => k_is)
    (case l6 => k_is)
    (case c6 => k_is)
    (case k6 => k_is)
    (case a7 => k_is)
    (case l7 => k_is)
    (case c7 => k_is)
    (case k7 => k_is)
    (case a8 => k_is)
    (case l8 => k_is)
    (case c8 => k_is)
    (case k8 => k_is)
    (case a9 => k_is)
    (case l9 => k_is)
    (case c9 => k_is)
    (case k9 => k_is)
    (case a10 => k_is)
    (case l10 => k_is)
    (case c10 => k_is)
    (case k10 => k_is)
    (case a11 => k_is)
    (case l11 => k_is)
    (case c11 => k_is)
    (case k11 => k_is)
    (case a12 => k_is)
    (case l12 => k_is)
    (case c12 => k_is)
    (case k12 => k_is)
    (case a13 => k_is)
    (case l13 => k_is)
    (case c13 => k_is)
    (case k13 => k_is)
    (case a14 => k_is)
    (case l14 => k_is)
    (case c14 => k_is)
    (case k14 => k_is)
    (case a15 => k_is)
    (case l15 => k_is)
    (case c15 => k_is)
    (case k15 => k_is)
    (case a16 => k_is)
    (case l16 => k_is)
    (case c16 => k_is)
    (case k16 => k_is)
    (case a17 => k_is)
    (case l17 => k_is)
    (case c17 => k_is)
    (case q17j => first | k_is | rfl | decide +kernel)
    (case q17a => first | k_is | rfl | decide +kernel)
    (case q17b => first | k_is | rfl | decide +kernel)
    (case q17c => first | k_is | rfl | decide +kernel)
    (case q17d => first | k_is | rfl | decide +kernel)
    (case q17e => first | k_is | rfl | decide +kernel)
    (case q17f => first | k_is | rfl | decide +kernel)
    (case q17g => first | k_is | rfl | decide +kernel)
    (case q17h => first | k_is | rfl | decide +kernel)
    (case q17i => ks_is)
    (case q17k => first | k_is | rfl | decide +kernel)
    (case a18 => k_is)
    (case l18 => k_is)
    (case c18 => k_is)
    (case k18 => k_is)
    (case a19 => k_is)
    (case l19 => k_is)
    (case c19 => k_is)
    (case k19 => k_is)
    (case a20 => k_is)
    (case l20 => k_is)
    (case c20 => k_is)
    (case k20 => k_is)
    (case a21 => k_is)
    (case l21 => k_is)
    (case c21 => k_is)
    (case k21 => k_is)
    (case a22 => k_is)
    (case l22 => k_is)
    (case c22 => k_is)
    (case k22 => k_is)
    (case a23 => k_is)
    (case l23 => k_is)
    (case c23 => k_is)
    (case k23 => k_is)
    (case a24 => k_is)
    (case l24 => k_is)
    (case c24 => k_is)
    (case k24 => k_is)
    (case nd1a => first | k_is | rfl | decide +kernel)
    (case nd1b => first | k_is | rfl | decide +kernel)
    (case dkn1 => k_keys)
    (case nd1c => first | k_is | rfl | decide +kernel)
    (case nd1d => first | k_is | rfl | decide +kernel)
    (case tq1a => first | k_is | rfl | decide +kernel)
    (case tq1b => first | k_is | rfl | decide +kernel)
    (case tq1c => first | k_is | rfl | decide +kernel)
    (case tq1d => first | k_is | rfl | decide +kernel)
    (case tq2a => first | k_is | rfl | decide +kernel)
    (case tq2b => first | k_is | rfl | decide +kernel)
    (case tq2c => first | k_is | rfl | decide +kernel)
    (case tq2d => first | k_is | rfl | decide +kernel)
    (case tq3a => first | k_is | rfl | decide +kernel)
    (case tq3b => first | k_is | rfl | decide +kernel)
    (case tq3c => first | k_is | rfl | decide +kernel)
    (case tq3d => first | k_is | rfl | decide +kernel)
    (case i1 => k_is)
    (case z1 => k_is)
    (case z2 => k_is)
    (case z3 => k_is)
    (case z4 => k_is)
    (case z5 => k_is)
    (case z6 => k_is)
    (case z7 => k_is)
    (case z8 => k_is)
    (case z9 => k_is)
    (case z10 => k_is)
    (case z11 => k_is)
    (case z12 => k_is)
    (case z13 => k_is)
