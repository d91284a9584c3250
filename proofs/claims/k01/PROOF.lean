import PyProof.Rows.All
import Wide.All
import OpenK.AllK
import Wide.FinOn
import HandS.ForMost
import HandS.IsInst
import PySem.Challenge.RW_weavepull_k01_deeds_and_tests
set_option Elab.async false
set_option linter.all false
set_option maxRecDepth 100000
set_option maxHeartbeats 4000000
namespace Wv
open PySem PySem.Spec PyProof.Rows L2
/-! ### what the top has -/
structure At (K : PySem.W.Frag) (mg : Str → Option Value) (x : Str) (st : Stmt) (ps : List Str) where
  f : Addr
  fd : FuncData
  F : Fun K x x st f fd
  b : Binds K fd ps []
  g : mg x = some (.ref f)
structure IntAt (mg : Str → Option Value) (x : Str) (n : Int) where
  t : Tok
  g : mg x = some (.int n t)
theorem dec_vint {a b : Int} : decide (V.int a = V.int b) = decide (a = b) := by
  by_cases h : a = b
  · subst h; rw [decide_eq_true rfl, decide_eq_true rfl]
  · rw [decide_eq_false h, decide_eq_false]
    intro z
    injection z with z
    exact h z
/-! ### a word that the walk does not open -/
inductive Hold (p : Prop) : Prop where
  | mk (h : p)
  | no (h : False)
theorem Hold.out {p : Prop} : Hold p → p
  | .mk h => h
  | .no h => h.elim
/-! ### tests whose answer is known -/
theorem ite_f {b : Bool} {A B : Prop} (h : b = false) (q : B) : if b = true then A else B := by
  subst h; exact iteF q
theorem ite_t {b : Bool} {A B : Prop} (h : b = true) (q : A) : if b = true then A else B := by
  subst h; exact iteT q
theorem ite_d {c : Prop} [Decidable c] {A B : Prop} (h1 : c → A) (h2 : ¬ c → B) : if decide c = true then A else B := by
  by_cases h : c
  · exact ite_t (decide_eq_true h) (h1 h)
  · exact ite_f (decide_eq_false h) (h2 h)
theorem ite_nd {c : Prop} [Decidable c] {A B : Prop} (h1 : ¬ c → A) (h2 : c → B) : if (!decide c) = true then A else B := by
  by_cases h : c
  · exact ite_f (by rw [decide_eq_true h]; rfl) (h2 h)
  · exact ite_t (by rw [decide_eq_false h]; rfl) (h1 h)
/-! ### data that never changes -/
mutual
inductive Im (K : PySem.W.Frag) (H : Hp) : V → PyData → Prop
  | non : Im K H .non .none
  | bl (b : Bool) : Im K H (.bl b) (.bool b)
  | int (i : Int) : Im K H (.int i) (.int i)
  | str (x : Str) : Im K H (.str x) (.str x)
  | tup {a : Addr} {xs : List V} {ds : List PyData} : SqT K H a xs → Ims K H xs ds → Im K H (.ref a) (.tuple ds)
inductive Ims (K : PySem.W.Frag) (H : Hp) : List V → List PyData → Prop
  | nil : Ims K H [] []
  | cons {v : V} {vs : List V} {d : PyData} {ds : List PyData} : Im K H v d → Ims K H vs ds → Ims K H (v :: vs) (d :: ds)
end
/-- the script: a list that nobody writes -/
def Fz (K : PySem.W.Frag) (H : Hp) (a : Addr) (xs : List V) : Prop :=
  (∃ o, H a = some (.frz o (.lst xs))) ∨
    ∃ (o : Obj) (its : Array Value) (n : Nat), K.lookup a = some o ∧ o.cls = .type "list" ∧ o.dict = none ∧ o.data = .seq its n ∧ its.size ≤ sizeLine ∧ Vals xs its.toList
theorem Fz.seq {K : PySem.W.Frag} {H : Hp} {a : Addr} {xs : List V} (h : Fz K H a xs) : SqL K H a xs := by
  rcases h with h | h
  · exact .inl (.inr h)
  · exact .inr h
theorem fz_of {K : PySem.W.Frag} {H : Hp} {a : Addr} {xs : List V} (O : Only H) (h : SqL K H a xs) : Fz K H a xs := by
  rcases h with (h | h) | h
  · rcases O a with z | ⟨o, ys, z⟩
    · rw [z] at h; cases h
    · rw [z] at h; cases h
  · exact .inl h
  · exact .inr h
/-- what never changes stays: tuples, the script -/
structure TK (K : PySem.W.Frag) (H H' : Hp) : Prop where
  t : ∀ a xs, SqT K H a xs → SqT K H' a xs
  f : ∀ a xs, Fz K H a xs → Fz K H' a xs
/-- all but what stands at D is kept -/
def But (D : Addr) (H H' : Hp) : Prop := ∀ b o, b ≠ D → H b = some o → H' b = some o
section
variable {K : PySem.W.Frag} {H H' H1 H2 : Hp}
theorem TK.refl : TK K H H := ⟨fun _ _ h => h, fun _ _ h => h⟩
theorem TK.trans (a : TK K H H1) (b : TK K H1 H2) : TK K H H2 := ⟨fun x y h => b.t x y (a.t x y h), fun x y h => b.f x y (a.f x y h)⟩
theorem same_tk (s : Same H H') : TK K H H' := by
  refine ⟨fun a xs h => ?_, fun a xs h => ?_⟩
  · rcases h with (h | ⟨o, h⟩) | h
    · exact .inl (.inl (s _ _ h))
    · exact .inl (.inr ⟨o, s _ _ h⟩)
    · exact .inr h
  · rcases h with ⟨o, h⟩ | h
    · exact .inl ⟨o, s _ _ h⟩
    · exact .inr h
theorem But.refl {D : Addr} : But D H H := fun _ _ _ h => h
theorem But.trans {D : Addr} (a : But D H H1) (b : But D H1 H2) : But D H H2 := fun c o hc h => b c o hc (a c o hc h)
theorem same_but {D : Addr} (s : Same H H') : But D H H' := fun b o _ h => s b o h
/-- what a write may change -/
def wr : HO → Bool
  | .tup _ => false
  | .frz _ _ => false
  | _ => true
theorem But.tkW {D : Addr} {u : HO} (hD : H D = some u) (hu : wr u = true) (s : But D H H') : TK K H H' := by
  refine ⟨fun a ys h => ?_, fun a ys h => ?_⟩
  · rcases h with (h | ⟨o, h⟩) | h
    · exact .inl (.inl (s _ _ (ne_of h hD (by intro z; subst z; cases hu)) h))
    · exact .inl (.inr ⟨o, s _ _ (ne_of h hD (by intro z; subst z; cases hu)) h⟩)
    · exact .inr h
  · rcases h with ⟨o, h⟩ | h
    · exact .inl ⟨o, s _ _ (ne_of h hD (by intro z; subst z; cases hu)) h⟩
    · exact .inr h
theorem But.tk {D : Addr} {xs : List V} (hD : H D = some (.lst xs)) (s : But D H H') : TK K H H' := s.tkW hD rfl
/-- a new object -/
theorem same_new {p : Addr} {o : HO} (h : H p = none) : Same H (upd H p o) := fun b u q => by rw [upd_ne (ne_of_none q h)]; exact q
theorem But.new {D p : Addr} {o : HO} (s : But D H H1) (hD : H1 D ≠ none) (h : H1 p = none) : But D H (upd H1 p o) := fun b u hb q => by
  rw [upd_ne (ne_of_none (s b u hb q) h)]
  exact s b u hb q
/-- a write to what was not there at the beginning, or to D -/
theorem But.put {D p : Addr} {o : HO} (s : But D H H1) (h : p = D ∨ H p = none) : But D H (upd H1 p o) := fun b u hb q => by
  have : b ≠ p := by
    rcases h with rfl | h
    · exact hb
    · exact ne_of_none q h
  rw [upd_ne this]
  exact s b u hb q
theorem same_put {p : Addr} {o : HO} (s : Same H H1) (h : H p = none) : Same H (upd H1 p o) := fun b u q => by
  rw [upd_ne (ne_of_none q h)]
  exact s b u q
theorem But.free {D p : Addr} (s : But D H H1) (hp : p ≠ D) (h : H1 p = none) : H p = none := by
  cases q : H p with
  | none => rfl
  | some o =>
    rw [s p o hp q] at h
    cases h
theorem upd_same' {p : Addr} {o : HO} : (upd H p o) p = some o := upd_same
/-- a new object: go on with a heap that is only known to hold it -/
theorem alloc {p : Addr} {o : HO} {G : Hp → Prop} (h : H p = none) (k : ∀ H', Same H H' → H' p = some o → G H') : G (upd H p o) := k _ (same_new h) upd_same
theorem put {p : Addr} {o : HO} {G : Hp → Prop} (k : ∀ H', But p H H' → H' p = some o → G H') : G (upd H p o) :=
  k _ (fun b u hb q => by rw [upd_ne hb]; exact q) upd_same
end
theorem sql_id {K : PySem.W.Frag} {H : Hp} {a : Addr} {xs : List V} (h : SqL K H a xs) : SqL K H a xs := h
theorem sqt_id {K : PySem.W.Frag} {H : Hp} {a : Addr} {xs : List V} (h : SqT K H a xs) : SqT K H a xs := h
theorem sz {n : Nat} (h : n ≤ 1000) : n ≤ sizeLine := Nat.le_of_lt (small1000 h)
section
variable {K : PySem.W.Frag} {H H' : Hp}
mutual
theorem Im.up (t : TK K H H') : ∀ (d : PyData) (v : V), Im K H v d → Im K H' v d
  | .none, _, h => by cases h; exact .non
  | .bool b, _, h => by cases h; exact .bl b
  | .int i, _, h => by cases h; exact .int i
  | .str x, _, h => by cases h; exact .str x
  | .list _, _, h => by cases h
  | .tuple ds, _, h => by
    cases h with
    | tup hs ha => exact .tup (t.t _ _ hs) (Ims.up t ds _ ha)
  | .dict _, _, h => by cases h
theorem Ims.up (t : TK K H H') : ∀ (ds : List PyData) (vs : List V), Ims K H vs ds → Ims K H' vs ds
  | [], _, h => by cases h; exact .nil
  | d :: ds, _, h => by
    cases h with
    | cons h1 h2 => exact .cons (Im.up t d _ h1) (Ims.up t ds _ h2)
end
mutual
theorem Im.dp : ∀ (d : PyData) (v : V), Im K H v d → Dp K H v d
  | .none, _, h => by cases h; exact .non
  | .bool b, _, h => by cases h; exact .bl b
  | .int i, _, h => by cases h; exact .int i
  | .str x, _, h => by cases h; exact .str x
  | .list _, _, h => by cases h
  | .tuple ds, _, h => by
    cases h with
    | tup hs ha => exact .tup hs (Ims.dp ds _ ha)
  | .dict _, _, h => by cases h
theorem Ims.dp : ∀ (ds : List PyData) (vs : List V), Ims K H vs ds → DpAll K H vs ds
  | [], _, h => by cases h; exact .nil
  | d :: ds, _, h => by
    cases h with
    | cons h1 h2 => exact .cons (Im.dp d _ h1) (Ims.dp ds _ h2)
end
theorem Im.u {d : PyData} {v : V} (h : Im K H v d) (t : TK K H H') : Im K H' v d := Im.up t d v h
theorem Ims.u {d : List PyData} {v : List V} (h : Ims K H v d) (t : TK K H H') : Ims K H' v d := Ims.up t d v h
theorem Ims.len : ∀ {vs : List V} {ds : List PyData}, Ims K H vs ds → vs.length = ds.length
  | _, _, .nil => rfl
  | _, _, .cons _ t => congrArg Nat.succ (Ims.len t)
theorem Ims.get : ∀ {vs : List V} {ds : List PyData} {i : Nat} {v : V}, Ims K H vs ds → vs[i]? = some v → ∃ d, ds[i]? = some d ∧ Im K H v d
  | _, _, i, _, .nil, e => by simp at e
  | _, _, 0, v, .cons r _, e => by simp at e; subst e; exact ⟨_, rfl, r⟩
  | _, _, i + 1, v, .cons _ t, e => by
    obtain ⟨d, h1, h2⟩ := Ims.get (i := i) (v := v) t (by simpa using e)
    exact ⟨d, by simpa using h1, h2⟩
theorem Ims.got : ∀ {vs : List V} {ds : List PyData} {i : Nat} {d : PyData}, Ims K H vs ds → ds[i]? = some d → ∃ v, vs[i]? = some v ∧ Im K H v d
  | _, _, i, _, .nil, e => by simp at e
  | _, _, 0, v, .cons r _, e => by simp at e; subst e; exact ⟨_, rfl, r⟩
  | _, _, i + 1, v, .cons _ t, e => by
    obtain ⟨d, h1, h2⟩ := Ims.got (i := i) (d := v) t (by simpa using e)
    exact ⟨d, by simpa using h1, h2⟩
theorem Ims.snoc : ∀ {vs : List V} {ds : List PyData} {v : V} {d : PyData}, Ims K H vs ds → Im K H v d → Ims K H (vs ++ [v]) (ds ++ [d])
  | _, _, _, _, .nil, h => .cons h .nil
  | _, _, _, _, .cons r t, h => .cons r (Ims.snoc t h)
theorem Im.i {v : V} {i : Int} (h : Im K H v (.int i)) : v = .int i := by cases h; rfl
theorem Im.s {v : V} {i : Str} (h : Im K H v (.str i)) : v = .str i := by cases h; rfl
theorem Im.t {v : V} {ds : List PyData} (h : Im K H v (.tuple ds)) : ∃ a xs, v = .ref a ∧ SqT K H a xs ∧ Ims K H xs ds := by
  cases h with
  | tup h1 h2 => exact ⟨_, _, rfl, h1, h2⟩
theorem Im.t1 {v : V} {d : PyData} (h : Im K H v (.tuple [d])) : ∃ a x, v = .ref a ∧ SqT K H a [x] ∧ Im K H x d := by
  cases h with
  | tup h1 h2 =>
    cases h2 with
    | cons a b => cases b; exact ⟨_, _, rfl, h1, a⟩
theorem Im.t2 {v : V} {d e : PyData} (h : Im K H v (.tuple [d, e])) : ∃ a x y, v = .ref a ∧ SqT K H a [x, y] ∧ Im K H x d ∧ Im K H y e := by
  cases h with
  | tup h1 h2 =>
    cases h2 with
    | cons a b =>
      cases b with
      | cons c b => cases b; exact ⟨_, _, _, rfl, h1, a, c⟩
theorem Im.t3 {v : V} {d e f : PyData} (h : Im K H v (.tuple [d, e, f])) : ∃ a x y z, v = .ref a ∧ SqT K H a [x, y, z] ∧ Im K H x d ∧ Im K H y e ∧ Im K H z f := by
  cases h with
  | tup h1 h2 =>
    cases h2 with
    | cons a b =>
      cases b with
      | cons c b =>
        cases b with
        | cons g b => cases b; exact ⟨_, _, _, _, rfl, h1, a, c, g⟩
theorem Ims.ints : ∀ (ns : List Int), Ims K H (ns.map V.int) (ns.map PyData.int)
  | [] => .nil
  | n :: ns => .cons (.int n) (Ims.ints ns)
theorem Ims.of_ints : ∀ (ns : List Int) {vs : List V}, Ims K H vs (ns.map PyData.int) → vs = ns.map V.int
  | [], _, h => by cases h; rfl
  | n :: ns, _, h => by
    cases h with
    | cons a b => cases a; rw [Ims.of_ints ns b]; rfl
end
/-! ### a list that a def grows -/
section
variable {K : PySem.W.Frag} {H H' : Hp} {l : Addr} {ds : List PyData}
def Acc (K : PySem.W.Frag) (H : Hp) (l : Addr) (ds : List PyData) : Prop := ∃ vs, H l = some (.lst vs) ∧ Ims K H vs ds
theorem Acc.at (h : Acc K H l ds) : ∃ xs, H l = some (.lst xs) := ⟨_, h.choose_spec.1⟩
theorem Acc.keep (h : Acc K H l ds) (t : TK K H H') (e : ∀ xs, H l = some (.lst xs) → H' l = some (.lst xs)) : Acc K H' l ds := by
  obtain ⟨vs, e1, i⟩ := h
  exact ⟨vs, e _ e1, i.u t⟩
theorem Acc.same (h : Acc K H l ds) (s : Same H H') : Acc K H' l ds := h.keep (same_tk s) fun _ e => s _ _ e
theorem Acc.but {D : Addr} (h : Acc K H l ds) (s : But D H H') (t : TK K H H') (ne : l ≠ D) : Acc K H' l ds := h.keep t fun _ e => s _ _ ne e
theorem Acc.seq (h : Acc K H l ds) : ∃ vs, SqL K H l vs ∧ Ims K H vs ds := by
  obtain ⟨vs, e1, i⟩ := h
  exact ⟨vs, SqL.of e1, i⟩
theorem acc_nil {p : Addr} (h : H p = some (.lst [])) : Acc K H p [] := ⟨[], h, .nil⟩
theorem acc_ty (h : Acc K H l ds) : tyV K "list" (.ref l) H := by
  obtain ⟨xs, e, i⟩ := h
  exact Or.inl ⟨rfl, _, SqL.of e⟩
end
section
variable {K : PySem.W.Frag} {H H' : Hp} {l : Addr} {ds : List PyData}
theorem Acc.push {y : V} {d : PyData} (h : Acc K H l ds) (hy : Im K H y d) (hl : ds.length < 1000) :
    ∃ acc, H l = some (.lst acc) ∧ acc.length < sizeLine ∧ But l H (upd H l (.lst (acc ++ [y]))) ∧ TK K H (upd H l (.lst (acc ++ [y]))) ∧ Acc K (upd H l (.lst (acc ++ [y]))) l (ds ++ [d]) := by
  obtain ⟨vs, e, i⟩ := h
  have b : But l H (upd H l (.lst (vs ++ [y]))) := fun b u hb z => by rw [upd_ne hb]; exact z
  have t : TK K H (upd H l (.lst (vs ++ [y]))) := b.tk e
  exact ⟨vs, e, small1000 (by rw [i.len]; omega), b, t, ⟨_, upd_same, (i.u t).snoc (hy.u t)⟩⟩
end
/-! ### rules whose readings speak of data, and whose new heaps are letters -/
section
variable {X : Cx} {e : Expr} {es : List Expr} {t : TA} {pos : Pos}
theorem pe_imp {t1 t2 : TE} (h : PE X e t1) (k : ∀ σ H Q, t2 σ H Q → t1 σ H Q) : PE X e t2 := ⟨fun pins s σ H Q I q => h.run pins s σ H Q I (k _ _ _ q)⟩
theorem pa_cut (h : PA X es t) : PA X es (fun σ H R => ∃ R0, t σ H R0 ∧ ∀ xs H1, R0 xs H1 → R xs H1) := by
  refine ⟨fun pos pins s σ H Q I q => ?_⟩
  obtain ⟨R0, h1, h2⟩ := q
  refine thn (h.run pos pins s σ H R0 I h1) fun us s1 q => ?_
  obtain ⟨vs, H', I', r, q⟩ := q
  exact ⟨vs, H', I', r, h2 _ _ q⟩
theorem CallR.imp {f : Value} {r r' : List V → Hp → VK → Prop} (h : CallR X f r) (k : ∀ xs H Q, r' xs H Q → r xs H Q) : CallR X f r' :=
  fun pins s σ H xs us Q I rv q => h pins s σ H xs us Q I rv (k _ _ _ q)
theorem OpR.imp {f : Value → Value → Sem Value} {r r' : R2} (h : OpR X f r) (k : ∀ x y H Q, r' x y H Q → r x y H Q) : OpR X f r' :=
  fun pins s σ H x y v u Q I rx ry q => h pins s σ H x y v u Q I rx ry (k _ _ _ _ q)
theorem MtR.imp {id : String} {r r' : V → List V → Hp → VK → Prop} (h : MtR X id r) (k : ∀ x xs H Q, r' x xs H Q → r x xs H Q) : MtR X id r' :=
  fun pins s σ H x xs v us Q I rx rs q => h pins s σ H x xs v us Q I rx rs (k _ _ _ _ q)
theorem IxR.imp {r r' : R2} (h : IxR X r) (k : ∀ x y H Q, r' x y H Q → r x y H Q) : IxR X r' :=
  fun value slice pins s σ H x y v u Q I rx ry q hs => h value slice pins s σ H x y v u Q I rx ry (k _ _ _ _ q) hs
theorem PSet.imp {r r' : TSet} (h : PSet X r) (k : ∀ o i v H Q, r' o i v H Q → r o i v H Q) : PSet X r' :=
  fun pins s σ H o i v ov iv u Q I ro ri rv q => h pins s σ H o i v ov iv u Q I ro ri rv (k _ _ _ _ _ q)
/-- (a, b) -/
def rTd (K : PySem.W.Frag) (xs : List V) (H : Hp) (Q : VK) : Prop := ∃ ds, Ims K H xs ds ∧ ds.length ≤ 1000 ∧ ∀ p H', Same H H' → TK K H H' → Im K H' (.ref p) (.tuple ds) → Q (.ref p) H'
/-- [a, b] -/
def rLd (K : PySem.W.Frag) (xs : List V) (H : Hp) (Q : VK) : Prop := ∃ ds, Ims K H xs ds ∧ ds.length ≤ 1000 ∧ ∀ p H', H p = none → Same H H' → TK K H H' → Acc K H' p ds → Q (.ref p) H'
/-- [a, b], whatever they are -/
def rLr (K : PySem.W.Frag) (xs : List V) (H : Hp) (Q : VK) : Prop := xs.length ≤ 1000 ∧ ∀ p H', H p = none → Same H H' → TK K H H' → H' p = some (.lst xs) → Q (.ref p) H'
def rTr (K : PySem.W.Frag) (xs : List V) (H : Hp) (Q : VK) : Prop := xs.length ≤ 1000 ∧ ∀ p H', H p = none → Same H H' → TK K H H' → H' p = some (.tup xs) → Q (.ref p) H'
theorem pe_td {x1 : Nat} (h : PA X es t) : PE X (.Tuple es x1 pos) (fun σ H Q => t σ H fun xs H1 => rTd X.K xs H1 Q) := pe_imp (pe_tup (pa_cut h)) fun σ H Q q => ⟨_, q, fun xs H1 r => by
  obtain ⟨ds, i, hl, k⟩ := r
  refine ⟨sz (by rw [i.len]; exact hl), fun p hp => ?_⟩
  have s := same_new (o := HO.tup xs) hp
  exact k p _ s (same_tk s) (.tup (SqT.of upd_same) (i.u (same_tk s)))⟩
theorem pe_tr {x1 : Nat} (h : PA X es t) : PE X (.Tuple es x1 pos) (fun σ H Q => t σ H fun xs H1 => rTr X.K xs H1 Q) := pe_imp (pe_tup (pa_cut h)) fun σ H Q q => ⟨_, q, fun xs H1 r => by
  obtain ⟨hl, k⟩ := r
  refine ⟨sz hl, fun p hp => ?_⟩
  have s := same_new (o := HO.tup xs) hp
  exact k p _ hp s (same_tk s) upd_same⟩
theorem pe_ld (h : PA X es t) : PE X (.List es pos) (fun σ H Q => t σ H fun xs H1 => rLd X.K xs H1 Q) := pe_imp (pe_lst (pa_cut h)) fun σ H Q q => ⟨_, q, fun xs H1 r => by
  obtain ⟨ds, i, hl, k⟩ := r
  refine ⟨sz (by rw [i.len]; exact hl), fun p hp => ?_⟩
  have s := same_new (o := HO.lst xs) hp
  exact k p _ hp s (same_tk s) ⟨xs, upd_same, i.u (same_tk s)⟩⟩
theorem pe_lr (h : PA X es t) : PE X (.List es pos) (fun σ H Q => t σ H fun xs H1 => rLr X.K xs H1 Q) := pe_imp (pe_lst (pa_cut h)) fun σ H Q q => ⟨_, q, fun xs H1 r => by
  obtain ⟨hl, k⟩ := r
  refine ⟨sz hl, fun p hp => ?_⟩
  have s := same_new (o := HO.lst xs) hp
  exact k p _ hp s (same_tk s) upd_same⟩
/-- l.append(x) of data -/
def rAppA (K : PySem.W.Frag) : V → List V → Hp → VK → Prop := fun x vs H Q => ∃ l y ds d, x = .ref l ∧ vs = [y] ∧ Acc K H l ds ∧ Im K H y d ∧ ds.length < 1000 ∧ ∀ H', But l H H' → TK K H H' → Acc K H' l (ds ++ [d]) → Q .non H'
theorem mt_appA : MtR X "list.append" (rAppA X.K) := MtR.imp mt_append fun x vs H Q q => by
  obtain ⟨l, y, ds, d, rfl, rfl, ⟨xs, e, i⟩, hy, hl, k⟩ := q
  have b : But l H (upd H l (.lst (xs ++ [y]))) := fun b u hb z => by rw [upd_ne hb]; exact z
  have t : TK X.K H (upd H l (.lst (xs ++ [y]))) := b.tk e
  exact ⟨l, xs, y, rfl, rfl, e, small1000 (by rw [i.len]; omega), k _ b t ⟨_, upd_same, (i.u t).snoc (hy.u t)⟩⟩
/-- l.append(x) of anything -/
def rAppR (K : PySem.W.Frag) : V → List V → Hp → VK → Prop := fun x vs H Q => ∃ l y xs, x = .ref l ∧ vs = [y] ∧ H l = some (.lst xs) ∧ xs.length < 100000 ∧ ∀ H', But l H H' → TK K H H' → H' l = some (.lst (xs ++ [y])) → Q .non H'
theorem mt_appR : MtR X "list.append" (rAppR X.K) := MtR.imp mt_append fun x vs H Q q => by
  obtain ⟨l, y, xs, rfl, rfl, e, hl, k⟩ := q
  have b : But l H (upd H l (.lst (xs ++ [y]))) := fun b u hb z => by rw [upd_ne hb]; exact z
  exact ⟨l, xs, y, rfl, rfl, e, Nat.lt_trans hl (by decide), k _ b (b.tk e) upd_same⟩
/-- tuple(l) of data -/
def rTupleA (K : PySem.W.Frag) : List V → Hp → VK → Prop := fun xs H Q => ∃ l ds, xs = [.ref l] ∧ Acc K H l ds ∧ ∀ p H', Same H H' → TK K H H' → Im K H' (.ref p) (.tuple ds) → Q (.ref p) H'
theorem call_tupleA : CallR X (.type "tuple") (rTupleA X.K) := CallR.imp call_tuple_of fun xs H Q q => by
  obtain ⟨l, ds, rfl, ⟨vs, e, i⟩, k⟩ := q
  refine ⟨l, vs, rfl, .inl ⟨SqL.of e, fun p hp => ?_⟩⟩
  have s := same_new (o := HO.tup vs) hp
  exact k p _ s (same_tk s) (.tup (SqT.of upd_same) (i.u (same_tk s)))
/-- list(l) of data -/
def rListA (K : PySem.W.Frag) : List V → Hp → VK → Prop := fun xs H Q => ∃ l ds, xs = [.ref l] ∧ Acc K H l ds ∧ ∀ p H', H p = none → Same H H' → TK K H H' → Acc K H' p ds → Q (.ref p) H'
theorem call_listA : CallR X (.type "list") (rListA X.K) := CallR.imp call_list_of fun xs H Q q => by
  obtain ⟨l, ds, rfl, ⟨vs, e, i⟩, k⟩ := q
  refine ⟨l, vs, rfl, .inl (SqL.of e), fun p hp => ?_⟩
  have s := same_new (o := HO.lst vs) hp
  exact k p _ hp s (same_tk s) ⟨vs, upd_same, i.u (same_tk s)⟩
/-- t[i], l[i] of data -/
def rIxD (K : PySem.W.Frag) : R2 := fun x y H Q => ∃ (ds : List PyData) (i : Int) (j : Nat) (d : PyData), Im K H x (.tuple ds) ∧ y = .int i ∧ i = (j : Int) ∧ ds[j]? = some d ∧ ∀ v, Im K H v d → Q v H
theorem ix_tupD : IxR X (rIxD X.K) := IxR.imp ix_tup fun x y H Q q => by
  obtain ⟨ds, i, j, d, im, rfl, hi, hd, k⟩ := q
  obtain ⟨a, xs, rfl, ht, hs⟩ := im.t
  obtain ⟨v, hv, iv⟩ := hs.got hd
  exact ⟨a, xs, i, v, rfl, rfl, ht, at_of hi hv, k v iv⟩
def rIxA (K : PySem.W.Frag) : R2 := fun x y H Q => ∃ (l : Addr) (ds : List PyData) (i : Int) (j : Nat) (d : PyData), x = .ref l ∧ Acc K H l ds ∧ y = .int i ∧ i = (j : Int) ∧ ds[j]? = some d ∧ ∀ v, Im K H v d → Q v H
theorem ix_listA : IxR X (rIxA X.K) := IxR.imp ix_list fun x y H Q q => by
  obtain ⟨l, ds, i, j, d, rfl, ⟨vs, e, im⟩, rfl, hi, hd, k⟩ := q
  obtain ⟨v, hv, iv⟩ := im.got hd
  exact ⟨l, vs, i, v, rfl, rfl, SqL.of e, at_of hi hv, k v iv⟩
/-- [x, y][int(b)] of data -/
def rSelA (K : PySem.W.Frag) : R2 := fun x y H Q => ∃ (l : Addr) (d e : PyData) (b : Bool), x = .ref l ∧ Acc K H l [d, e] ∧ y = .int (if b = true then 1 else 0) ∧ ∀ v, Im K H v (if b = true then e else d) → Q v H
theorem ix_selA : IxR X (rSelA X.K) := IxR.imp ix_list fun x y H Q q => by
  obtain ⟨l, d, e, b, rfl, ⟨vs, q1, im⟩, rfl, k⟩ := q
  cases b with
  | true =>
    obtain ⟨v, hv, iv⟩ := im.got (i := 1) rfl
    exact ⟨l, vs, 1, v, rfl, rfl, SqL.of q1, at_of (j := 1) rfl hv, k v iv⟩
  | false =>
    obtain ⟨v, hv, iv⟩ := im.got (i := 0) rfl
    exact ⟨l, vs, 0, v, rfl, rfl, SqL.of q1, at_of (j := 0) rfl hv, k v iv⟩
/-- the same of anything -/
def rSelR (K : PySem.W.Frag) : R2 := fun x y H Q => ∃ (l : Addr) (d e : V) (b : Bool), x = .ref l ∧ H l = some (.lst [d, e]) ∧ y = .int (if b = true then 1 else 0) ∧ Q (if b = true then e else d) H
theorem ix_selR : IxR X (rSelR X.K) := IxR.imp ix_list fun x y H Q q => by
  obtain ⟨l, d, e, b, rfl, q1, rfl, k⟩ := q
  refine ⟨l, [d, e], _, if b = true then e else d, rfl, rfl, SqL.of q1, ?_, k⟩
  cases b <;> rfl
/-- l[i] = v -/
def rSetN (K : PySem.W.Frag) : TSet := fun o i v H Q => ∃ (p : Addr) (xs ys : List V) (k : Int) (j : Nat), o = .ref p ∧ i = .int k ∧ H p = some (.lst xs) ∧ ixN xs.length k = some j ∧ xs.set j v = ys ∧ ∀ H', But p H H' → TK K H H' → H' p = some (.lst ys) → Q H'
theorem set_listN : PSet X (rSetN X.K) := PSet.imp set_list fun o i v H Q q => by
  obtain ⟨p, xs, ys, k, j, rfl, rfl, e, hj, rfl, q⟩ := q
  have b : But p H (upd H p (.lst (xs.set j v))) := fun b u hb z => by rw [upd_ne hb]; exact z
  exact ⟨p, xs, k, j, rfl, rfl, e, hj, q _ b (b.tk e) upd_same⟩
/-- k[0], k[1] .. of a text or of data -/
def rIxK (K : PySem.W.Frag) : R2 := fun x y H Q => (∃ (z : Str) (c : Nat), x = .str z ∧ y = .int 0 ∧ z.length ≤ sizeLine ∧ z.cps.toList[0]? = some c ∧ Q (.str ⟨#[c]⟩) H) ∨ rIxD K x y H Q
theorem ix_kd : IxR X (rIxK X.K) := IxR.imp (ix_str.or ix_tupD) fun x y H Q q => by
  rcases q with ⟨z, c, rfl, rfl, h1, h2, q⟩ | q
  · exact .inl ⟨z, 0, c, rfl, rfl, h1, (atI_nat h2 : atI z.cps.toList ((0 : Nat) : Int) = some c), q⟩
  · exact .inr q
def rMax2 : List V → Hp → VK → Prop := fun xs H Q => ∃ i j, xs = [.int i, .int j] ∧ Q (.int (max i j)) H
def rMin2 : List V → Hp → VK → Prop := fun xs H Q => ∃ i j, xs = [.int i, .int j] ∧ Q (.int (min i j)) H
theorem call_max2N (hc : X.calm = true) : CallR X (.builtin "max") rMax2 := CallR.imp (call_max2 hc) fun xs H Q q => by
  obtain ⟨i, j, rfl, q⟩ := q
  refine ⟨i, j, rfl, ?_⟩
  have e : (if j > i then j else i) = max i j := by split <;> omega
  rw [e]
  exact q
theorem call_min2N (hc : X.calm = true) : CallR X (.builtin "min") rMin2 := CallR.imp (call_min2 hc) fun xs H Q q => by
  obtain ⟨i, j, rfl, q⟩ := q
  refine ⟨i, j, rfl, ?_⟩
  have e : (if j < i then j else i) = min i j := by split <;> omega
  rw [e]
  exact q
/-- len of data -/
def rLenT (K : PySem.W.Frag) : List V → Hp → VK → Prop := fun xs H Q => ∃ v ds, xs = [v] ∧ Im K H v (.tuple ds) ∧ Q (.int ds.length) H
theorem call_lenT : CallR X (.builtin "len") (rLenT X.K) := CallR.imp call_len_seq fun xs H Q q => by
  obtain ⟨v, ds, rfl, i, k⟩ := q
  obtain ⟨a, vs, rfl, ht, hs⟩ := i.t
  exact ⟨a, vs, rfl, .inr ht, by rw [hs.len]; exact k⟩
def rLenA (K : PySem.W.Frag) : List V → Hp → VK → Prop := fun xs H Q => ∃ l ds, xs = [.ref l] ∧ Acc K H l ds ∧ Q (.int ds.length) H
theorem call_lenA : CallR X (.builtin "len") (rLenA X.K) := CallR.imp call_len_seq fun xs H Q q => by
  obtain ⟨l, ds, rfl, ⟨vs, e, i⟩, k⟩ := q
  exact ⟨l, vs, rfl, .inl (SqL.of e), by rw [i.len]; exact k⟩
end
/-! ### cuts: what holds behind a statement -/
section
variable {X : Cx} {st : Stmt} {t : TS} {e : Expr} {te : TE}
def tCut (t : TS) : TS := fun D σ H => ∃ R : L2.St → Hp → Prop, t { D with nx := R } σ H ∧ ∀ σ' H', R σ' H' → D.nx σ' H'
theorem ps_cut (h : PS X st t) : PS X st (tCut t) := by
  refine ⟨fun pins s σ H D I hw => ?_⟩
  obtain ⟨R, h1, h2⟩ := hw
  refine thn (h.run pins s σ H { D with nx := R } I h1) fun f s1 q => ?_
  cases f with
  | next =>
    obtain ⟨σ', H', I', q⟩ := q
    exact ⟨σ', H', I', h2 _ _ q⟩
  | ret v => exact q
  | brk => exact q
  | cont => exact q
def tCutE (t : TE) : TE := fun σ H Q => ∃ R : VK, t σ H R ∧ ∀ v H', R v H' → Q v H'
theorem pe_cut (h : PE X e te) : PE X e (tCutE te) := by
  refine ⟨fun pins s σ H Q I hw => ?_⟩
  obtain ⟨R, h1, h2⟩ := hw
  refine thn (h.run pins s σ H R I h1) fun u s1 q => ?_
  obtain ⟨v, H', I', r, q⟩ := q
  exact ⟨v, H', I', r, h2 _ _ q⟩
end
/-! ### sum of a tuple of ints -/
section
variable {X : Cx}
def rSumT (K : PySem.W.Frag) : List V → Hp → VK → Prop := fun vs H Q => ∃ (a : Addr) (ns : List Int), vs = [V.ref a] ∧ SqT K H a (ns.map V.int) ∧ Q (.int ns.sum) H
theorem iter_intTup {A : Around} {E : Value → Shared → Prop} {prog : Program} {w : World} {s : Shared} {l : Addr} {xs : Array (Int × Tok)} {Q : Value → Shared → Prop} (hl : s.heap.IsTuple l (intItems xs))
    (h : ∀ s₂ : Shared, s₂ = { s with heap := s.heap.push { cls := .type "tuple_iterator", data := .fields #[.ref l, .int 0 0] } } →
      (s₂.heap.IsTupleIter s.heap.objs.size l 0 ∧ s₂.heap.IsTuple l (intItems xs)) → (∀ b ∈ [s.heap.objs.size, l], b < s₂.heap.objs.size) → l ≠ s.heap.objs.size → Q (.ref s.heap.objs.size) s₂) :
    wpAny (model prog w) A (pyIter (.ref l)) Q E s := by
  have hlt : l < s.heap.objs.size := by obtain ⟨_, e, _⟩ := hl; exact Heap.lt_size e
  refine wpAny_pyIter_tuple hl (h _ rfl ⟨⟨_, Heap.get?_push_size _ rfl, rfl, rfl⟩, hl.push _⟩ (fun b hb => ?_) (Nat.ne_of_lt hlt))
  show b < (s.heap.push _).objs.size
  rw [Heap.size_push]
  rcases List.mem_cons.mp hb with rfl | hb
  · exact Nat.lt_succ_self _
  · rcases List.mem_cons.mp hb with rfl | hb
    · exact Nat.lt_succ_of_lt hlt
    · cases hb
theorem sum_intTupG {A : Around} {E : Value → Shared → Prop} {prog : Program} {w : World} {s : Shared} {l : Addr} {xs : Array (Int × Tok)} {Q : Value → Shared → Prop} (hh : A.handled = none) (hl : s.heap.IsTuple l (intItems xs))
    (h : ∀ h' tk t', (∀ b o, s.heap.get? b = some o → h'.get? b = some o) → Q (.int (preSum (numAt xs) xs.size) t') { s with heap := h', toks := tk }) :
    wpAny (model prog w) A (call (.builtin "sum") [.ref l]) Q E s := by
  refine call_sum_walkG (iter_intTup hl fun s₂ e st hfp hlI => ?_)
  subst e
  refine ⟨_, _, _, _, _, _, numAt xs, rfl, Walks.tuple (A := A.in1) hh _ l hlI (intItems xs), st, hfp, (fun _ _ => intItems_at), fun h' tk t' hk => ?_⟩
  have hk' : ∀ b o, s.heap.get? b = some o → h'.get? b = some o := fun b o e => by
    refine hk b o (fun hmem => ?_) (Heap.get?_push_of_some _ e)
    rcases List.mem_cons.mp hmem with e1 | hmem
    · exact absurd (e1 ▸ Heap.lt_size e) (Nat.lt_irrefl _)
    · cases hmem
  have := h h' tk t' hk'
  simpa [intItems] using this
theorem sum_rawT {A : Around} {E : Value → Shared → Prop} {prog : Program} {w : World} {s : Shared} {l : Addr} {its : List Value} {ns : List Int} {Q : Value → Shared → Prop} (hh : A.handled = none) (hl : s.heap.IsTuple l its.toArray) (hi : IntsAre its ns)
    (h : ∀ h' tk t', (∀ b o, s.heap.get? b = some o → h'.get? b = some o) → Q (.int ns.sum t') { s with heap := h', toks := tk }) : wpAny (model prog w) A (call (.builtin "sum") [.ref l]) Q E s := by
  obtain ⟨xs, e⟩ := hi.allInts.items
  have hn : numsOf (intItems xs).toList = ns := by rw [← e]; exact hi.numsOf
  rw [nums_intItems] at hn
  rw [e] at hl
  refine sum_intTupG hh hl fun h' tk t' hk => ?_
  have := h h' tk t' hk
  rw [preSum_eq, List.take_of_length_le (by simp), hn]; exact this
theorem cr_sumT (hc : X.calm = true) : CallR X (.builtin "sum") (rSumT X.K) := by
  intro pins s σ H vs us Q I r h
  obtain ⟨a, ns, rfl, hs, q⟩ := h
  obtain ⟨its, rv, hl, _⟩ := I.tuple hs
  rw [Vals.ref1 r]
  exact sum_rawT (I.ok.hd hc) hl rv.ints fun h' tk t' hk => ⟨.int _, H, I.kept hk, ⟨_, rfl⟩, q⟩
end
open PySem PySem.Spec PyProof.Rows L2
/-! ### the draws -/
/-- the dice at D: the script, how many were read, the mixed number, the rest of a great one -/
def IsDice (K : PySem.W.Frag) (H : Hp) (D : Addr) : Prop :=
  ∃ (a : Addr) (ns : List Int) (p m r : Int), H D = some (.lst [.ref a, .int p, .int m, .int r]) ∧ Fz K H a (ns.map V.int) ∧ ns.length ≤ 63 ∧ 0 ≤ p ∧ 0 ≤ m ∧ m < 2147483647 ∧ 0 ≤ r
section
variable {K : PySem.W.Frag} {H H' H1 H2 : Hp} {D a : Addr}
theorem IsDice.at (h : IsDice K H D) : ∃ xs, H D = some (.lst xs) := by
  obtain ⟨a, ns, p, m, r, e, _⟩ := h
  exact ⟨_, e⟩
theorem IsDice.ne (h : IsDice K H D) : H D ≠ none := by
  obtain ⟨xs, e⟩ := h.at
  rw [e]
  intro z
  cases z
theorem But.dtk (s : But D H H') (h : IsDice K H D) : TK K H H' := by
  obtain ⟨xs, e⟩ := h.at
  exact s.tk e
theorem IsDice.keep (h : IsDice K H D) (t : TK K H H') (e : ∀ xs, H D = some (.lst xs) → H' D = some (.lst xs)) : IsDice K H' D := by
  obtain ⟨a, ns, p, m, r, e1, h1, h2⟩ := h
  exact ⟨a, ns, p, m, r, e _ e1, t.f _ _ h1, h2⟩
theorem IsDice.same (h : IsDice K H D) (s : Same H H') : IsDice K H' D := h.keep (same_tk s) fun _ e => s _ _ e
/-- a list of one's own changes -/
theorem IsDice.but {l : Addr} {xs : List V} (h : IsDice K H D) (hl : H l = some (.lst xs)) (ne : D ≠ l) (s : But l H H') : IsDice K H' D := h.keep (s.tk hl) fun _ e => s _ _ ne e
theorem IsDice.ne_new {p : Addr} (h : IsDice K H D) (hp : H p = none) : D ≠ p := by
  obtain ⟨xs, e⟩ := h.at
  exact ne_of_none e hp
end
/-! ### kinds, deeds, tests -/
inductive Kd where
  | num | pair (a b : Kd) | row (a : Kd)
  deriving DecidableEq
def Kd.d : Kd → PyData
  | .num => .str "number"
  | .pair a b => .tuple [.str "pair", a.d, b.d]
  | .row a => .tuple [.str "row", a.d]
inductive Deed where
  | add (n : Int) | times (n : Int) | minus | first | second | both | sum | many
  deriving DecidableEq
def Deed.d : Deed → PyData
  | .add n => .tuple [.str "add", .int n]
  | .times n => .tuple [.str "times", .int n]
  | .minus => .tuple [.str "minus"]
  | .first => .tuple [.str "first"]
  | .second => .tuple [.str "second"]
  | .both => .tuple [.str "both"]
  | .sum => .tuple [.str "sum"]
  | .many => .tuple [.str "many"]
inductive Tst where
  | below (n : Int) | over (n : Int) | rest (m r : Int)
  deriving DecidableEq
def Tst.d : Tst → PyData
  | .below n => .tuple [.str "below", .int n]
  | .over n => .tuple [.str "over", .int n]
  | .rest m r => .tuple [.str "rest", .int m, .int r]
def Num (n : Int) : Prop := 0 ≤ n ∧ n < 1000003
def Deed.Ok : Deed → Prop
  | .add n => Num n
  | .times n => Num n
  | _ => True
def Tst.Ok : Tst → Prop
  | .below n => Num n
  | .over n => Num n
  | .rest m r => Num m ∧ 0 ≤ r ∧ r < m
/-- an item of a kind -/
inductive Has : Kd → PyData → Prop
  | num {n : Int} (h : Num n) : Has .num (.int n)
  | pair {a b : Kd} {x y : PyData} (h1 : Has a x) (h2 : Has b y) : Has (.pair a b) (.tuple [x, y])
  | row {a : Kd} {xs : List PyData} (h : ∀ x ∈ xs, Has a x) (hl : xs.length ≤ 1000002) : Has (.row a) (.tuple xs)
def toI : PyData → Int
  | .int i => i
  | _ => 0
def doneD : Deed → PyData → PyData
  | .add n, .int i => .int ((i + n) % 1000003)
  | .times n, .int i => .int (i * n % 1000003)
  | .minus, .int i => .int (-i % 1000003)
  | .first, .tuple [a, _] => a
  | .second, .tuple [_, b] => b
  | .both, x => .tuple [x, x]
  | .sum, .tuple xs => .int ((xs.map toI).sum % 1000003)
  | .many, .tuple xs => .int xs.length
  | _, x => x
def kindD : Deed → Kd → Option Kd
  | .add _, .num => some .num
  | .times _, .num => some .num
  | .minus, .num => some .num
  | .first, .pair a _ => some a
  | .second, .pair _ b => some b
  | .both, k => some (.pair k k)
  | .sum, .row .num => some .num
  | .many, .row _ => some .num
  | _, _ => none
def doneAll (ds : List Deed) (x : PyData) : PyData := ds.foldl (fun x d => doneD d x) x
def kindAll : List Deed → Kd → Option Kd
  | [], k => some k
  | d :: ds, k => (kindD d k).bind (kindAll ds)
theorem kindAll_snoc : ∀ {ds : List Deed} {k k1 : Kd} {d : Deed}, kindAll ds k = some k1 → kindAll (ds ++ [d]) k = kindD d k1
  | [], k, k1, d, h => by
    cases h
    show (kindD d k).bind some = _
    cases kindD d k <;> rfl
  | e :: ds, k, k1, d, h => by
    show (kindD e k).bind (kindAll (ds ++ [d])) = _
    have h : (kindD e k).bind (kindAll ds) = some k1 := h
    cases q : kindD e k with
    | none => rw [q] at h; cases h
    | some z => rw [q] at h; exact kindAll_snoc (ds := ds) h
theorem kindAll_take {ds : List Deed} {k k' : Kd} (h : kindAll ds k = some k') : ∀ i, ∃ k1, kindAll (ds.take i) k = some k1 ∧ kindAll (ds.drop i) k1 = some k' := by
  induction ds generalizing k with
  | nil => intro i; exact ⟨k, by simp [kindAll], by simpa using h⟩
  | cons d ds ih =>
    intro i
    cases i with
    | zero => exact ⟨k, rfl, h⟩
    | succ i =>
      have h : (kindD d k).bind (kindAll ds) = some k' := h
      cases q : kindD d k with
      | none => rw [q] at h; cases h
      | some z =>
        rw [q] at h
        obtain ⟨k1, h1, h2⟩ := ih h i
        refine ⟨k1, ?_, h2⟩
        show (kindD d k).bind (kindAll (ds.take i)) = _
        rw [q]
        exact h1
theorem take_succ {α : Type} {l : List α} {i : Nat} {x : α} (h : l[i]? = some x) : l.take (i + 1) = l.take i ++ [x] := by
  rw [List.take_add_one, h]
  rfl
theorem drop_at {α : Type} {l : List α} {i : Nat} {x : α} (h : l[i]? = some x) : l.drop i = x :: l.drop (i + 1) := by
  obtain ⟨hi, rfl⟩ := List.getElem?_eq_some_iff.mp h
  exact List.drop_eq_getElem_cons hi
theorem Has.int {d : PyData} (h : Has .num d) : ∃ n, d = .int n ∧ Num n := by
  cases h with
  | num h => exact ⟨_, rfl, h⟩
theorem Has.two {a b : Kd} {d : PyData} (h : Has (.pair a b) d) : ∃ x y, d = .tuple [x, y] ∧ Has a x ∧ Has b y := by
  cases h with
  | pair h1 h2 => exact ⟨_, _, rfl, h1, h2⟩
theorem Has.ints : ∀ {xs : List PyData}, (∀ x ∈ xs, Has .num x) → xs = (xs.map toI).map PyData.int
  | [], _ => rfl
  | x :: xs, h => by
    obtain ⟨n, rfl, _⟩ := (h x List.mem_cons_self).int
    rw [List.map_cons, List.map_cons, ← Has.ints fun y hy => h y (List.mem_cons_of_mem _ hy)]
    rfl
theorem doneD_has {d : Deed} {k k' : Kd} {x : PyData} (ok : d.Ok) (h : Has k x) (e : kindD d k = some k') : Has k' (doneD d x) := by
  have md : ∀ z : Int, Num (z % 1000003) := fun z => ⟨Int.emod_nonneg _ (by decide), Int.emod_lt_of_pos _ (by decide)⟩
  cases d with
  | both => cases e; exact .pair h h
  | add n =>
    cases k with
    | num => cases e; obtain ⟨i, rfl, _⟩ := h.int; exact .num (md _)
    | _ => cases e
  | times n =>
    cases k with
    | num => cases e; obtain ⟨i, rfl, _⟩ := h.int; exact .num (md _)
    | _ => cases e
  | minus =>
    cases k with
    | num => cases e; obtain ⟨i, rfl, _⟩ := h.int; exact .num (md _)
    | _ => cases e
  | first =>
    cases k with
    | pair a b => cases e; obtain ⟨x, y, rfl, h1, h2⟩ := h.two; exact h1
    | _ => cases e
  | second =>
    cases k with
    | pair a b => cases e; obtain ⟨x, y, rfl, h1, h2⟩ := h.two; exact h2
    | _ => cases e
  | sum =>
    cases k with
    | row a =>
      cases a with
      | num =>
        cases e
        cases h with
        | row h hl => exact .num (md _)
      | _ => cases e
    | _ => cases e
  | many =>
    cases k with
    | row a =>
      cases e
      cases h with
      | row h hl => exact .num ⟨Int.natCast_nonneg _, by show ((_ : Nat) : Int) < _; omega⟩
    | _ => cases e
/-- one turn of a loop over the deeds -/
theorem done_turn {ds : List Deed} {k k' : Kd} {x : PyData} {i : Nat} {d : Deed} (hx : Has k x) (hk : kindAll ds k = some k') (hd : ds[i]? = some d) (ok : ∀ e ∈ ds, e.Ok) :
    (∃ k1 k2, Has k1 (doneAll (ds.take i) x) ∧ kindD d k1 = some k2) ∧ doneAll (ds.take (i + 1)) x = doneD d (doneAll (ds.take i) x) := by
  have eq : ∀ (j : Nat) (e : Deed), ds[j]? = some e → doneAll (ds.take (j + 1)) x = doneD e (doneAll (ds.take j) x) := fun j e he => by
    rw [take_succ he]
    unfold doneAll
    rw [List.foldl_append]
    rfl
  have step : ∀ j, j ≤ ds.length → ∃ k1, kindAll (ds.take j) k = some k1 ∧ kindAll (ds.drop j) k1 = some k' ∧ Has k1 (doneAll (ds.take j) x) := by
    intro j
    induction j with
    | zero => intro _; exact ⟨k, rfl, hk, hx⟩
    | succ j ih =>
      intro hj
      obtain ⟨k1, a1, a2, a3⟩ := ih (by omega)
      have hj' : ds[j]? = some ds[j] := List.getElem?_eq_getElem (by omega)
      rw [drop_at hj'] at a2
      have a2 : (kindD ds[j] k1).bind (kindAll (ds.drop (j + 1))) = some k' := a2
      cases q : kindD ds[j] k1 with
      | none => rw [q] at a2; cases a2
      | some z =>
        rw [q] at a2
        refine ⟨z, ?_, a2, ?_⟩
        · rw [take_succ hj', kindAll_snoc a1, q]
        · rw [eq j _ hj']
          exact doneD_has (ok _ (List.mem_of_getElem? hj')) a3 q
  obtain ⟨hi, rfl⟩ := List.getElem?_eq_some_iff.mp hd
  obtain ⟨k1, a1, a2, a3⟩ := step i (by omega)
  rw [drop_at hd] at a2
  have a2 : (kindD ds[i] k1).bind (kindAll (ds.drop (i + 1))) = some k' := a2
  refine ⟨⟨k1, ?_⟩, eq i _ hd⟩
  cases q : kindD ds[i] k1 with
  | none => rw [q] at a2; cases a2
  | some z => exact ⟨z, a3, rfl⟩
def Kd.dp : Kd → Nat
  | .num => 0
  | .pair a b => max a.dp b.dp + 1
  | .row a => a.dp + 1
theorem Kd.can : ∀ k : Kd, k.d.canLay0 = true
  | .num => by decide +kernel
  | .pair a b => by
    have h1 := Kd.can a
    have h2 := Kd.can b
    simp only [Kd.d, PyData.canLay0, PyData.canLayAll0, h1, h2, Bool.and_true]
    decide +kernel
  | .row a => by
    have h1 := Kd.can a
    simp only [Kd.d, PyData.canLay0, PyData.canLayAll0, h1, Bool.and_true]
    decide +kernel
theorem Kd.depth : ∀ k : Kd, k.d.depth = k.dp
  | .num => rfl
  | .pair a b => by
    simp only [Kd.d, PyData.depth, PyData.depthAll, Kd.depth a, Kd.depth b, Kd.dp]
    omega
  | .row a => by
    simp only [Kd.d, PyData.depth, PyData.depthAll, Kd.depth a, Kd.dp]
    omega
theorem Kd.shaped {k : Kd} (h : k.dp ≤ 20) : SeqAt.shaped k.d = true := by
  unfold SeqAt.shaped
  rw [Kd.can, Kd.depth, Bool.true_and]
  exact decide_eq_true (by omega)
theorem Kd.eqv : ∀ a b : Kd, PyData.eqv a.d b.d = decide (a = b)
  | .num, .num => by decide +kernel
  | .num, .pair a b => by simp [Kd.d, PyData.eqv]
  | .num, .row a => by simp [Kd.d, PyData.eqv]
  | .pair a b, .num => by simp [Kd.d, PyData.eqv]
  | .row a, .num => by simp [Kd.d, PyData.eqv]
  | .pair a b, .row c => by
    have : (("pair" : Str) == ("row" : Str)) = false := by decide +kernel
    simp [Kd.d, PyData.eqv, PyData.eqvAll, this]
  | .row c, .pair a b => by
    have : (("row" : Str) == ("pair" : Str)) = false := by decide +kernel
    simp [Kd.d, PyData.eqv, PyData.eqvAll, this]
  | .pair a b, .pair c d => by
    simp [Kd.d, PyData.eqv, PyData.eqvAll, Kd.eqv a c, Kd.eqv b d]
  | .row a, .row c => by
    simp [Kd.d, PyData.eqv, PyData.eqvAll, Kd.eqv a c]
def holdsT : Tst → Int → Bool
  | .below n, i => decide (i < n)
  | .over n, i => decide (n < i)
  | .rest m r, i => decide (i % m = r)
def Wd := Fin 4
inductive Fw where
  | add | times | least | most
  deriving DecidableEq
def Fw.s : Fw → Str
  | .add => "add"
  | .times => "times"
  | .least => "least"
  | .most => "most"
def foldF : Fw → Int → Int → Int
  | .add, a, b => (a + b) % 1000003
  | .times, a, b => a * b % 1000003
  | .least, a, b => min a b
  | .most, a, b => max a b
/-! ### the tactic words: one answer at a time -/
open PySem PySem.Spec PyProof.Rows L2
/-! ### what _law_like compares -/
mutual
def lk : PyData → Bool
  | .none => true
  | .int _ => true
  | .str _ => true
  | .tuple xs => decide (xs.length ≤ 100000000) && lks xs
  | .list xs => decide (xs.length ≤ 100000000) && lks xs
  | .bool _ => false
  | .dict _ => false
def lks : List PyData → Bool
  | [] => true
  | x :: xs => lk x && lks xs
end
theorem lks_get : ∀ {ds : List PyData} {i : Nat} {d : PyData}, lks ds = true → ds[i]? = some d → lk d = true
  | [], _, _, _, e => by simp at e
  | x :: xs, 0, d, h, e => by
    have h : (lk x && lks xs) = true := h
    rw [Bool.and_eq_true] at h
    simp at e
    rw [← e]
    exact h.1
  | x :: xs, i + 1, d, h, e => by
    have h : (lk x && lks xs) = true := h
    rw [Bool.and_eq_true] at h
    exact lks_get (ds := xs) (i := i) h.2 (by simpa using e)
theorem depth_get : ∀ {ds : List PyData} {i : Nat} {d : PyData}, ds[i]? = some d → d.depth ≤ PyData.depthAll ds
  | [], _, _, e => by simp at e
  | x :: xs, 0, d, e => by
    simp at e
    rw [← e]
    show _ ≤ max _ _
    omega
  | x :: xs, i + 1, d, e => by
    have := depth_get (ds := xs) (i := i) (d := d) (by simpa using e)
    show _ ≤ max _ _
    omega
theorem lks_all : ∀ {xs : List PyData}, (∀ x ∈ xs, lk x = true) → lks xs = true
  | [], _ => rfl
  | x :: xs, h => by
    show (lk x && lks xs) = true
    rw [h x List.mem_cons_self, lks_all fun y hy => h y (List.mem_cons_of_mem _ hy)]
    rfl
theorem depth_all {n : Nat} : ∀ {xs : List PyData}, (∀ x ∈ xs, x.depth ≤ n) → PyData.depthAll xs ≤ n
  | [], _ => Nat.zero_le _
  | x :: xs, h => by
    have h1 := h x List.mem_cons_self
    have h2 := depth_all (xs := xs) fun y hy => h y (List.mem_cons_of_mem _ hy)
    show max _ _ ≤ _
    omega
theorem lk_tuple {xs : List PyData} (h : ∀ x ∈ xs, lk x = true) (hl : xs.length ≤ 100000000) : lk (.tuple xs) = true := by
  show (decide (xs.length ≤ 100000000) && lks xs) = true
  rw [decide_eq_true hl, lks_all h]
  rfl
theorem lk_list {xs : List PyData} (h : ∀ x ∈ xs, lk x = true) (hl : xs.length ≤ 100000000) : lk (.list xs) = true := by
  show (decide (xs.length ≤ 100000000) && lks xs) = true
  rw [decide_eq_true hl, lks_all h]
  rfl
theorem Has_lk {k : Kd} {x : PyData} (h : Has k x) : lk x = true := by
  induction h with
  | num h => rfl
  | pair h1 h2 a b => exact lk_tuple (fun x hx => by rcases List.mem_cons.mp hx with rfl | hx; exact a; rw [List.mem_singleton.mp hx]; exact b) (by simp)
  | row h hl ih => exact lk_tuple ih (by omega)
theorem Has_depth {k : Kd} {x : PyData} (h : Has k x) : x.depth ≤ k.dp := by
  induction h with
  | num h => exact Nat.zero_le _
  | pair h1 h2 a b =>
    show max _ (max _ 0) + 1 ≤ max _ _ + 1
    omega
  | row h hl ih =>
    have := depth_all ih
    show PyData.depthAll _ + 1 ≤ _ + 1
    omega
theorem doneAll_has {ds : List Deed} {k k' : Kd} {x : PyData} (hx : Has k x) (hk : kindAll ds k = some k') (ok : ∀ e ∈ ds, e.Ok) : Has k' (doneAll ds x) := by
  induction ds generalizing k x with
  | nil => cases hk; exact hx
  | cons d ds ih =>
    have hk : (kindD d k).bind (kindAll ds) = some k' := hk
    cases q : kindD d k with
    | none => rw [q] at hk; cases hk
    | some z =>
      rw [q] at hk
      exact ih (doneD_has (ok d List.mem_cons_self) hx q) hk fun e he => ok e (List.mem_cons_of_mem _ he)
def tyN : PyData → String
  | .none => "NoneType"
  | .bool _ => "bool"
  | .int _ => "int"
  | .str _ => "str"
  | .tuple _ => "tuple"
  | .list _ => "list"
  | .dict _ => "dict"
section
variable {K : PySem.W.Frag} {H H' : Hp}
theorem Dp_ty {v : V} {d : PyData} (h : Dp K H v d) : TyX K H v (.type (tyN d)) := by
  cases h with
  | non => exact .base .non
  | bl b => exact .base (.bl b)
  | int i => exact .base (.int i)
  | str x => exact .base (.str x)
  | lst hs _ =>
    rcases hs with (h | ⟨o, h⟩) | ⟨o, its, n, hk, hc, _⟩
    · exact .base (.lst h)
    · exact .base (.frz h)
    · exact .kList hk hc
  | tup hs _ =>
    rcases hs with (h | ⟨o, h⟩) | ⟨o, its, n, hk, hc, _⟩
    · exact .base (.tup h)
    · exact .fTuple h
    · exact .kTuple hk hc
theorem DpAll_len : ∀ {vs : List V} {ds : List PyData}, DpAll K H vs ds → vs.length = ds.length
  | _, _, .nil => rfl
  | _, _, .cons _ t => congrArg Nat.succ (DpAll_len t)
theorem DpAll_got : ∀ {vs : List V} {ds : List PyData} {i : Nat} {d : PyData}, DpAll K H vs ds → ds[i]? = some d → ∃ v, vs[i]? = some v ∧ Dp K H v d
  | _, _, i, _, .nil, e => by simp at e
  | _, _, 0, v, .cons r _, e => by simp at e; subst e; exact ⟨_, rfl, r⟩
  | _, _, i + 1, v, .cons _ t, e => by
    obtain ⟨d, h1, h2⟩ := DpAll_got (i := i) (d := v) t (by simpa using e)
    exact ⟨d, by simpa using h1, h2⟩
theorem Dp_i {v : V} {i : Int} (h : Dp K H v (.int i)) : v = .int i := by cases h; rfl
theorem Dp_s {v : V} {i : Str} (h : Dp K H v (.str i)) : v = .str i := by cases h; rfl
theorem Dp_n {v : V} (h : Dp K H v .none) : v = .non := by cases h; rfl
theorem Acc.dp {l : Addr} {ds : List PyData} (h : Acc K H l ds) : Dp K H (.ref l) (.list ds) := by
  obtain ⟨vs, e, i⟩ := h
  exact .lst (SqL.of e) (Ims.dp ds vs i)
theorem Im.p {v : V} {d : PyData} (h : Im K H v d) : Dp K H v d := Im.dp d v h
end
section
variable {X : Cx}
/-- isinstance of data -/
def rIsD (K : PySem.W.Frag) : List V → Hp → VK → Prop := fun xs H Q => ∃ (v : V) (n : String) (d : PyData) (b : Bool), xs = [v, .ty n] ∧ Dp K H v d ∧ kitB (tyN d) n = some b ∧ Q (.bl b) H
theorem call_isD : CallR X (.builtin "isinstance") (rIsD X.K) := CallR.imp call_isi fun xs H Q q => by
  obtain ⟨v, n, d, b, rfl, hd, hk, q⟩ := q
  exact ⟨v, .ty n, _, _, b, rfl, .ty n, Dp_ty hd, kit_ty hk, q⟩
/-- isinstance of a bool -/
def rIsB (K : PySem.W.Frag) : List V → Hp → VK → Prop := fun xs H Q => ∃ (c : Bool) (n : String) (b : Bool), xs = [.bl c, .ty n] ∧ kitB "bool" n = some b ∧ Q (.bl b) H
theorem call_isB : CallR X (.builtin "isinstance") (rIsB X.K) := CallR.imp call_isi fun xs H Q q => by
  obtain ⟨c, n, b, rfl, hk, q⟩ := q
  exact ⟨_, .ty n, _, _, b, rfl, .ty n, .base (.bl c), kit_ty hk, q⟩
/-- len of data, lists too -/
def rLenP (K : PySem.W.Frag) : List V → Hp → VK → Prop := fun xs H Q => ∃ v ds, xs = [v] ∧ (Dp K H v (.tuple ds) ∨ Dp K H v (.list ds)) ∧ Q (.int ds.length) H
theorem call_lenP : CallR X (.builtin "len") (rLenP X.K) := CallR.imp call_len_seq fun xs H Q q => by
  obtain ⟨v, ds, rfl, h, k⟩ := q
  rcases h with h | h
  · cases h with
    | tup ht hs => exact ⟨_, _, rfl, .inr ht, by rw [DpAll_len hs]; exact k⟩
  · cases h with
    | lst ht hs => exact ⟨_, _, rfl, .inl ht, by rw [DpAll_len hs]; exact k⟩
def rIxP (K : PySem.W.Frag) : R2 := fun x y H Q => ∃ (ds : List PyData) (i : Int) (j : Nat) (d : PyData), (Dp K H x (.tuple ds) ∨ Dp K H x (.list ds)) ∧ y = .int i ∧ i = (j : Int) ∧ ds[j]? = some d ∧ ∀ v, Dp K H v d → Q v H
theorem ix_P : IxR X (rIxP X.K) := IxR.imp ix_seq fun x y H Q q => by
  obtain ⟨ds, i, j, d, h, rfl, hi, hd, k⟩ := q
  rcases h with h | h
  · cases h with
    | tup ht hs =>
      obtain ⟨v, hv, iv⟩ := DpAll_got hs hd
      exact .inr (.inl ⟨_, _, i, v, rfl, rfl, ht, at_of hi hv, k v iv⟩)
  · cases h with
    | lst ht hs =>
      obtain ⟨v, hv, iv⟩ := DpAll_got hs hd
      exact .inl ⟨_, _, i, v, rfl, rfl, ht, at_of hi hv, k v iv⟩
end
open PySem PySem.Spec PyProof.Rows L2
section
def top (i : Nat) : Stmt := PySem.Challenge.pw_weavepull_k01_deeds_and_tests.main.body.getD i (.Pass ⟨0, 0, 0, 0⟩)
abbrev s__law_dice : Stmt := top 8
theorem sc__law_dice : FnScope ["_law_script", "_law_mixed", "_law_cell"] ["_law_script"] (defScope s__law_dice) := ⟨rfl, rfl, rfl, by decide +kernel, rfl, by decide +kernel, by decide +kernel⟩
abbrev s__law_next : Stmt := top 9
theorem sc__law_next : FnScope ["_law_dice_here", "_law_many", "_law_found", "_law_cell"] ["_law_dice_here", "_law_many"] (defScope s__law_next) := ⟨rfl, rfl, rfl, by decide +kernel, rfl, by decide +kernel, by decide +kernel⟩
abbrev s__law_number : Stmt := top 12
theorem sc__law_number : FnScope ["_law_d"] ["_law_d"] (defScope s__law_number) := ⟨rfl, rfl, rfl, by decide +kernel, rfl, by decide +kernel, by decide +kernel⟩
abbrev s__law_deeds : Stmt := top 14
theorem sc__law_deeds : FnScope ["_law_d", "_law_kind", "_law_deeds_here", "_law_k", "_law_some"] ["_law_d", "_law_kind"] (defScope s__law_deeds) := ⟨rfl, rfl, rfl, by decide +kernel, rfl, by decide +kernel, by decide +kernel⟩
abbrev s__law_tests : Stmt := top 13
theorem sc__law_tests : FnScope ["_law_d", "_law_tests_here", "_law_k", "_law_way", "_law_by"] ["_law_d"] (defScope s__law_tests) := ⟨rfl, rfl, rfl, by decide +kernel, rfl, by decide +kernel, by decide +kernel⟩
abbrev s_holds : Stmt := top 5
theorem sc_holds : FnScope ["test", "number"] ["test", "number"] (defScope s_holds) := ⟨rfl, rfl, rfl, by decide +kernel, rfl, by decide +kernel, by decide +kernel⟩
abbrev s_all_hold : Stmt := top 4
theorem sc_all_hold : FnScope ["tests", "number", "test"] ["tests", "number"] (defScope s_all_hold) := ⟨rfl, rfl, rfl, by decide +kernel, rfl, by decide +kernel, by decide +kernel⟩
abbrev s__law_like : Stmt := top 11
theorem sc__law_like : FnScope ["_law_found", "_law_due", "_law_k"] ["_law_found", "_law_due"] (defScope s__law_like) := ⟨rfl, rfl, rfl, by decide +kernel, rfl, by decide +kernel, by decide +kernel⟩
abbrev s_folded : Stmt := top 6
theorem sc_folded : FnScope ["word", "one", "other"] ["word", "one", "other"] (defScope s_folded) := ⟨rfl, rfl, rfl, by decide +kernel, rfl, by decide +kernel, by decide +kernel⟩
abbrev s__law_folded : Stmt := top 17
theorem sc__law_folded : FnScope ["_law_word", "_law_one", "_law_other"] ["_law_word", "_law_one", "_law_other"] (defScope s__law_folded) := ⟨rfl, rfl, rfl, by decide +kernel, rfl, by decide +kernel, by decide +kernel⟩
abbrev s_done : Stmt := top 3
theorem sc_done : FnScope ["deed", "item", "word"] ["deed", "item"] (defScope s_done) := ⟨rfl, rfl, rfl, by decide +kernel, rfl, by decide +kernel, by decide +kernel⟩
abbrev s_all_done : Stmt := top 2
theorem sc_all_done : FnScope ["deeds", "item", "deed"] ["deeds", "item"] (defScope s_all_done) := ⟨rfl, rfl, rfl, by decide +kernel, rfl, by decide +kernel, by decide +kernel⟩
abbrev s__law_all_done : Stmt := top 15
theorem sc__law_all_done : FnScope ["_law_deeds_here", "_law_item", "_law_deed"] ["_law_deeds_here", "_law_item"] (defScope s__law_all_done) := ⟨rfl, rfl, rfl, by decide +kernel, rfl, by decide +kernel, by decide +kernel⟩
abbrev s__law_met : Stmt := top 16
theorem sc__law_met : FnScope ["_law_tests_here", "_law_number_here", "_law_test"] ["_law_tests_here", "_law_number_here"] (defScope s__law_met) := ⟨rfl, rfl, rfl, by decide +kernel, rfl, by decide +kernel, by decide +kernel⟩
abbrev s_law : Stmt := top 18
theorem sc_law : FnScope ["_law_script", "_law_d", "_law_way", "_law_item", "_law_kind", "_law_deeds_here", "_law_tests_here", "_law_number_here", "_law_found", "_law_word", "_law_other", "_law_k"] ["_law_script"] (defScope s_law) := ⟨rfl, rfl, rfl, by decide +kernel, rfl, by decide +kernel, by decide +kernel⟩
structure Tx (K : PySem.W.Frag) (mg : Str → Option Value) where
  _law_dice : At K mg "_law_dice" s__law_dice ["_law_script"]
  _law_next : At K mg "_law_next" s__law_next ["_law_dice_here", "_law_many"]
  _law_number : At K mg "_law_number" s__law_number ["_law_d"]
  _law_deeds : At K mg "_law_deeds" s__law_deeds ["_law_d", "_law_kind"]
  _law_tests : At K mg "_law_tests" s__law_tests ["_law_d"]
  holds : At K mg "holds" s_holds ["test", "number"]
  all_hold : At K mg "all_hold" s_all_hold ["tests", "number"]
  _law_like : At K mg "_law_like" s__law_like ["_law_found", "_law_due"]
  folded : At K mg "folded" s_folded ["word", "one", "other"]
  _law_folded : At K mg "_law_folded" s__law_folded ["_law_word", "_law_one", "_law_other"]
  done : At K mg "done" s_done ["deed", "item"]
  all_done : At K mg "all_done" s_all_done ["deeds", "item"]
  _law_all_done : At K mg "_law_all_done" s__law_all_done ["_law_deeds_here", "_law_item"]
  _law_met : At K mg "_law_met" s__law_met ["_law_tests_here", "_law_number_here"]
  law : At K mg "law" s_law ["_law_script"]
  c_REST : IntAt mg "REST" 1000003
  z_all : mg "all" = none
  z_bool : mg "bool" = none
  z_int : mg "int" = none
  z_isinstance : mg "isinstance" = none
  z_len : mg "len" = none
  z_list : mg "list" = none
  z_max : mg "max" = none
  z_min : mg "min" = none
  z_range : mg "range" = none
  z_str : mg "str" = none
  z_sum : mg "sum" = none
  z_tuple : mg "tuple" = none
variable {P : Program} {w : World} {K : PySem.W.Frag} {mg : Str → Option Value} {base : Heap}
local macro_rules | `(tactic| walk_at "g1") => `(tactic| first
  | refine ⟨_, rfl, ?_⟩
  | refine ⟨_, _, rfl, rfl, ?_⟩
  | refine ⟨rfl, ?_⟩
  | refine And.intro (by omega) ?_
  | refine ⟨by (show (0 : Int) < _); omega, ?_⟩
  | refine And.intro (by assumption) ?_
  | refine ⟨Or.inl ⟨by omega, by omega⟩, ?_⟩
  | refine ⟨Or.inr ⟨by omega, by omega⟩, ?_⟩
  | refine ⟨⟨by omega, by omega⟩, ?_⟩
  | refine Or.inr ⟨_, rfl, ?_⟩
  | refine Or.inl ⟨_, rfl, ?_⟩
  | refine ⟨_, _, rfl, Or.inl (by assumption), ?_⟩
  | refine ⟨_, _, rfl, Or.inr (by assumption), ?_⟩
  | refine ⟨_, _, rfl, Or.inl (SqL.of (by assumption)), ?_⟩
  | refine ⟨_, _, _, _, rfl, rfl, SqL.of (by assumption), rfl, ?_⟩
  | refine ⟨_, _, _, _, rfl, rfl, SqT.of (by assumption), rfl, ?_⟩
  | refine ⟨_, _, _, _, rfl, rfl, sql_id (by assumption), rfl, ?_⟩
  | refine ⟨_, _, _, _, rfl, rfl, sqt_id (by assumption), rfl, ?_⟩
  | refine ⟨⟨by omega, by omega, by decide⟩, ?_⟩
  | refine ⟨Or.inl ⟨rfl, _, SqL.of (by assumption)⟩, ?_⟩
  | refine ⟨acc_ty (by assumption), ?_⟩
  | refine iteT ?_
  | refine iteF ?_
  | refine ⟨_, _, rfl, ?_⟩
  | refine ⟨_, _, _, rfl, ?_⟩)
local macro_rules | `(tactic| walk_at "go") => `(tactic| repeat walk_at "g1")
local macro_rules | `(tactic| walk_at "no") => `(tactic| first
  | refine ite_f (by decide +kernel) ?_
  | refine ite_f (decide_eq_false (by assumption)) ?_
  | refine ite_f (decide_eq_false (by intro z; injection z with z; omega)) ?_)
local macro_rules | `(tactic| walk_at "yes") => `(tactic| first
  | refine ite_t (by decide +kernel) ?_
  | refine ite_t (decide_eq_true (by assumption)) ?_
  | refine ite_t (decide_eq_true (by omega)) ?_)
local macro_rules | `(tactic| walk_at "w") => `(tactic| first | refine ite_f (by decide +kernel) ?_ | refine ite_t (by decide +kernel) ?_)
local macro_rules | `(tactic| walk_at "wd") => `(tactic| (refine ⟨_, 0, 0, _, (by assumption), rfl, rfl, rfl, ?_⟩; intro v iv; cases Im.s iv; walk_at "go"))
local macro_rules | `(tactic| walk_at "wds") => `(tactic| (walk_at "go"; repeat walk_at "wd"))
local macro_rules | `(tactic| walk_at "n1") => `(tactic| (refine ⟨_, 1, 1, _, (by assumption), rfl, rfl, rfl, ?_⟩; intro v iv; cases Im.i iv; walk_at "go"))
local macro_rules | `(tactic| walk_at "n2") => `(tactic| (refine ⟨_, 2, 2, _, (by assumption), rfl, rfl, rfl, ?_⟩; intro v iv; cases Im.i iv; walk_at "go"))
def spDice (K : PySem.W.Frag) : Sp := fun vs H Q _ => ∃ (a : Addr) (ns : List Int), vs = [.ref a] ∧ Fz K H a (ns.map V.int) ∧ ns.length ≤ 63 ∧
  ∀ D H', H D = none → Same H H' → IsDice K H' D → Q (.ref D) H'
theorem ok__law_dice (T : Tx K mg) : FnOk P w K mg base CX0 1 T._law_dice.f T._law_dice.fd ["_law_script"] (spDice K) := by
  refine T._law_dice.F.ok sc__law_dice (fun vs H Q E h => ?_) (fun cdv A outer s H vs Q E hr h => ?_)
  · obtain ⟨a, ns, rfl, _⟩ := h
    rfl
  obtain ⟨a, ns, rfl, hF, hl, q⟩ := h
  have hS := hF.seq
  refine ⟨_, (pss_cons (ps_set (i := 1) sc__law_dice.nd rfl (by first | exact Or.inl rfl | exact Or.inr rfl) pe_int)
      (pss_cons (ps_for PassesOwn.never rfl (pi_list (pv 0)) (pg_name (i := 2) sc__law_dice.nd rfl (by first | exact Or.inl rfl | exact Or.inr rfl)) (pss_one (ps_set (i := 1) sc__law_dice.nd rfl (by first | exact Or.inl rfl | exact Or.inr rfl) (pe_op op_mod (pe_op op_add (pe_op op_add (pe_op op_mul (pv 1) pe_int) (pe_op op_mul (pe_op op_mod (pv 2) pe_int) pe_int)) pe_int) pe_int))))
      (pss_one (ps_ret (pe_lr (pa_cons (pv 0) (pa_cons pe_int (pa_cons (pe_op op_mul (pv 1) (pe_callTy call_int1 (by rfl) T.z_int (by decide +kernel) (pa_cons (pe_cmpR op_gt (pe_callB call_len_seq (by rfl) T.z_len PySem.boot_len (pa_cons (pv 0) pa_nil)) pe_int (nomark _)) pa_nil))) (pa_cons pe_int pa_nil))))))))), ?_⟩
  refine ⟨_, rfl, a, rfl, ⟨_, hS⟩, for_list (K := K) (a := a) (xs := ns.map V.int) (fun i σ H2 => Hold (H2 = H ∧ ∃ (m : Int) (v : Option V), σ = [some (.ref a), some (.int m), v] ∧ 0 ≤ m ∧ m < 2147483647))
    (.mk ⟨rfl, 0, none, rfl, by decide, by decide⟩) (fun i σ H2 _ h => h.out.1 ▸ hS) ?_ ?_⟩
  · rintro i x σ H2 hi h
    obtain ⟨rfl, m, v, rfl, h0, h1⟩ := h.out
    obtain ⟨z, rfl⟩ : ∃ z, x = V.int z := by
      rw [List.getElem?_map] at hi
      obtain ⟨z, _, rfl⟩ := Option.map_eq_some_iff.mp hi
      exact ⟨z, rfl⟩
    walk_at "go"
    exact .mk ⟨rfl, _, _, rfl, Int.emod_nonneg _ (by decide), Int.emod_lt_of_pos _ (by decide)⟩
  · rintro σ H2 h
    obtain ⟨rfl, m, v, rfl, h0, h1⟩ := h.out
    walk_at "go"
    refine ⟨by simp, fun D H1 nD s1 t1 e1 => ?_⟩
    refine q D H1 nD s1 ⟨a, ns, _, _, _, e1, (same_tk s1).f _ _ hF, hl, Int.le_refl _, ?_, ?_, Int.le_refl _⟩
    all_goals (split <;> omega)

def spNext (K : PySem.W.Frag) : Sp := fun vs H Q _ => ∃ (D : Addr) (m : Int), vs = [.ref D, .int m] ∧ 1 ≤ m ∧ m ≤ 1000003 ∧ IsDice K H D ∧
  ∀ (r : Int) H', 0 ≤ r → r < m → IsDice K H' D → But D H H' → Q (.int r) H'
theorem ok__law_next (T : Tx K mg) : FnOk P w K mg base CX0 1 T._law_next.f T._law_next.fd ["_law_dice_here", "_law_many"] (spNext K) := by
  refine T._law_next.F.ok sc__law_next (fun vs H Q E h => ?_) (fun cdv A outer s H vs Q E hr h => ?_)
  · obtain ⟨a, ns, rfl, _⟩ := h
    rfl
  obtain ⟨D, m, rfl, h1, h2, hD, q⟩ := h
  obtain ⟨a, ns, p, mx, r, eD, hF, hl, hp, hm0, hm1, hr0⟩ := hD
  have hS := hF.seq
  have mo : ∀ z : Int, 0 ≤ z % m ∧ z % m < m := fun z => ⟨Int.emod_nonneg _ (by omega), Int.emod_lt_of_pos _ (by omega)⟩
  have dv : ∀ z : Int, 0 ≤ z → 0 ≤ z / m := fun z hz => Int.ediv_nonneg hz (by omega)
  refine ⟨_, (pss_cons (ps_if (pt_cmpR op_gt (pe_ix ix_list (pv 0) pe_int (fun _ _ => rfl)) pe_int (nomark _)) (pss_cons (ps_set (i := 2) sc__law_next.nd rfl (by first | exact Or.inl rfl | exact Or.inr rfl) (pe_op op_mod (pe_ix ix_list (pv 0) pe_int (fun _ _ => rfl)) (pv 1)))
      (pss_cons (ps_asg (pe_op op_fdiv (pe_ix ix_list (pv 0) pe_int (fun _ _ => rfl)) (pv 1)) (pg_sub (pv 0) pe_int set_listN))
      (pss_one (ps_ret (pv 2))))) pss_nil)
      (pss_cons (ps_asg (pe_op op_add (pe_ix ix_list (pv 0) pe_int (fun _ _ => rfl)) pe_int) (pg_sub (pv 0) pe_int set_listN))
      (pss_cons (ps_if (pt_cmpR op_le (pe_ix ix_list (pv 0) pe_int (fun _ _ => rfl)) (pe_callB call_len_seq (by rfl) T.z_len PySem.boot_len (pa_cons (pe_ix ix_list (pv 0) pe_int (fun _ _ => rfl)) pa_nil)) (nomark _)) (pss_cons (ps_set (i := 3) sc__law_next.nd rfl (by first | exact Or.inl rfl | exact Or.inr rfl) (pe_ix ix_list (pe_ix ix_list (pv 0) pe_int (fun _ _ => rfl)) (pe_op op_sub (pe_ix ix_list (pv 0) pe_int (fun _ _ => rfl)) pe_int) (fun _ _ => rfl)))
      (pss_cons (ps_asg (pe_ifExp (pt_cmpR op_ge (pv 3) (pe_op op_pow pe_int pe_int) (nomark _)) (pe_op op_fdiv (pv 3) (pv 1)) pe_int) (pg_sub (pv 0) pe_int set_listN))
      (pss_one (ps_ret (pe_op op_mod (pv 3) (pv 1)))))) pss_nil)
      (pss_cons (ps_asg (pe_op op_mod (pe_op op_mul (pe_ix ix_list (pv 0) pe_int (fun _ _ => rfl)) pe_int) pe_int) (pg_sub (pv 0) pe_int set_listN))
      (pss_one (ps_ret (pe_op op_mod (pe_op op_fdiv (pe_ix ix_list (pv 0) pe_int (fun _ _ => rfl)) pe_int) (pv 1)))))))), ?_⟩
  walk_at "go"
  refine ite_d (fun c => ?_) (fun c => ?_)
  · walk_at "go"
    refine ⟨_, _, _, _, _, rfl, rfl, eD, rfl, rfl, fun H1 b1 t_b1 e1 => ?_⟩
    have e1 : H1 D = some (.lst [.ref a, .int p, .int mx, .int (r / m)]) := e1
    walk_at "go"
    exact q _ H1 (mo r).1 (mo r).2 ⟨a, ns, p, mx, _, e1, (b1.tk eD).f _ _ hF, hl, hp, hm0, hm1, dv r hr0⟩ b1
  · walk_at "go"
    refine ⟨_, _, _, _, _, rfl, rfl, eD, rfl, rfl, fun H1 b1 t_b1 e1 => ?_⟩
    have e1 : H1 D = some (.lst [.ref a, .int (p + 1), .int mx, .int r]) := e1
    have hF1 := (b1.tk (K := K) eD).f _ _ hF
    have hS1 := hF1.seq
    walk_at "go"
    refine ite_d (fun c2 => ?_) (fun c2 => ?_)
    · rw [List.length_map] at c2
      have hj : p.toNat < ns.length := by omega
      have hat : atI (ns.map V.int) (p + 1 - 1) = some (.int ns[p.toNat]) := by
        refine at_of (j := p.toNat) (by omega) ?_
        rw [List.getElem?_map, List.getElem?_eq_getElem hj]
        rfl
      walk_at "go"
      refine ⟨_, _, _, _, rfl, rfl, hS1, hat, ?_⟩
      walk_at "go"
      refine ite_d (fun c3 => ?_) (fun c3 => ?_)
      · have c3 : (1000000000000000000 : Int) ≤ ns[p.toNat] := c3
        walk_at "go"
        refine ⟨_, _, _, _, _, rfl, rfl, e1, rfl, rfl, fun H2 b2 t_b2 e2 => ?_⟩
        have e2 : H2 D = some (.lst [.ref a, .int (p + 1), .int mx, .int (ns[p.toNat] / m)]) := e2
        walk_at "go"
        exact q _ H2 (mo _).1 (mo _).2 ⟨a, ns, _, mx, _, e2, (b2.tk e1).f _ _ hF1, hl, by omega, hm0, hm1, dv _ (by omega)⟩ (b1.trans b2)
      · walk_at "go"
        refine ⟨_, _, _, _, _, rfl, rfl, e1, rfl, rfl, fun H2 b2 t_b2 e2 => ?_⟩
        have e2 : H2 D = some (.lst [.ref a, .int (p + 1), .int mx, .int 0]) := e2
        walk_at "go"
        exact q _ H2 (mo _).1 (mo _).2 ⟨a, ns, _, mx, _, e2, (b2.tk e1).f _ _ hF1, hl, by omega, hm0, hm1, Int.le_refl _⟩ (b1.trans b2)
    · walk_at "go"
      refine ⟨_, _, _, _, _, rfl, rfl, e1, rfl, rfl, fun H2 b2 t_b2 e2 => ?_⟩
      have e2 : H2 D = some (.lst [.ref a, .int (p + 1), .int (mx * 48271 % 2147483647), .int r]) := e2
      walk_at "go"
      exact q _ H2 (mo _).1 (mo _).2 ⟨a, ns, _, _, _, e2, (b2.tk e1).f _ _ hF1, hl, by omega, Int.emod_nonneg _ (by decide), Int.emod_lt_of_pos _ (by decide), hr0⟩ (b1.trans b2)

def spNumber (K : PySem.W.Frag) : Sp := fun vs H Q _ => ∃ (D : Addr), vs = [.ref D] ∧ IsDice K H D ∧
  ∀ (r : Int) H', Num r → IsDice K H' D → But D H H' → Q (.int r) H'
theorem ok__law_number (T : Tx K mg) : FnOk P w K mg base CX0 2 T._law_number.f T._law_number.fd ["_law_d"] (spNumber K) := by
  refine T._law_number.F.ok sc__law_number (fun vs H Q E h => ?_) (fun cdv A outer s H vs Q E hr h => ?_)
  · obtain ⟨a, rfl, _⟩ := h
    rfl
  obtain ⟨D, rfl, hD, q⟩ := h
  refine ⟨_, (pss_cons (ps_if (pt_cmpR op_eq (pe_call (ok__law_next T) hr (by rfl) T._law_next.g T._law_next.F.kp T._law_next.b .nil pass0 (pa_cons (pv 0) (pa_cons pe_int pa_nil))) pe_int (nomark _)) (pss_one (ps_ret (pe_call (ok__law_next T) hr (by rfl) T._law_next.g T._law_next.F.kp T._law_next.b .nil pass0 (pa_cons (pv 0) (pa_cons pe_int pa_nil))))) pss_nil)
      (pss_one (ps_ret (pe_call (ok__law_next T) hr (by rfl) T._law_next.g T._law_next.F.kp T._law_next.b .nil pass0 (pa_cons (pv 0) (pa_cons pe_int pa_nil)))))), ?_⟩
  walk_at "go"
  intro r H1 a1 a2 d1 b1
  walk_at "go"
  refine ite_d (fun c => ?_) (fun c => ?_)
  · walk_at "go"
    intro r2 H2 a3 a4 d2 b2
    exact q _ _ ⟨a3, a4⟩ d2 (b1.trans b2)
  · walk_at "go"
    intro r2 H2 a3 a4 d2 b2
    exact q _ _ ⟨a3, by omega⟩ d2 (b1.trans b2)

def spDeeds (K : PySem.W.Frag) : Sp := fun vs H Q _ => ∃ (D : Addr) (vk : V), vs = [.ref D, vk] ∧ Hold (IsDice K H D ∧ ∃ k : Kd, Im K H vk k.d ∧ k.dp ≤ 20 ∧
  ∀ (v : V) H' (ds : List Deed) (k' : Kd), Im K H' v (.tuple (ds.map Deed.d)) → 1 ≤ ds.length → ds.length ≤ 64 → (∀ t ∈ ds, t.Ok) → kindAll ds k = some k' → k'.dp ≤ k.dp + 1 → (k ≠ .num → k'.dp ≤ k.dp) → IsDice K H' D → But D H H' → Q v H')
theorem ok__law_deeds (T : Tx K mg) : FnOk P w K mg base CX0 3 T._law_deeds.f T._law_deeds.fd ["_law_d", "_law_kind"] (spDeeds K) := by
  refine T._law_deeds.F.ok sc__law_deeds (fun vs H Q E h => ?_) (fun cdv A outer s H vs Q E hr h => ?_)
  · obtain ⟨a, vk, rfl, _⟩ := h
    rfl
  obtain ⟨D, vk, rfl, h⟩ := h
  obtain ⟨hD, k, ik, hk, q⟩ := h.out
  have q1 : ∀ (v : V) H' (ds : List Deed) (k' : Kd), Im K H' v (.tuple (ds.map Deed.d)) → 1 ≤ ds.length → ds.length ≤ 64 → (∀ t ∈ ds, t.Ok) → kindAll ds k = some k' → k'.dp ≤ k.dp → IsDice K H' D → But D H H' → Q v H' :=
    fun v H' ds k' a b c d e f g h => q v H' ds k' a b c d e (by omega) (fun _ => f) g h
  refine ⟨_, (pss_cons (ps_if (PW.pt (pw_and (pt_cmpR (op_eqD hr.units) (pv 1) (pe_td (pa_cons pe_str (pa_cons pe_str pa_nil))) (nomark _)) (pw_and1 (pt_cmpR op_eq (pe_call (ok__law_next T) (hr.mono (by decide)) (by rfl) T._law_next.g T._law_next.F.kp T._law_next.b .nil pass0 (pa_cons (pv 0) (pa_cons pe_int pa_nil))) pe_int (nomark _))))) (pss_one (ps_ret (pe_td (pa_cons (pe_td (pa_cons pe_str pa_nil)) pa_nil)))) pss_nil)
      (pss_cons (ps_if (pt_cmpR op_eq (pe_ix ix_kd (pv 1) pe_int (fun _ _ => rfl)) pe_str (nomark _)) (pss_one (ps_ret (pe_td (pa_cons (pe_td (pa_cons pe_str pa_nil)) (pa_cons (pe_td (pa_cons pe_str (pa_cons (pe_call (ok__law_number T) hr (by rfl) T._law_number.g T._law_number.F.kp T._law_number.b .nil pass0 (pa_cons (pv 0) pa_nil)) pa_nil))) pa_nil))))) pss_nil)
      (pss_cons (ps_if (pt_cmpR op_eq (pe_ix ix_kd (pv 1) pe_int (fun _ _ => rfl)) pe_str (nomark _)) (pss_one (ps_ret (pe_td (pa_cons (pe_ix ix_listA (pe_ld (pa_cons (pe_td (pa_cons pe_str pa_nil)) (pa_cons (pe_td (pa_cons pe_str pa_nil)) pa_nil))) (pe_call (ok__law_next T) (hr.mono (by decide)) (by rfl) T._law_next.g T._law_next.F.kp T._law_next.b .nil pass0 (pa_cons (pv 0) (pa_cons pe_int pa_nil))) (fun _ _ => rfl)) pa_nil)))) pss_nil)
      (pss_cons (ps_set (i := 2) sc__law_deeds.nd rfl (by first | exact Or.inl rfl | exact Or.inr rfl) (pe_ld pa_nil))
      (pss_cons (ps_for PassesOwn.never rfl (pi_range1 (by rfl) T.z_range (pa_cons (pe_ix ix_selA (pe_ld (pa_cons (pe_op op_add pe_int (pe_call (ok__law_next T) (hr.mono (by decide)) (by rfl) T._law_next.g T._law_next.F.kp T._law_next.b .nil pass0 (pa_cons (pv 0) (pa_cons pe_int pa_nil)))) (pa_cons (pe_op op_add pe_int (pe_call (ok__law_next T) (hr.mono (by decide)) (by rfl) T._law_next.g T._law_next.F.kp T._law_next.b .nil pass0 (pa_cons (pv 0) (pa_cons pe_int pa_nil)))) pa_nil))) (pe_callTy call_int1 (by rfl) T.z_int (by decide +kernel) (pa_cons (pe_cmpR op_eq (pe_call (ok__law_next T) (hr.mono (by decide)) (by rfl) T._law_next.g T._law_next.F.kp T._law_next.b .nil pass0 (pa_cons (pv 0) (pa_cons pe_int pa_nil))) pe_int (nomark _)) pa_nil)) (fun _ _ => rfl)) pa_nil)) (pg_name (i := 3) sc__law_deeds.nd rfl (by first | exact Or.inl rfl | exact Or.inr rfl)) (pss_cons (ps_set (i := 4) sc__law_deeds.nd rfl (by first | exact Or.inl rfl | exact Or.inr rfl) (pe_ld (pa_cons (pe_td (pa_cons pe_str (pa_cons (pe_call (ok__law_number T) hr (by rfl) T._law_number.g T._law_number.F.kp T._law_number.b .nil pass0 (pa_cons (pv 0) pa_nil)) pa_nil))) (pa_cons (pe_td (pa_cons pe_str (pa_cons (pe_call (ok__law_number T) hr (by rfl) T._law_number.g T._law_number.F.kp T._law_number.b .nil pass0 (pa_cons (pv 0) pa_nil)) pa_nil))) (pa_cons (pe_td (pa_cons pe_str pa_nil)) pa_nil)))))
      (pss_one (ps_expr (pe_bm PySem.F.plainAttrs_list PySem.F.slot_list_append PySem.F.type_list_append mt_appA (pv 2) (pa_cons (pe_ix ix_listA (pv 4) (pe_call (ok__law_next T) (hr.mono (by decide)) (by rfl) T._law_next.g T._law_next.F.kp T._law_next.b .nil pass0 (pa_cons (pv 0) (pa_cons pe_int pa_nil))) (fun _ _ => rfl)) pa_nil))))))
      (pss_cons (ps_if (pt_cmpR op_eq (pe_call (ok__law_next T) (hr.mono (by decide)) (by rfl) T._law_next.g T._law_next.F.kp T._law_next.b .nil pass0 (pa_cons (pv 0) (pa_cons pe_int pa_nil))) pe_int (nomark _)) (pss_one (ps_expr (pe_bm PySem.F.plainAttrs_list PySem.F.slot_list_append PySem.F.type_list_append mt_appA (pv 2) (pa_cons (pe_td (pa_cons pe_str pa_nil)) pa_nil)))) pss_nil)
      (pss_one (ps_ret (pe_callTy call_tupleA (by rfl) T.z_tuple (by decide +kernel) (pa_cons (pv 2) pa_nil)))))))))), ?_⟩
  walk_at "go"
  refine ⟨[.str "row", .str "number"], .cons (.str _) (.cons (.str _) .nil), by simp, fun p1 H1 s1 t1 i1 => ?_⟩
  have d1 := hD.same s1
  have ik1 := ik.u t1
  have B1 : But D H H1 := same_but s1
  refine ⟨k.d, (Kd.row .num).d, Im.dp _ _ ik1, Im.dp _ _ i1, Kd.shaped hk, by decide +kernel, ?_⟩
  rw [Kd.eqv]
  refine ⟨_, rfl, ?_⟩
  cases k with
  | num =>
    obtain rfl := Im.s ik
    walk_at "go"
    refine Or.inl ⟨_, 110, rfl, rfl, by decide, by decide +kernel, ?_⟩
    walk_at "go"
    refine Or.inl ⟨_, 110, rfl, rfl, by decide, by decide +kernel, ?_⟩
    walk_at "go"
    refine ⟨[], .nil, by simp, fun l H2 nl s2 t2 a2 => ?_⟩
    have d2 := d1.same s2
    have ne := d1.ne_new nl
    have nl0 := s1.free nl
    have B2 : But D H H2 := B1.trans (same_but s2)
    walk_at "go"
    intro r3 H3 g1 g2 d3 b3
    walk_at "go"
    intro r4 H4 g3 g4 d4 b4
    walk_at "go"
    refine ⟨[.int (1 + r3), .int (1 + r4)], .cons (.int _) (.cons (.int _) .nil), by simp, fun p5 H5 n5 s5 t5 e5 => ?_⟩
    have d5 := d4.same s5
    walk_at "go"
    intro r6 H6 g5 g6 d6 b6
    walk_at "go"
    have ne5 := d4.ne_new n5
    refine ⟨_, _, _, _, rfl, e5.but b6 (b6.dtk d5) ne5.symm, rfl, fun v6 i6 => ?_⟩
    have a6 : Acc K H6 l [] := (((a2.but b3 (b3.dtk d2) ne.symm).but b4 (b4.dtk d3) ne.symm).same s5).but b6 (b6.dtk d5) ne.symm
    have B6 : But D H H6 := B2.trans (b3.trans (b4.trans ((same_but s5).trans b6)))
    obtain ⟨n, rfl, n1, n2⟩ : ∃ n : Nat, v6 = V.int n ∧ 1 ≤ n ∧ n ≤ 63 := by
      split at i6
      · exact ⟨(1 + r4).toNat, by rw [i6.i, Int.toNat_of_nonneg (by omega)], by omega, by omega⟩
      · exact ⟨(1 + r3).toNat, by rw [i6.i, Int.toNat_of_nonneg (by omega)], by omega, by omega⟩
    refine ⟨_, rfl, by omega, by omega, for_range (lo := 0) (n := n) (fun i σ H2 => Hold (∃ (ds : List Deed) (o3 o4 : Option V), σ = [some (.ref D), some (.str "number"), some (.ref l), o3, o4] ∧
        Acc K H2 l (ds.map Deed.d) ∧ ds.length = i ∧ (∀ t ∈ ds, t.Ok) ∧ kindAll ds .num = some .num ∧ IsDice K H2 D ∧ But D H H2)) (.mk ⟨[], none, none, rfl, a6, rfl, (fun _ h => by cases h), rfl, d6, B6⟩) ?_ ?_⟩
    · rintro i σ H7 hi h
      obtain ⟨ds, o3, o4, rfl, a7, rfl, ok7, k7, d7, B7⟩ := h.out
      walk_at "go"
      intro z8 H8 hz8 d8 b8
      walk_at "go"
      refine ⟨[.str "add", .int z8], .cons (.str _) (.cons (.int _) .nil), by simp, fun p9 H9 s9 t9 i9 => ?_⟩
      have d9 := d8.same s9
      walk_at "go"
      intro z10 H10 hz10 d10 b10
      walk_at "go"
      refine ⟨[.str "times", .int z10], .cons (.str _) (.cons (.int _) .nil), by simp, fun p11 H11 s11 t11 i11 => ?_⟩
      have d11 := d10.same s11
      walk_at "go"
      refine ⟨[.str "minus"], .cons (.str _) .nil, by simp, fun p12 H12 s12 t12 i12 => ?_⟩
      have d12 := d11.same s12
      have j9 := ((i9.u (b10.dtk d9)).u t11).u t12
      have j11 := i11.u t12
      walk_at "go"
      refine ⟨[(Deed.add z8).d, (Deed.times z10).d, Deed.minus.d], .cons j9 (.cons j11 (.cons i12 .nil)), by simp, fun p13 H13 n13 s13 t13 a13 => ?_⟩
      have d13 := d12.same s13
      have ne13 := d12.ne_new n13
      have al13 : Acc K H13 l (ds.map Deed.d) := (((((a7.but b8 (b8.dtk d7) ne.symm).same s9).but b10 (b10.dtk d9) ne.symm).same s11).same s12).same s13
      walk_at "go"
      intro r14 H14 g7 g8 d14 b14
      have a14 := a13.but b14 (b14.dtk d13) ne13.symm
      walk_at "go"
      obtain ⟨e, he, oke, ke⟩ : ∃ e : Deed, [(Deed.add z8).d, (Deed.times z10).d, Deed.minus.d][r14.toNat]? = some e.d ∧ e.Ok ∧ kindD e .num = some .num := by
        have : r14 = 0 ∨ r14 = 1 ∨ r14 = 2 := by omega
        rcases this with rfl | rfl | rfl
        · exact ⟨.add z8, rfl, hz8, rfl⟩
        · exact ⟨.times z10, rfl, hz10, rfl⟩
        · exact ⟨.minus, rfl, trivial, rfl⟩
      refine ⟨_, _, _, r14.toNat, e.d, rfl, a14, rfl, by omega, he, fun v iv => ?_⟩
      walk_at "go"
      have al : Acc K H14 l (ds.map Deed.d) := al13.but b14 (b14.dtk d13) ne.symm
      have B14 : But D H H14 := B7.trans (b8.trans ((same_but s9).trans (b10.trans ((same_but s11).trans ((same_but s12).trans ((same_but s13).trans b14))))))
      refine ⟨_, _, _, _, rfl, rfl, al, iv, by simp; omega, fun H15 b15 t15 a15 => ?_⟩
      refine .mk ⟨ds ++ [e], _, _, rfl, by rw [List.map_append]; exact a15, by rw [List.length_append]; rfl, fun x hx => ?_, by rw [kindAll_snoc k7, ke], d14.keep t15 fun xs q => b15 _ _ ne q, ?_⟩
      · rcases List.mem_append.mp hx with hx | hx
        · exact ok7 x hx
        · rw [List.mem_singleton.mp hx]; exact oke
      · intro b u hb q
        exact b15 _ _ (ne_of_none q nl0) (B14 _ _ hb q)
    · rintro σ H7 h
      obtain ⟨ds, o3, o4, rfl, a7, e7, ok7, k7, d7, B7⟩ := h.out
      walk_at "go"
      intro r8 H8 g7 g8 d8 b8
      have a8 := a7.but b8 (b8.dtk d7) ne.symm
      walk_at "go"
      refine ite_d (fun c => ?_) (fun c => ?_)
      · walk_at "go"
        refine ⟨[.str "both"], .cons (.str _) .nil, by simp, fun p9 H9 s9 t9 i9 => ?_⟩
        have a9 := a8.same s9
        have d9 := d8.same s9
        walk_at "go"
        refine ⟨_, _, _, _, rfl, rfl, a9, i9, by simp; omega, fun H10 b10 t10 a10 => ?_⟩
        walk_at "go"
        refine ⟨_, _, rfl, a10, fun p11 H11 s11 t11 i11 => ?_⟩
        refine q _ H11 (ds ++ [.both]) (.pair .num .num) (by rw [List.map_append]; exact i11) (by rw [List.length_append]; simp) (by rw [List.length_append]; simp; omega) (fun x hx => ?_) (by rw [kindAll_snoc k7]; rfl) (by decide) (fun z => absurd rfl z)
          ((d9.keep t10 fun xs q => b10 _ _ ne q).same s11) ?_
        · rcases List.mem_append.mp hx with hx | hx
          · exact ok7 x hx
          · rw [List.mem_singleton.mp hx]; exact trivial
        · intro b u hb e
          exact s11 _ _ (b10 _ _ (ne_of_none e nl0) (s9 _ _ (b8 _ _ hb (B7 _ _ hb e))))
      · walk_at "go"
        refine ⟨_, _, rfl, a8, fun p11 H11 s11 t11 i11 => ?_⟩
        exact q1 _ H11 ds .num i11 (by omega) (by omega) ok7 k7 (by decide) (d8.same s11) (B7.trans (b8.trans (same_but s11)))
  | pair a b =>
    walk_at "go"
    refine Or.inr ⟨_, 0, 0, _, ik1, rfl, rfl, rfl, fun v iv => ?_⟩
    obtain rfl := iv.s
    walk_at "go"
    refine Or.inr ⟨_, 0, 0, _, ik1, rfl, rfl, rfl, fun v iv => ?_⟩
    obtain rfl := iv.s
    walk_at "go"
    refine ⟨[.str "first"], .cons (.str _) .nil, by simp, fun p2 H2 s2 t2 i2 => ?_⟩
    walk_at "go"
    refine ⟨[.str "second"], .cons (.str _) .nil, by simp, fun p3 H3 s3 t3 i3 => ?_⟩
    walk_at "go"
    refine ⟨[Deed.first.d, Deed.second.d], .cons (i2.u t3) (.cons i3 .nil), by simp, fun p4 H4 n4 s4 t4 a4 => ?_⟩
    have d3 := (d1.same s2).same s3
    have d4 := d3.same s4
    have ne4 := d3.ne_new n4
    walk_at "go"
    intro r5 H5 g1 g2 d5 b5
    have a5 := a4.but b5 (b5.dtk d4) ne4.symm
    walk_at "go"
    obtain ⟨e, c, he, oke, ke, hc⟩ : ∃ (e : Deed) (c : Kd), [Deed.first.d, Deed.second.d][r5.toNat]? = some e.d ∧ e.Ok ∧ kindD e (.pair a b) = some c ∧ c.dp ≤ (Kd.pair a b).dp := by
      have : r5 = 0 ∨ r5 = 1 := by omega
      rcases this with rfl | rfl
      · exact ⟨.first, a, rfl, trivial, rfl, by simp only [Kd.dp]; omega⟩
      · exact ⟨.second, b, rfl, trivial, rfl, by simp only [Kd.dp]; omega⟩
    refine ⟨_, _, _, r5.toNat, e.d, rfl, a5, rfl, by omega, he, fun v iv => ?_⟩
    walk_at "go"
    refine ⟨[e.d], .cons iv .nil, by simp, fun p6 H6 s6 t6 i6 => ?_⟩
    exact q1 _ H6 [e] c i6 (by simp) (by simp) (fun x hx => by rw [List.mem_singleton.mp hx]; exact oke) (by show (kindD e _).bind _ = _; rw [ke]; rfl) hc (d5.same s6)
      (B1.trans ((same_but s2).trans ((same_but s3).trans ((same_but s4).trans (b5.trans (same_but s6))))))
  | row a =>
    have back : ∀ H2, IsDice K H2 D → But D H H2 → Im K H2 vk (Kd.row a).d → True := fun _ _ _ _ => trivial
    by_cases c : Kd.row a = Kd.row Kd.num
    · refine ite_t (decide_eq_true c) ?_
      walk_at "go"
      intro r2 H2 g1 g2 d2 b2
      walk_at "go"
      have ik2 := ik1.u (b2.dtk d1)
      refine ite_d (fun c2 => ?_) (fun c2 => ?_)
      · walk_at "go"
        refine ⟨[.str "sum"], .cons (.str _) .nil, by simp, fun p3 H3 s3 t3 i3 => ?_⟩
        walk_at "go"
        refine ⟨[Deed.sum.d], .cons i3 .nil, by simp, fun p4 H4 s4 t4 i4 => ?_⟩
        cases c
        exact q1 _ H4 [.sum] .num i4 (by simp) (by simp) (fun x hx => by rw [List.mem_singleton.mp hx]; exact trivial) rfl (by decide) ((d2.same s3).same s4)
          (B1.trans (b2.trans ((same_but s3).trans (same_but s4))))
      · walk_at "go"
        refine Or.inr ⟨_, 0, 0, _, ik2, rfl, rfl, rfl, fun v iv => ?_⟩
        obtain rfl := iv.s
        walk_at "go"
        refine ⟨[.str "many"], .cons (.str _) .nil, by simp, fun p3 H3 s3 t3 i3 => ?_⟩
        have d3 := d2.same s3
        walk_at "go"
        intro z4 H4 hz4 d4 b4
        walk_at "go"
        refine ⟨[.str "add", .int z4], .cons (.str _) (.cons (.int _) .nil), by simp, fun p5 H5 s5 t5 i5 => ?_⟩
        walk_at "go"
        refine ⟨[Deed.many.d, (Deed.add z4).d], .cons ((i3.u (b4.dtk d3)).u t5) (.cons i5 .nil), by simp, fun p6 H6 s6 t6 i6 => ?_⟩
        refine q1 _ H6 [.many, .add z4] .num i6 (by simp) (by simp) (fun x hx => ?_) rfl (by simp only [Kd.dp]; omega) ((d4.same s5).same s6)
          (B1.trans (b2.trans ((same_but s3).trans (b4.trans ((same_but s5).trans (same_but s6))))))
        rcases List.mem_cons.mp hx with rfl | hx
        · exact trivial
        · rw [List.mem_singleton.mp hx]; exact hz4
    · refine ite_f (decide_eq_false c) ?_
      walk_at "go"
      refine Or.inr ⟨_, 0, 0, _, ik1, rfl, rfl, rfl, fun v iv => ?_⟩
      obtain rfl := iv.s
      walk_at "go"
      refine ⟨[.str "many"], .cons (.str _) .nil, by simp, fun p3 H3 s3 t3 i3 => ?_⟩
      have d3 := d1.same s3
      walk_at "go"
      intro z4 H4 hz4 d4 b4
      walk_at "go"
      refine ⟨[.str "add", .int z4], .cons (.str _) (.cons (.int _) .nil), by simp, fun p5 H5 s5 t5 i5 => ?_⟩
      walk_at "go"
      refine ⟨[Deed.many.d, (Deed.add z4).d], .cons ((i3.u (b4.dtk d3)).u t5) (.cons i5 .nil), by simp, fun p6 H6 s6 t6 i6 => ?_⟩
      refine q1 _ H6 [.many, .add z4] .num i6 (by simp) (by simp) (fun x hx => ?_) rfl (by simp only [Kd.dp]; omega) ((d4.same s5).same s6)
        (B1.trans ((same_but s3).trans (b4.trans ((same_but s5).trans (same_but s6)))))
      rcases List.mem_cons.mp hx with rfl | hx
      · exact trivial
      · rw [List.mem_singleton.mp hx]; exact hz4

def spTests (K : PySem.W.Frag) : Sp := fun vs H Q _ => ∃ (D : Addr), vs = [.ref D] ∧ IsDice K H D ∧
  ∀ (v : V) H' (ts : List Tst), Im K H' v (.tuple (ts.map Tst.d)) → 1 ≤ ts.length → ts.length ≤ 64 → (∀ t ∈ ts, t.Ok) → IsDice K H' D → But D H H' → Q v H'
theorem ok__law_tests (T : Tx K mg) : FnOk P w K mg base CX0 3 T._law_tests.f T._law_tests.fd ["_law_d"] (spTests K) := by
  refine T._law_tests.F.ok sc__law_tests (fun vs H Q E h => ?_) (fun cdv A outer s H vs Q E hr h => ?_)
  · obtain ⟨a, rfl, _⟩ := h
    rfl
  obtain ⟨D, rfl, hD, q⟩ := h
  refine ⟨_, (pss_cons (ps_set (i := 1) sc__law_tests.nd rfl (by first | exact Or.inl rfl | exact Or.inr rfl) (pe_ld pa_nil))
      (pss_cons (ps_for PassesOwn.never rfl (pi_range1 (by rfl) T.z_range (pa_cons (pe_ix ix_selA (pe_ld (pa_cons (pe_op op_add pe_int (pe_call (ok__law_next T) (hr.mono (by decide)) (by rfl) T._law_next.g T._law_next.F.kp T._law_next.b .nil pass0 (pa_cons (pv 0) (pa_cons pe_int pa_nil)))) (pa_cons (pe_op op_add pe_int (pe_call (ok__law_next T) (hr.mono (by decide)) (by rfl) T._law_next.g T._law_next.F.kp T._law_next.b .nil pass0 (pa_cons (pv 0) (pa_cons pe_int pa_nil)))) pa_nil))) (pe_callTy call_int1 (by rfl) T.z_int (by decide +kernel) (pa_cons (pe_cmpR op_eq (pe_call (ok__law_next T) (hr.mono (by decide)) (by rfl) T._law_next.g T._law_next.F.kp T._law_next.b .nil pass0 (pa_cons (pv 0) (pa_cons pe_int pa_nil))) pe_int (nomark _)) pa_nil)) (fun _ _ => rfl)) pa_nil)) (pg_name (i := 2) sc__law_tests.nd rfl (by first | exact Or.inl rfl | exact Or.inr rfl)) (pss_cons (ps_set (i := 3) sc__law_tests.nd rfl (by first | exact Or.inl rfl | exact Or.inr rfl) (pe_call (ok__law_next T) (hr.mono (by decide)) (by rfl) T._law_next.g T._law_next.F.kp T._law_next.b .nil pass0 (pa_cons (pv 0) (pa_cons pe_int pa_nil))))
      (pss_cons (ps_if (pt_cmpR op_eq (pv 3) pe_int (nomark _)) (pss_one (ps_expr (pe_bm PySem.F.plainAttrs_list PySem.F.slot_list_append PySem.F.type_list_append mt_appA (pv 1) (pa_cons (pe_td (pa_cons pe_str (pa_cons (pe_call (ok__law_number T) hr (by rfl) T._law_number.g T._law_number.F.kp T._law_number.b .nil pass0 (pa_cons (pv 0) pa_nil)) pa_nil))) pa_nil)))) pss_nil)
      (pss_cons (ps_if (pt_cmpR op_eq (pv 3) pe_int (nomark _)) (pss_one (ps_expr (pe_bm PySem.F.plainAttrs_list PySem.F.slot_list_append PySem.F.type_list_append mt_appA (pv 1) (pa_cons (pe_td (pa_cons pe_str (pa_cons (pe_call (ok__law_number T) hr (by rfl) T._law_number.g T._law_number.F.kp T._law_number.b .nil pass0 (pa_cons (pv 0) pa_nil)) pa_nil))) pa_nil)))) pss_nil)
      (pss_one (ps_if (pt_cmpR op_eq (pv 3) pe_int (nomark _)) (pss_cons (ps_set (i := 4) sc__law_tests.nd rfl (by first | exact Or.inl rfl | exact Or.inr rfl) (pe_callB (call_max2N rfl) (by rfl) T.z_max (by decide +kernel) (pa_cons pe_int (pa_cons (pe_call (ok__law_number T) hr (by rfl) T._law_number.g T._law_number.F.kp T._law_number.b .nil pass0 (pa_cons (pv 0) pa_nil)) pa_nil))))
      (pss_one (ps_expr (pe_bm PySem.F.plainAttrs_list PySem.F.slot_list_append PySem.F.type_list_append mt_appA (pv 1) (pa_cons (pe_td (pa_cons pe_str (pa_cons (pv 4) (pa_cons (pe_call (ok__law_next T) (hr.mono (by decide)) (by rfl) T._law_next.g T._law_next.F.kp T._law_next.b .nil pass0 (pa_cons (pv 0) (pa_cons (pv 4) pa_nil))) pa_nil)))) pa_nil))))) pss_nil))))))
      (pss_one (ps_ret (pe_callTy call_tupleA (by rfl) T.z_tuple (by decide +kernel) (pa_cons (pv 1) pa_nil)))))), ?_⟩
  walk_at "go"
  refine ⟨[], .nil, by simp, fun l H1 nl s1 t1 a1 => ?_⟩
  have d1 := hD.same s1
  have ne := hD.ne_new nl
  have b1 : But D H H1 := same_but s1
  walk_at "go"
  intro r2 H2 g1 g2 d2 b2
  walk_at "go"
  intro r3 H3 g3 g4 d3 b3
  walk_at "go"
  refine ⟨[.int (1 + r2), .int (1 + r3)], .cons (.int _) (.cons (.int _) .nil), by simp, fun p4 H4 n4 s4 t4 e4 => ?_⟩
  have d4 := d3.same s4
  walk_at "go"
  intro r5 H5 g5 g6 d5 b5
  walk_at "go"
  have ne4 := d3.ne_new n4
  refine ⟨_, _, _, _, rfl, e4.but b5 (b5.dtk d4) ne4.symm, rfl, fun v5 i5 => ?_⟩
  have a5 : Acc K H5 l [] := (((a1.but b2 (b2.dtk d1) ne.symm).but b3 (b3.dtk d2) ne.symm).same s4).but b5 (b5.dtk d4) ne.symm
  have B5 : But D H H5 := b1.trans (b2.trans (b3.trans ((same_but s4).trans b5)))
  have nl' := nl
  obtain ⟨n, rfl, n1, n2⟩ : ∃ n : Nat, v5 = V.int n ∧ 1 ≤ n ∧ n ≤ 64 := by
    split at i5
    · exact ⟨(1 + r3).toNat, by rw [i5.i, Int.toNat_of_nonneg (by omega)], by omega, by omega⟩
    · exact ⟨(1 + r2).toNat, by rw [i5.i, Int.toNat_of_nonneg (by omega)], by omega, by omega⟩
  refine ⟨_, rfl, by omega, by omega, for_range (lo := 0) (n := n) (fun i σ H2 => Hold (∃ (ts : List Tst) (o2 o3 o4 : Option V), σ = [some (.ref D), some (.ref l), o2, o3, o4] ∧
      Acc K H2 l (ts.map Tst.d) ∧ ts.length = i ∧ (∀ t ∈ ts, t.Ok) ∧ IsDice K H2 D ∧ But D H H2)) (.mk ⟨[], none, none, none, rfl, a5, rfl, (fun _ h => by cases h), d5, B5⟩) ?_ ?_⟩
  · rintro i σ H6 hi h
    obtain ⟨ts, o2, o3, o4, rfl, a6, rfl, ok6, d6, B6⟩ := h.out
    walk_at "go"
    intro r7 H7 g7 g8 d7 b7
    have a7 := a6.but b7 (b7.dtk d6) ne.symm
    have B7 := B6.trans b7
    have fin : ∀ (t : Tst) H9 H8, t.Ok → But D H7 H8 → IsDice K H8 D → But l H8 H9 → Acc K H8 l (ts.map Tst.d) → Acc K H9 l (ts.map Tst.d ++ [t.d]) → TK K H8 H9 → ∀ o2 o3 o4,
        Hold (∃ (ts' : List Tst) (o2' o3' o4' : Option V), [some (V.ref D), some (.ref l), o2, o3, o4] = [some (.ref D), some (.ref l), o2', o3', o4'] ∧
      Acc K H9 l (ts'.map Tst.d) ∧ ts'.length = ts.length + 1 ∧ (∀ t ∈ ts', t.Ok) ∧ IsDice K H9 D ∧ But D H H9) := fun t H9 H8 ok b8 d8 b9 a8 a9 t9 o2 o3 o4 => by
      refine .mk ⟨ts ++ [t], o2, o3, o4, rfl, by rw [List.map_append]; exact a9, by rw [List.length_append]; rfl, fun x hx => ?_, d8.keep t9 fun xs e => b9 _ _ ne e, ?_⟩
      · rcases List.mem_append.mp hx with hx | hx
        · exact ok6 x hx
        · rw [List.mem_singleton.mp hx]; exact ok
      · intro b u hb e
        exact b9 _ _ (ne_of_none e nl) ((B7.trans b8) _ _ hb e)
    walk_at "go"
    refine ite_d (fun c => ?_) (fun c => ?_)
    · obtain rfl : r7 = 0 := by injection c
      walk_at "go"
      intro z H8 hz d8 b8
      have a8 := a7.but b8 (b8.dtk d7) ne.symm
      walk_at "go"
      refine ⟨[.str "over", .int z], (.cons (.str _) (.cons (.int _) .nil)), by simp, fun p H9 s9 t9 i9 => ?_⟩
      have a9 := a8.same s9
      refine ⟨_, _, _, _, rfl, rfl, a9, i9, by simp; omega, fun H10 b10 t10 a10 => ?_⟩
      walk_at "go"
      exact fin (.over z) H10 H9 hz (b8.trans (same_but s9)) (d8.same s9) b10 a9 a10 t10 _ _ _
    · walk_at "go"
      refine ite_d (fun c1 => ?_) (fun c1 => ?_)
      · obtain rfl : r7 = 1 := by injection c1
        walk_at "go"
        intro z H8 hz d8 b8
        have a8 := a7.but b8 (b8.dtk d7) ne.symm
        walk_at "go"
        refine ⟨[.str "below", .int z], (.cons (.str _) (.cons (.int _) .nil)), by simp, fun p H9 s9 t9 i9 => ?_⟩
        have a9 := a8.same s9
        refine ⟨_, _, _, _, rfl, rfl, a9, i9, by simp; omega, fun H10 b10 t10 a10 => ?_⟩
        walk_at "go"
        exact fin (.below z) H10 H9 hz (b8.trans (same_but s9)) (d8.same s9) b10 a9 a10 t10 _ _ _
      · have e2 : r7 = 2 := by
          have h0 : r7 ≠ 0 := fun z => c (by rw [z])
          have h1 : r7 ≠ 1 := fun z => c1 (by rw [z])
          omega
        subst e2
        walk_at "go"
        intro z H8 hz d8 b8
        have a8 := a7.but b8 (b8.dtk d7) ne.symm
        obtain ⟨hz1, hz2⟩ := hz
        walk_at "go"
        intro r H9 g9 g10 d9 b9
        have a9 := a8.but b9 (b9.dtk d8) ne.symm
        walk_at "go"
        refine ⟨[.str "rest", .int (max 1 z), .int r], (.cons (.str _) (.cons (.int _) (.cons (.int _) .nil))), by simp, fun p H10 s10 t10 i10 => ?_⟩
        have a10 := a9.same s10
        refine ⟨_, _, _, _, rfl, rfl, a10, i10, by simp; omega, fun H11 b11 t11 a11 => ?_⟩
        walk_at "go"
        exact fin (.rest (max 1 z) r) H11 H10 ⟨⟨by omega, by omega⟩, g9, g10⟩ (b8.trans (b9.trans (same_but s10))) (d9.same s10) b11 a10 a11 t11 _ _ _
  · rintro σ H6 h
    obtain ⟨ts, o2, o3, o4, rfl, a6, e6, ok6, d6, B6⟩ := h.out
    walk_at "go"
    refine ⟨_, _, rfl, a6, fun p H7 s7 t7 i7 => ?_⟩
    exact q _ H7 ts i7 (by omega) (by omega) ok6 (d6.same s7) (B6.trans (same_but s7))

def spHolds (K : PySem.W.Frag) : Sp := fun vs H Q _ => ∃ (vt vn : V), vs = [vt, vn] ∧ Hold (∃ (t : Tst) (n : Int), Im K H vt t.d ∧ vn = .int n ∧ t.Ok ∧ Q (.bl (holdsT t n)) H)
theorem ok_holds (T : Tx K mg) : FnOk P w K mg base CX0 1 T.holds.f T.holds.fd ["test", "number"] (spHolds K) := by
  refine T.holds.F.ok sc_holds (fun vs H Q E h => ?_) (fun cdv A outer s H vs Q E hr h => ?_)
  · obtain ⟨a, vk, rfl, _⟩ := h
    rfl
  obtain ⟨vt, vn, rfl, h⟩ := h
  obtain ⟨t, n, it, rfl, ok, q⟩ := h.out
  refine ⟨_, (pss_cons (ps_if (pt_cmpR op_eq (pe_ix ix_tupD (pv 0) pe_int (fun _ _ => rfl)) pe_str (nomark _)) (pss_one (ps_ret (pe_cmpR op_lt (pv 1) (pe_ix ix_tupD (pv 0) pe_int (fun _ _ => rfl)) (nomark _)))) pss_nil)
      (pss_cons (ps_if (pt_cmpR op_eq (pe_ix ix_tupD (pv 0) pe_int (fun _ _ => rfl)) pe_str (nomark _)) (pss_one (ps_ret (pe_cmpR op_gt (pv 1) (pe_ix ix_tupD (pv 0) pe_int (fun _ _ => rfl)) (nomark _)))) pss_nil)
      (pss_one (ps_ret (pe_cmpR op_eq (pe_op op_mod (pv 1) (pe_ix ix_tupD (pv 0) pe_int (fun _ _ => rfl))) (pe_ix ix_tupD (pv 0) pe_int (fun _ _ => rfl)) (nomark _)))))), ?_⟩
  walk_at "go"
  cases t with
  | below m =>
    refine ⟨_, 0, 0, _, it, rfl, rfl, rfl, fun v iv => ?_⟩
    obtain rfl := iv.s
    walk_at "go"
    refine ⟨_, 1, 1, _, it, rfl, rfl, rfl, fun v iv => ?_⟩
    obtain rfl := iv.i
    walk_at "go"
    exact q
  | over m =>
    refine ⟨_, 0, 0, _, it, rfl, rfl, rfl, fun v iv => ?_⟩
    obtain rfl := iv.s
    walk_at "go"
    refine ⟨_, 0, 0, _, it, rfl, rfl, rfl, fun v iv => ?_⟩
    obtain rfl := iv.s
    walk_at "go"
    refine ⟨_, 1, 1, _, it, rfl, rfl, rfl, fun v iv => ?_⟩
    obtain rfl := iv.i
    walk_at "go"
    exact q
  | rest m r =>
    obtain ⟨_, h0, h1⟩ := ok
    refine ⟨_, 0, 0, _, it, rfl, rfl, rfl, fun v iv => ?_⟩
    obtain rfl := iv.s
    walk_at "go"
    refine ⟨_, 0, 0, _, it, rfl, rfl, rfl, fun v iv => ?_⟩
    obtain rfl := iv.s
    walk_at "go"
    refine ⟨_, 1, 1, _, it, rfl, rfl, rfl, fun v iv => ?_⟩
    obtain rfl := iv.i
    walk_at "go"
    refine ⟨_, 2, 2, _, it, rfl, rfl, rfl, fun v iv => ?_⟩
    obtain rfl := iv.i
    walk_at "go"
    rw [dec_vint]
    exact q

def spAllHold (K : PySem.W.Frag) : Sp := fun vs H Q _ => ∃ (vt vn : V), vs = [vt, vn] ∧ Hold (∃ (ts : List Tst) (n : Int), Im K H vt (.tuple (ts.map Tst.d)) ∧ ts.length ≤ 1000 ∧ vn = .int n ∧ (∀ t ∈ ts, t.Ok) ∧
  ∀ H', Same H H' → Q (.bl (ts.all fun t => holdsT t n)) H')
theorem ok_all_hold (T : Tx K mg) : FnOk P w K mg base CX0 2 T.all_hold.f T.all_hold.fd ["tests", "number"] (spAllHold K) := by
  refine T.all_hold.F.ok sc_all_hold (fun vs H Q E h => ?_) (fun cdv A outer s H vs Q E hr h => ?_)
  · obtain ⟨a, vk, rfl, _⟩ := h
    rfl
  obtain ⟨vt, vn, rfl, h⟩ := h
  obtain ⟨ts, n, it, hl, rfl, ok, q⟩ := h.out
  obtain ⟨a, xs, rfl, ht, hx⟩ := it.t
  refine ⟨_, (pss_one (ps_ret (pe_callB (cr_all rfl) (by rfl) T.z_all (by decide +kernel) (pa_cons (pe_lc (own := [("test", 2)]) (g := gName 2) (tt := tYes) rfl sc_all_hold.nd (pi_tup (pv 0)) (blkOk_by (own := [("test", 2)]) (N := ["tests", "number", "test"]) (sc := defScope s_all_hold) (by decide +kernel)) (fun _ _ _ _ _ => pg_name (i := 2) sc_all_hold.nd rfl (Or.inl rfl)) (fun _ _ _ _ _ => pts_nil) (fun _ _ _ _ _ => (pe_call (ok_holds T) hr (by rfl) T.holds.g T.holds.F.kp T.holds.b .nil pass0 (pa_cons (pv 2) (pa_cons (pv 1) pa_nil))))) pa_nil)))), ?_⟩
  refine ⟨_, rfl, a, rfl, ⟨_, ht⟩, fun D nD => lc_tup (K := K) (a := a) (xs := xs) (fun i H2 => Hold (Same H H2 ∧ H2 D = some (.lst (((ts.take i).map fun t => holdsT t n).map V.bl))))
    (.mk ⟨same_new nD, upd_same⟩) (fun i H2 _ h => (same_tk h.out.1).t _ _ ht) ?_ ?_⟩
  · intro i x H2 hi h
    obtain ⟨s2, e2⟩ := h.out
    obtain ⟨d, hd, ix⟩ := hx.get hi
    rw [List.getElem?_map] at hd
    obtain ⟨t, ht', rfl⟩ := Option.map_eq_some_iff.mp hd
    walk_at "go"
    refine .mk ⟨t, n, ix.u (same_tk s2), rfl, ok _ (List.mem_of_getElem? ht'), ?_⟩
    refine ⟨_, e2, ?_, .mk ⟨same_put s2 nD, ?_⟩⟩
    · rw [List.length_map, List.length_map, List.length_take]
      exact small1000 (by omega)
    · rw [upd_same, take_succ ht', List.map_append, List.map_append]
      rfl
  · intro H2 h
    obtain ⟨s2, e2⟩ := h.out
    refine ⟨_, _, rfl, SqL.of e2, ?_⟩
    have e : ts.take xs.length = ts := by
      have := hx.len
      rw [List.length_map] at this
      rw [this, List.take_length]
    rw [e, List.all_map]
    exact q H2 s2

def spLike (K : PySem.W.Frag) (n : Nat) : Sp := fun vs H Q _ => ∃ (v w : V), vs = [v, w] ∧ Hold (∃ d, Dp K H v d ∧ Dp K H w d ∧ lk d = true ∧ d.depth < n ∧ Q (.bl true) H)
theorem like_step (T : Tx K mg) {n : Nat} (ih : FnOk P w K mg base CX0 n T._law_like.f T._law_like.fd ["_law_found", "_law_due"] (spLike K n)) : FnOk P w K mg base CX0 (n + 1) T._law_like.f T._law_like.fd ["_law_found", "_law_due"] (spLike K (n + 1)) := by
  refine T._law_like.F.ok sc__law_like (fun vs H Q E h => ?_) (fun cdv A outer s H vs Q E hr h => ?_)
  · obtain ⟨a, vk, rfl, _⟩ := h
    rfl
  obtain ⟨v, u, rfl, h⟩ := h
  obtain ⟨d, hv, hu, hl, hd, q⟩ := h.out
  refine ⟨_, (pss_cons (ps_if (pt_val (pe_callB call_isD (by rfl) T.z_isinstance (by decide +kernel) (pa_cons (pv 1) (pa_cons (pe_bltn (v := .ty "str") (u := .type "str") (by rfl) T.z_str (by decide +kernel) rfl) pa_nil)))) (pss_one (ps_ret (pe_and (pe_callB call_isD (by rfl) T.z_isinstance (by decide +kernel) (pa_cons (pv 0) (pa_cons (pe_bltn (v := .ty "str") (u := .type "str") (by rfl) T.z_str (by decide +kernel) rfl) pa_nil))) (pe_one (pe_cmpR op_eq (pv 0) (pv 1) (nomark _)))))) pss_nil)
      (pss_cons (ps_if (pt_val (pe_callB call_isD (by rfl) T.z_isinstance (by decide +kernel) (pa_cons (pv 1) (pa_cons (pe_bltn (v := .ty "int") (u := .type "int") (by rfl) T.z_int (by decide +kernel) rfl) pa_nil)))) (pss_one (ps_ret (pe_and (pe_callB call_isD (by rfl) T.z_isinstance (by decide +kernel) (pa_cons (pv 0) (pa_cons (pe_bltn (v := .ty "int") (u := .type "int") (by rfl) T.z_int (by decide +kernel) rfl) pa_nil))) (pe_and (pe_not (pe_callB call_isD (by rfl) T.z_isinstance (by decide +kernel) (pa_cons (pv 0) (pa_cons (pe_bltn (v := .ty "bool") (u := .type "bool") (by rfl) T.z_bool (by decide +kernel) rfl) pa_nil)))) (pe_one (pe_cmpR op_eq (pv 0) (pv 1) (nomark _))))))) pss_nil)
      (pss_cons (ps_if (pt_cmpR op_isN (pv 1) pe_non (nomark _)) (pss_one (ps_ret (pe_cmpR op_isN (pv 0) pe_non (nomark _)))) pss_nil)
      (pss_cons (ps_if (PW.pt (pw_or (pt_cmpR op_ne (pe_callB call_isD (by rfl) T.z_isinstance (by decide +kernel) (pa_cons (pv 1) (pa_cons (pe_bltn (v := .ty "tuple") (u := .type "tuple") (by rfl) T.z_tuple (by decide +kernel) rfl) pa_nil))) (pe_callB call_isD (by rfl) T.z_isinstance (by decide +kernel) (pa_cons (pv 0) (pa_cons (pe_bltn (v := .ty "tuple") (u := .type "tuple") (by rfl) T.z_tuple (by decide +kernel) rfl) pa_nil))) (nomark _)) (pw_or1 (pt_cmpR op_ne (pe_callB call_isD (by rfl) T.z_isinstance (by decide +kernel) (pa_cons (pv 1) (pa_cons (pe_bltn (v := .ty "list") (u := .type "list") (by rfl) T.z_list (by decide +kernel) rfl) pa_nil))) (pe_callB call_isD (by rfl) T.z_isinstance (by decide +kernel) (pa_cons (pv 0) (pa_cons (pe_bltn (v := .ty "list") (u := .type "list") (by rfl) T.z_list (by decide +kernel) rfl) pa_nil))) (nomark _))))) (pss_one (ps_ret pe_bl)) pss_nil)
      (pss_cons (ps_if (pt_cmpR op_ne (pe_callB call_lenP (by rfl) T.z_len PySem.boot_len (pa_cons (pv 0) pa_nil)) (pe_callB call_lenP (by rfl) T.z_len PySem.boot_len (pa_cons (pv 1) pa_nil)) (nomark _)) (pss_one (ps_ret pe_bl)) pss_nil)
      (pss_cons (ps_for PassesOwn.never rfl (pi_range1 (by rfl) T.z_range (pa_cons (pe_callB call_lenP (by rfl) T.z_len PySem.boot_len (pa_cons (pv 1) pa_nil)) pa_nil)) (pg_name (i := 2) sc__law_like.nd rfl (by first | exact Or.inl rfl | exact Or.inr rfl)) (pss_one (ps_if (pt_not (pt_val (pe_call ih hr (by rfl) T._law_like.g T._law_like.F.kp T._law_like.b .nil pass0 (pa_cons (pe_ix ix_P (pv 0) (pv 2) (fun _ _ => rfl)) (pa_cons (pe_ix ix_P (pv 1) (pv 2) (fun _ _ => rfl)) pa_nil))))) (pss_one (ps_ret pe_bl)) pss_nil)))
      (pss_one (ps_ret pe_bl)))))))), ?_⟩
  walk_at "go"
  cases d with
  | dict z => cases hl
  | bool z => cases hl
  | str x =>
    obtain rfl := Dp_s hv
    obtain rfl := Dp_s hu
    refine ⟨_, "str", _, true, rfl, hu, (by show kitB "str" "str" = some true; decide +kernel), ?_⟩
    walk_at "go"
    refine ⟨_, "str", _, true, rfl, hu, (by show kitB "str" "str" = some true; decide +kernel), ?_⟩
    walk_at "go"
    rw [decide_eq_true rfl]
    exact q
  | int x =>
    obtain rfl := Dp_i hv
    obtain rfl := Dp_i hu
    refine ⟨_, "str", _, false, rfl, hu, (by show kitB "int" "str" = some false; decide +kernel), ?_⟩
    walk_at "go"
    refine ⟨_, "int", _, true, rfl, hu, (by show kitB "int" "int" = some true; decide +kernel), ?_⟩
    walk_at "go"
    refine ⟨_, "int", _, true, rfl, hu, (by show kitB "int" "int" = some true; decide +kernel), ?_⟩
    walk_at "go"
    refine ⟨_, "bool", _, false, rfl, hu, (by show kitB "int" "bool" = some false; decide +kernel), ?_⟩
    walk_at "go"
    rw [decide_eq_true rfl]
    exact q
  | none =>
    obtain rfl := Dp_n hv
    obtain rfl := Dp_n hu
    refine ⟨_, "str", _, false, rfl, hu, (by show kitB "NoneType" "str" = some false; decide +kernel), ?_⟩
    walk_at "go"
    refine ⟨_, "int", _, false, rfl, hu, (by show kitB "NoneType" "int" = some false; decide +kernel), ?_⟩
    walk_at "go"
    exact q
  | tuple ds =>
    have hl : (decide (ds.length ≤ 100000000) && lks ds) = true := hl
    rw [Bool.and_eq_true] at hl
    obtain ⟨hl1, hl2⟩ := hl
    have hl1 := of_decide_eq_true hl1
    have hd : PyData.depthAll ds + 1 < n + 1 := hd
    obtain ⟨b, rfl⟩ : ∃ b, u = .ref b := by cases hu; exact ⟨_, rfl⟩
    refine ⟨_, "str", _, false, rfl, hu, (by show kitB "tuple" "str" = some false; decide +kernel), ?_⟩
    walk_at "go"
    refine ⟨_, "int", _, false, rfl, hu, (by show kitB "tuple" "int" = some false; decide +kernel), ?_⟩
    walk_at "go"
    refine ⟨_, "tuple", _, true, rfl, hu, (by show kitB "tuple" "tuple" = some true; decide +kernel), ?_⟩
    walk_at "go"
    refine ⟨_, "tuple", _, true, rfl, hv, (by show kitB "tuple" "tuple" = some true; decide +kernel), ?_⟩
    walk_at "go"
    refine ⟨_, "list", _, false, rfl, hu, (by show kitB "tuple" "list" = some false; decide +kernel), ?_⟩
    walk_at "go"
    refine ⟨_, "list", _, false, rfl, hv, (by show kitB "tuple" "list" = some false; decide +kernel), ?_⟩
    walk_at "go"
    refine ite_f (by rw [decide_eq_true rfl]; rfl) ?_
    walk_at "go"
    refine for_range (lo := 0) (n := ds.length) (fun i σ H2 => Hold (∃ o, σ = [some v, some (.ref b), o] ∧ H2 = H)) (.mk ⟨none, rfl, rfl⟩) ?_ ?_
    · rintro i σ H2 hi h
      obtain ⟨o, rfl, rfl⟩ := h.out
      have hi' : ds[i]? = some ds[i] := List.getElem?_eq_getElem hi
      walk_at "go"
      refine ⟨_, _, i, _, .inl hv, rfl, by omega, hi', fun x hx => ?_⟩
      walk_at "go"
      refine ⟨_, _, i, _, .inl hu, rfl, by omega, hi', fun y hy => ?_⟩
      have dg := depth_get hi'
      refine ⟨_, _, rfl, .mk ⟨ds[i], hx, hy, lks_get hl2 hi', by omega, ?_⟩⟩
      walk_at "go"
      exact .mk ⟨_, rfl, rfl⟩
    · rintro σ H2 h
      obtain ⟨o, rfl, rfl⟩ := h.out
      exact q
  | list ds =>
    have hl : (decide (ds.length ≤ 100000000) && lks ds) = true := hl
    rw [Bool.and_eq_true] at hl
    obtain ⟨hl1, hl2⟩ := hl
    have hl1 := of_decide_eq_true hl1
    have hd : PyData.depthAll ds + 1 < n + 1 := hd
    obtain ⟨b, rfl⟩ : ∃ b, u = .ref b := by cases hu; exact ⟨_, rfl⟩
    refine ⟨_, "str", _, false, rfl, hu, (by show kitB "list" "str" = some false; decide +kernel), ?_⟩
    walk_at "go"
    refine ⟨_, "int", _, false, rfl, hu, (by show kitB "list" "int" = some false; decide +kernel), ?_⟩
    walk_at "go"
    refine ⟨_, "tuple", _, false, rfl, hu, (by show kitB "list" "tuple" = some false; decide +kernel), ?_⟩
    walk_at "go"
    refine ⟨_, "tuple", _, false, rfl, hv, (by show kitB "list" "tuple" = some false; decide +kernel), ?_⟩
    walk_at "go"
    refine ⟨_, "list", _, true, rfl, hu, (by show kitB "list" "list" = some true; decide +kernel), ?_⟩
    walk_at "go"
    refine ⟨_, "list", _, true, rfl, hv, (by show kitB "list" "list" = some true; decide +kernel), ?_⟩
    walk_at "go"
    refine ite_f (by rw [decide_eq_true rfl]; rfl) ?_
    walk_at "go"
    refine for_range (lo := 0) (n := ds.length) (fun i σ H2 => Hold (∃ o, σ = [some v, some (.ref b), o] ∧ H2 = H)) (.mk ⟨none, rfl, rfl⟩) ?_ ?_
    · rintro i σ H2 hi h
      obtain ⟨o, rfl, rfl⟩ := h.out
      have hi' : ds[i]? = some ds[i] := List.getElem?_eq_getElem hi
      walk_at "go"
      refine ⟨_, _, i, _, .inr hv, rfl, by omega, hi', fun x hx => ?_⟩
      walk_at "go"
      refine ⟨_, _, i, _, .inr hu, rfl, by omega, hi', fun y hy => ?_⟩
      have dg := depth_get hi'
      refine ⟨_, _, rfl, .mk ⟨ds[i], hx, hy, lks_get hl2 hi', by omega, ?_⟩⟩
      walk_at "go"
      exact .mk ⟨_, rfl, rfl⟩
    · rintro σ H2 h
      obtain ⟨o, rfl, rfl⟩ := h.out
      exact q
theorem like_n (T : Tx K mg) : ∀ n : Nat, FnOk P w K mg base CX0 n T._law_like.f T._law_like.fd ["_law_found", "_law_due"] (spLike K n)
  | 0 => by
    have no : ∀ vs H Q E, ¬ spLike K 0 vs H Q E := fun vs H Q E h => by
      obtain ⟨v, w, _, h⟩ := h
      obtain ⟨d, _, _, _, h, _⟩ := h.out
      omega
    exact ⟨fun vs H Q E h => absurd h (no vs H Q E), fun A outer s H args us vs Q E _ _ _ _ h => absurd h (no vs H Q E)⟩
  | n + 1 => like_step T (like_n T n)
theorem ok__law_like (T : Tx K mg) : FnOk P w K mg base CX0 15 T._law_like.f T._law_like.fd ["_law_found", "_law_due"] (spLike K 15) := like_n T 15

def spFolded (K : PySem.W.Frag) : Sp := fun vs H Q _ => ∃ (vw v1 v2 : V), vs = [vw, v1, v2] ∧ Hold (∃ (f : Fw) (a b : Int), vw = .str f.s ∧ v1 = .int a ∧ v2 = .int b ∧ Num a ∧ Num b ∧ Q (.int (foldF f a b)) H)
theorem ok_folded (T : Tx K mg) : FnOk P w K mg base CX0 1 T.folded.f T.folded.fd ["word", "one", "other"] (spFolded K) := by
  refine T.folded.F.ok sc_folded (fun vs H Q E h => ?_) (fun cdv A outer s H vs Q E hr h => ?_)
  · obtain ⟨a, vk, vj, rfl, _⟩ := h
    rfl
  obtain ⟨vw, v1, v2, rfl, h⟩ := h
  obtain ⟨f, a, b, rfl, rfl, rfl, ⟨ha1, ha2⟩, ⟨hb1, hb2⟩, q⟩ := h.out
  refine ⟨_, (pss_cons (ps_if (pt_cmpR op_eq (pv 0) pe_str (nomark _)) (pss_one (ps_ret (pe_op op_mod (pe_op op_add (pv 1) (pv 2)) (pe_glob (v := .int 1000003) (by rfl) T.c_REST.g ⟨_, rfl⟩)))) pss_nil)
      (pss_cons (ps_if (pt_cmpR op_eq (pv 0) pe_str (nomark _)) (pss_one (ps_ret (pe_op op_mod (pe_op op_mul (pv 1) (pv 2)) (pe_glob (v := .int 1000003) (by rfl) T.c_REST.g ⟨_, rfl⟩)))) pss_nil)
      (pss_cons (ps_if (pt_cmpR op_eq (pv 0) pe_str (nomark _)) (pss_one (ps_ret (pe_callB (call_min2N rfl) (by rfl) T.z_min (by decide +kernel) (pa_cons (pv 1) (pa_cons (pv 2) pa_nil))))) pss_nil)
      (pss_one (ps_ret (pe_callB (call_max2N rfl) (by rfl) T.z_max (by decide +kernel) (pa_cons (pv 1) (pa_cons (pv 2) pa_nil)))))))), ?_⟩
  cases f <;> walk_at "go" <;> exact q

theorem ok__law_folded (T : Tx K mg) : FnOk P w K mg base CX0 1 T._law_folded.f T._law_folded.fd ["_law_word", "_law_one", "_law_other"]
    (fun vs H Q _ => ∃ (vw v1 v2 : V), vs = [vw, v1, v2] ∧ Hold (∃ (f : Fw) (a b : Int), vw = .str f.s ∧ v1 = .int a ∧ v2 = .int b ∧ Num a ∧ Num b ∧ ∀ H', Same H H' → Q (.int (foldF f a b)) H')) := by
  refine T._law_folded.F.ok sc__law_folded (fun vs H Q E h => ?_) (fun cdv A outer s H vs Q E hr h => ?_)
  · obtain ⟨a, vk, vj, rfl, _⟩ := h
    rfl
  obtain ⟨vw, v1, v2, rfl, h⟩ := h
  obtain ⟨f, a, b, rfl, rfl, rfl, ⟨ha1, ha2⟩, ⟨hb1, hb2⟩, q⟩ := h.out
  refine ⟨_, (pss_cons (ps_if (pt_cmpR op_eq (pv 0) pe_str (nomark _)) (pss_one (ps_ret (pe_op op_mod (pe_op op_add (pv 1) (pv 2)) pe_int))) pss_nil)
      (pss_cons (ps_if (pt_cmpR op_eq (pv 0) pe_str (nomark _)) (pss_one (ps_ret (pe_op op_mod (pe_op op_mul (pv 1) (pv 2)) pe_int))) pss_nil)
      (pss_one (ps_ret (pe_ix ix_selA (pe_ld (pa_cons (pe_callB (call_min2N rfl) (by rfl) T.z_min (by decide +kernel) (pa_cons (pv 1) (pa_cons (pv 2) pa_nil))) (pa_cons (pe_callB (call_max2N rfl) (by rfl) T.z_max (by decide +kernel) (pa_cons (pv 1) (pa_cons (pv 2) pa_nil))) pa_nil))) (pe_callTy call_int1 (by rfl) T.z_int (by decide +kernel) (pa_cons (pe_cmpR op_eq (pv 0) pe_str (nomark _)) pa_nil)) (fun _ _ => rfl)))))), ?_⟩
  cases f with
  | add => walk_at "go"; exact q H (Same.refl H)
  | times => walk_at "go"; exact q H (Same.refl H)
  | least =>
    walk_at "go"
    refine ⟨[.int (min a b), .int (max a b)], .cons (.int _) (.cons (.int _) .nil), by simp, fun p H1 n1 s1 t1 a1 => ?_⟩
    walk_at "go"
    refine ⟨_, _, _, false, rfl, a1, rfl, fun v iv => ?_⟩
    have iv : Im K H1 v (.int (min a b)) := iv
    obtain rfl := iv.i
    exact q H1 s1
  | most =>
    walk_at "go"
    refine ⟨[.int (min a b), .int (max a b)], .cons (.int _) (.cons (.int _) .nil), by simp, fun p H1 n1 s1 t1 a1 => ?_⟩
    walk_at "go"
    refine ⟨_, _, _, true, rfl, a1, rfl, fun v iv => ?_⟩
    have iv : Im K H1 v (.int (max a b)) := iv
    obtain rfl := iv.i
    exact q H1 s1

def spDone (K : PySem.W.Frag) : Sp := fun vs H Q _ => ∃ (vd vi : V), vs = [vd, vi] ∧ Hold (∃ (d : Deed) (x : PyData) (k k' : Kd), Im K H vd d.d ∧ d.Ok ∧ Im K H vi x ∧ Has k x ∧ kindD d k = some k' ∧
  ∀ v H', Same H H' → Im K H' v (doneD d x) → Q v H')
theorem ok_done (T : Tx K mg) : FnOk P w K mg base CX0 1 T.done.f T.done.fd ["deed", "item"] (spDone K) := by
  refine T.done.F.ok sc_done (fun vs H Q E h => ?_) (fun cdv A outer s H vs Q E hr h => ?_)
  · obtain ⟨a, vk, rfl, _⟩ := h
    rfl
  obtain ⟨vd, vi, rfl, h⟩ := h
  obtain ⟨d, x, k, k', id, ok, ix, hx, hk, q⟩ := h.out
  refine ⟨_, (pss_cons (ps_set (i := 2) sc_done.nd rfl (by first | exact Or.inl rfl | exact Or.inr rfl) (pe_ix ix_tupD (pv 0) pe_int (fun _ _ => rfl)))
      (pss_cons (ps_if (pt_cmpR op_eq (pv 2) pe_str (nomark _)) (pss_one (ps_ret (pe_ix ix_tupD (pv 1) pe_int (fun _ _ => rfl)))) pss_nil)
      (pss_cons (ps_if (pt_cmpR op_eq (pv 2) pe_str (nomark _)) (pss_one (ps_ret (pe_ix ix_tupD (pv 1) pe_int (fun _ _ => rfl)))) pss_nil)
      (pss_cons (ps_if (pt_cmpR op_eq (pv 2) pe_str (nomark _)) (pss_one (ps_ret (pe_td (pa_cons (pv 1) (pa_cons (pv 1) pa_nil))))) pss_nil)
      (pss_cons (ps_if (pt_cmpR op_eq (pv 2) pe_str (nomark _)) (pss_one (ps_ret (pe_op op_mod (pe_callB (cr_sumT rfl) (by rfl) T.z_sum (by decide +kernel) (pa_cons (pv 1) pa_nil)) (pe_glob (v := .int 1000003) (by rfl) T.c_REST.g ⟨_, rfl⟩)))) pss_nil)
      (pss_cons (ps_if (pt_cmpR op_eq (pv 2) pe_str (nomark _)) (pss_one (ps_ret (pe_callB call_lenT (by rfl) T.z_len PySem.boot_len (pa_cons (pv 1) pa_nil)))) pss_nil)
      (pss_cons (ps_if (pt_cmpR op_eq (pv 2) pe_str (nomark _)) (pss_one (ps_ret (pe_op op_mod (pe_un un_neg (pv 1)) (pe_glob (v := .int 1000003) (by rfl) T.c_REST.g ⟨_, rfl⟩)))) pss_nil)
      (pss_cons (ps_if (pt_cmpR op_eq (pv 2) pe_str (nomark _)) (pss_one (ps_ret (pe_op op_mod (pe_op op_add (pv 1) (pe_ix ix_tupD (pv 0) pe_int (fun _ _ => rfl))) (pe_glob (v := .int 1000003) (by rfl) T.c_REST.g ⟨_, rfl⟩)))) pss_nil)
      (pss_one (ps_ret (pe_op op_mod (pe_op op_mul (pv 1) (pe_ix ix_tupD (pv 0) pe_int (fun _ _ => rfl))) (pe_glob (v := .int 1000003) (by rfl) T.c_REST.g ⟨_, rfl⟩)))))))))))), ?_⟩
  walk_at "go"
  cases d with
  | both =>
    refine ⟨_, 0, 0, _, id, rfl, rfl, rfl, fun v iv => ?_⟩
    obtain rfl := iv.s
    walk_at "go"
    refine ⟨[x, x], .cons ix (.cons ix .nil), by simp, fun p H1 s1 t1 i1 => ?_⟩
    exact q _ H1 s1 i1
  | add n =>
    cases k with
    | num =>
      obtain ⟨i, rfl, i0, i1⟩ := hx.int
      obtain rfl := ix.i
      obtain ⟨n0, n1⟩ := ok
      refine ⟨_, 0, 0, _, id, rfl, rfl, rfl, fun v iv => ?_⟩
      obtain rfl := iv.s
      walk_at "go"
      refine ⟨_, 1, 1, _, id, rfl, rfl, rfl, fun v iv => ?_⟩
      obtain rfl := iv.i
      walk_at "go"
      exact q _ H (Same.refl H) (.int _)
    | _ => cases hk
  | times n =>
    cases k with
    | num =>
      obtain ⟨i, rfl, i0, i1⟩ := hx.int
      obtain rfl := ix.i
      obtain ⟨n0, n1⟩ := ok
      refine ⟨_, 0, 0, _, id, rfl, rfl, rfl, fun v iv => ?_⟩
      obtain rfl := iv.s
      walk_at "go"
      refine ⟨_, 1, 1, _, id, rfl, rfl, rfl, fun v iv => ?_⟩
      obtain rfl := iv.i
      walk_at "go"
      exact q _ H (Same.refl H) (.int _)
    | _ => cases hk
  | minus =>
    cases k with
    | num =>
      obtain ⟨i, rfl, i0, i1⟩ := hx.int
      obtain rfl := ix.i
      refine ⟨_, 0, 0, _, id, rfl, rfl, rfl, fun v iv => ?_⟩
      obtain rfl := iv.s
      walk_at "go"
      exact q _ H (Same.refl H) (.int _)
    | _ => cases hk
  | first =>
    cases k with
    | pair a b =>
      obtain ⟨y, z, rfl, _⟩ := hx.two
      refine ⟨_, 0, 0, _, id, rfl, rfl, rfl, fun v iv => ?_⟩
      obtain rfl := iv.s
      walk_at "go"
      refine ⟨_, 0, 0, _, ix, rfl, rfl, rfl, fun v iv => ?_⟩
      exact q _ H (Same.refl H) iv
    | _ => cases hk
  | second =>
    cases k with
    | pair a b =>
      obtain ⟨y, z, rfl, _⟩ := hx.two
      refine ⟨_, 0, 0, _, id, rfl, rfl, rfl, fun v iv => ?_⟩
      obtain rfl := iv.s
      walk_at "go"
      refine ⟨_, 1, 1, _, ix, rfl, rfl, rfl, fun v iv => ?_⟩
      exact q _ H (Same.refl H) iv
    | _ => cases hk
  | sum =>
    cases k with
    | row a =>
      cases a with
      | num =>
        cases hx with
        | row h hl =>
          rename_i xs
          have e := Has.ints h
          refine ⟨_, 0, 0, _, id, rfl, rfl, rfl, fun v iv => ?_⟩
          obtain rfl := iv.s
          rw [e] at ix
          obtain ⟨b, ys, rfl, ht, hs⟩ := ix.t
          rw [Ims.of_ints _ hs] at ht
          walk_at "go"
          refine ⟨_, _, rfl, ht, ?_⟩
          walk_at "go"
          exact q _ H (Same.refl H) (.int _)
      | _ => cases hk
    | _ => cases hk
  | many =>
    cases k with
    | row a =>
      cases hx with
      | row h hl =>
        refine ⟨_, 0, 0, _, id, rfl, rfl, rfl, fun v iv => ?_⟩
        obtain rfl := iv.s
        walk_at "go"
        refine ⟨_, _, rfl, ix, ?_⟩
        exact q _ H (Same.refl H) (.int _)
    | _ => cases hk

def spAllDone (K : PySem.W.Frag) : Sp := fun vs H Q _ => ∃ (vd vi : V), vs = [vd, vi] ∧ Hold (∃ (ds : List Deed) (x : PyData) (k k' : Kd), Im K H vd (.tuple (ds.map Deed.d)) ∧ (∀ d ∈ ds, d.Ok) ∧ Im K H vi x ∧ Has k x ∧ kindAll ds k = some k' ∧
  ∀ v H', Same H H' → Im K H' v (doneAll ds x) → Q v H')
theorem ok_all_done (T : Tx K mg) : FnOk P w K mg base CX0 2 T.all_done.f T.all_done.fd ["deeds", "item"] (spAllDone K) := by
  refine T.all_done.F.ok sc_all_done (fun vs H Q E h => ?_) (fun cdv A outer s H vs Q E hr h => ?_)
  · obtain ⟨a, vk, rfl, _⟩ := h
    rfl
  obtain ⟨vd, vi, rfl, h⟩ := h
  obtain ⟨ds, x, k, k', id, ok, ix, hx, hk, q⟩ := h.out
  obtain ⟨a, xs, rfl, ht, hs⟩ := id.t
  have len := hs.len
  rw [List.length_map] at len
  refine ⟨_, (pss_cons (ps_for PassesOwn.never rfl (pi_tup (pv 0)) (pg_name (i := 2) sc_all_done.nd rfl (by first | exact Or.inl rfl | exact Or.inr rfl)) (pss_one (ps_set (i := 1) sc_all_done.nd rfl (by first | exact Or.inl rfl | exact Or.inr rfl) (pe_call (ok_done T) hr (by rfl) T.done.g T.done.F.kp T.done.b .nil pass0 (pa_cons (pv 2) (pa_cons (pv 1) pa_nil))))))
      (pss_one (ps_ret (pv 1)))), ?_⟩
  refine ⟨_, rfl, a, rfl, ⟨_, ht⟩, for_tup (K := K) (a := a) (xs := xs) (fun i σ H2 => Hold (∃ (v : V) (o : Option V), σ = [some (.ref a), some v, o] ∧ Same H H2 ∧ Im K H2 v (doneAll (ds.take i) x)))
    (.mk ⟨vi, none, rfl, Same.refl H, ix⟩) (fun i σ H2 _ h => by obtain ⟨_, _, _, s2, _⟩ := h.out; exact (same_tk s2).t _ _ ht) ?_ ?_⟩
  · intro i y σ H2 hi h
    obtain ⟨v, o, rfl, s2, iv⟩ := h.out
    obtain ⟨d, hd, iy⟩ := hs.get hi
    rw [List.getElem?_map] at hd
    obtain ⟨d, hd', rfl⟩ := Option.map_eq_some_iff.mp hd
    obtain ⟨⟨k1, k2, h1, h2⟩, e⟩ := done_turn hx hk hd' ok
    walk_at "go"
    refine .mk ⟨d, _, k1, k2, iy.u (same_tk s2), ok _ (List.mem_of_getElem? hd'), iv, h1, h2, fun v3 H3 s3 i3 => ?_⟩
    refine .mk ⟨v3, _, rfl, s2.trans s3, ?_⟩
    rw [e]
    exact i3
  · intro σ H2 h
    obtain ⟨v, o, rfl, s2, iv⟩ := h.out
    walk_at "go"
    rw [len, List.take_length] at iv
    exact q v H2 s2 iv

theorem ok__law_all_done (T : Tx K mg) : FnOk P w K mg base CX0 1 T._law_all_done.f T._law_all_done.fd ["_law_deeds_here", "_law_item"]
    (fun vs H Q _ => ∃ (vd vi : V), vs = [vd, vi] ∧ Hold (∃ (ds : List Deed) (x : PyData) (k k' : Kd), Im K H vd (.tuple (ds.map Deed.d)) ∧ (∀ d ∈ ds, d.Ok) ∧ Im K H vi x ∧ Has k x ∧ kindAll ds k = some k' ∧
  ∀ v H', Same H H' → Im K H' v (doneAll ds x) → Q v H')) := by
  refine T._law_all_done.F.ok sc__law_all_done (fun vs H Q E h => ?_) (fun cdv A outer s H vs Q E hr h => ?_)
  · obtain ⟨a, vk, rfl, _⟩ := h
    rfl
  obtain ⟨vd, vi, rfl, h⟩ := h
  obtain ⟨ds, x, k, k', id, ok, ix, hx, hk, q⟩ := h.out
  obtain ⟨a, xs, rfl, ht, hs⟩ := id.t
  have len := hs.len
  rw [List.length_map] at len
  refine ⟨_, (pss_cons (ps_for PassesOwn.never rfl (pi_tup (pv 0)) (pg_name (i := 2) sc__law_all_done.nd rfl (by first | exact Or.inl rfl | exact Or.inr rfl)) (pss_one (ps_if (pt_cmpR op_eq (pe_ix ix_tupD (pv 2) pe_int (fun _ _ => rfl)) pe_str (nomark _)) (pss_one (ps_set (i := 1) sc__law_all_done.nd rfl (by first | exact Or.inl rfl | exact Or.inr rfl) (pe_op op_mod (pe_op op_add (pv 1) (pe_ix ix_tupD (pv 2) pe_int (fun _ _ => rfl))) pe_int))) (pss_one (ps_if (pt_cmpR op_eq (pe_ix ix_tupD (pv 2) pe_int (fun _ _ => rfl)) pe_str (nomark _)) (pss_one (ps_set (i := 1) sc__law_all_done.nd rfl (by first | exact Or.inl rfl | exact Or.inr rfl) (pe_op op_mod (pe_op op_mul (pv 1) (pe_ix ix_tupD (pv 2) pe_int (fun _ _ => rfl))) pe_int))) (pss_one (ps_if (pt_cmpR op_eq (pe_ix ix_tupD (pv 2) pe_int (fun _ _ => rfl)) pe_str (nomark _)) (pss_one (ps_set (i := 1) sc__law_all_done.nd rfl (by first | exact Or.inl rfl | exact Or.inr rfl) (pe_op op_mod (pe_op op_sub pe_int (pv 1)) pe_int))) (pss_one (ps_if (PW.pt (pw_or (pt_cmpR op_eq (pe_ix ix_tupD (pv 2) pe_int (fun _ _ => rfl)) pe_str (nomark _)) (pw_or1 (pt_cmpR op_eq (pe_ix ix_tupD (pv 2) pe_int (fun _ _ => rfl)) pe_str (nomark _))))) (pss_one (ps_set (i := 1) sc__law_all_done.nd rfl (by first | exact Or.inl rfl | exact Or.inr rfl) (pe_ix ix_tupD (pv 1) (pe_callTy call_int1 (by rfl) T.z_int (by decide +kernel) (pa_cons (pe_cmpR op_eq (pe_ix ix_tupD (pv 2) pe_int (fun _ _ => rfl)) pe_str (nomark _)) pa_nil)) (fun _ _ => rfl)))) (pss_one (ps_if (pt_cmpR op_eq (pe_ix ix_tupD (pv 2) pe_int (fun _ _ => rfl)) pe_str (nomark _)) (pss_one (ps_set (i := 1) sc__law_all_done.nd rfl (by first | exact Or.inl rfl | exact Or.inr rfl) (pe_td (pa_cons (pv 1) (pa_cons (pv 1) pa_nil))))) (pss_one (ps_if (pt_cmpR op_eq (pe_ix ix_tupD (pv 2) pe_int (fun _ _ => rfl)) pe_str (nomark _)) (pss_one (ps_set (i := 1) sc__law_all_done.nd rfl (by first | exact Or.inl rfl | exact Or.inr rfl) (pe_callB call_lenT (by rfl) T.z_len PySem.boot_len (pa_cons (pv 1) pa_nil)))) (pss_one (ps_set (i := 1) sc__law_all_done.nd rfl (by first | exact Or.inl rfl | exact Or.inr rfl) (pe_op op_mod (pe_callB (cr_sumT rfl) (by rfl) T.z_sum (by decide +kernel) (pa_cons (pv 1) pa_nil)) pe_int))))))))))))))))
      (pss_one (ps_ret (pv 1)))), ?_⟩
  refine ⟨_, rfl, a, rfl, ⟨_, ht⟩, for_tup (K := K) (a := a) (xs := xs) (fun i σ H2 => Hold (∃ (v : V) (o : Option V), σ = [some (.ref a), some v, o] ∧ Same H H2 ∧ Im K H2 v (doneAll (ds.take i) x)))
    (.mk ⟨vi, none, rfl, Same.refl H, ix⟩) (fun i σ H2 _ h => by obtain ⟨_, _, _, s2, _⟩ := h.out; exact (same_tk s2).t _ _ ht) ?_ ?_⟩
  · intro i y σ H2 hi h
    obtain ⟨v, o, rfl, s2, iv⟩ := h.out
    obtain ⟨d, hd, iy⟩ := hs.get hi
    rw [List.getElem?_map] at hd
    obtain ⟨d, hd', rfl⟩ := Option.map_eq_some_iff.mp hd
    obtain ⟨⟨k1, k2, h1, h2⟩, e⟩ := done_turn hx hk hd' ok
    have okd := ok _ (List.mem_of_getElem? hd')
    have iz := iy.u (same_tk s2)
    rw [e]
    generalize doneAll (ds.take i) x = x1 at iv h1
    cases d with
    | both =>
      walk_at "wds"
      refine ⟨[x1, x1], .cons iv (.cons iv .nil), by simp, fun p H3 s3 t3 i3 => ?_⟩
      exact .mk ⟨_, _, rfl, s2.trans s3, i3⟩
    | add n =>
      cases k1 with
      | num =>
        obtain ⟨i, rfl, i0, i1⟩ := h1.int
        obtain rfl := iv.i
        obtain ⟨n0, n1⟩ := okd
        walk_at "wds"
        walk_at "n1"
        exact .mk ⟨_, _, rfl, s2, .int _⟩
      | _ => cases h2
    | times n =>
      cases k1 with
      | num =>
        obtain ⟨i, rfl, i0, i1⟩ := h1.int
        obtain rfl := iv.i
        obtain ⟨n0, n1⟩ := okd
        walk_at "wds"
        walk_at "n1"
        exact .mk ⟨_, _, rfl, s2, .int _⟩
      | _ => cases h2
    | minus =>
      cases k1 with
      | num =>
        obtain ⟨i, rfl, i0, i1⟩ := h1.int
        obtain rfl := iv.i
        walk_at "wds"
        refine .mk ⟨_, _, rfl, s2, ?_⟩
        have e : (1000003 - i) % 1000003 = -i % 1000003 := by omega
        show Im K H2 (V.int ((1000003 - i) % 1000003)) (.int (-i % 1000003))
        rw [e]
        exact .int _
      | _ => cases h2
    | first =>
      cases k1 with
      | pair a b =>
        obtain ⟨y, z, rfl, _⟩ := h1.two
        walk_at "wds"
        refine ⟨_, _, 0, y, iv, rfl, rfl, rfl, fun u iu => ?_⟩
        exact .mk ⟨_, _, rfl, s2, iu⟩
      | _ => cases h2
    | second =>
      cases k1 with
      | pair a b =>
        obtain ⟨y, z, rfl, _⟩ := h1.two
        walk_at "wds"
        refine ⟨_, _, 1, z, iv, rfl, rfl, rfl, fun u iu => ?_⟩
        exact .mk ⟨_, _, rfl, s2, iu⟩
      | _ => cases h2
    | sum =>
      cases k1 with
      | row a =>
        cases a with
        | num =>
          cases h1 with
          | row h hl =>
            rename_i xs
            have e := Has.ints h
            obtain ⟨b, ys, rfl, ht, hs⟩ := iv.t
            rw [e] at hs
            rw [Ims.of_ints _ hs] at ht
            walk_at "wds"
            refine ⟨_, _, rfl, ht, ?_⟩
            walk_at "go"
            exact .mk ⟨_, _, rfl, s2, .int _⟩
        | _ => cases h2
      | _ => cases h2
    | many =>
      cases k1 with
      | row a =>
        cases h1 with
        | row h hl =>
          walk_at "wds"
          refine ⟨_, _, rfl, iv, ?_⟩
          exact .mk ⟨_, _, rfl, s2, .int _⟩
      | _ => cases h2
  · intro σ H2 h
    obtain ⟨v, o, rfl, s2, iv⟩ := h.out
    walk_at "go"
    rw [len, List.take_length] at iv
    exact q v H2 s2 iv

theorem ok__law_met (T : Tx K mg) : FnOk P w K mg base CX0 1 T._law_met.f T._law_met.fd ["_law_tests_here", "_law_number_here"]
    (fun vs H Q _ => ∃ (vt vn : V), vs = [vt, vn] ∧ Hold (∃ (ts : List Tst) (n : Int), Im K H vt (.tuple (ts.map Tst.d)) ∧ vn = .int n ∧ (∀ t ∈ ts, t.Ok) ∧ Q (.bl (ts.all fun t => holdsT t n)) H)) := by
  refine T._law_met.F.ok sc__law_met (fun vs H Q E h => ?_) (fun cdv A outer s H vs Q E hr h => ?_)
  · obtain ⟨a, vk, rfl, _⟩ := h
    rfl
  obtain ⟨vt, vn, rfl, h⟩ := h
  obtain ⟨ts, n, it, rfl, ok, q⟩ := h.out
  obtain ⟨a, xs, rfl, ht, hx⟩ := it.t
  have bad : ∀ {i : Nat} {t : Tst}, ts[i]? = some t → holdsT t n = false → (ts.all fun t => holdsT t n) = false := fun {i t} e h => by
    rw [List.all_eq_false]
    exact ⟨t, List.mem_of_getElem? e, by rw [h]; simp⟩
  refine ⟨_, (pss_cons (ps_for PassesOwn.never rfl (pi_tup (pv 0)) (pg_name (i := 2) sc__law_met.nd rfl (by first | exact Or.inl rfl | exact Or.inr rfl)) (pss_cons (ps_if (PW.pt (pw_or (PW.pt (pw_and (pt_cmpR op_eq (pe_ix ix_tupD (pv 2) pe_int (fun _ _ => rfl)) pe_str (nomark _)) (pw_and1 (pt_cmpR op_ge (pv 1) (pe_ix ix_tupD (pv 2) pe_int (fun _ _ => rfl)) (nomark _))))) (pw_or1 (PW.pt (pw_and (pt_cmpR op_eq (pe_ix ix_tupD (pv 2) pe_int (fun _ _ => rfl)) pe_str (nomark _)) (pw_and1 (pt_cmpR op_le (pv 1) (pe_ix ix_tupD (pv 2) pe_int (fun _ _ => rfl)) (nomark _)))))))) (pss_one (ps_ret pe_bl)) pss_nil)
      (pss_one (ps_if (PW.pt (pw_and (pt_cmpR op_eq (pe_ix ix_tupD (pv 2) pe_int (fun _ _ => rfl)) pe_str (nomark _)) (pw_and1 (pt_cmpR op_ne (pe_op op_mod (pv 1) (pe_ix ix_tupD (pv 2) pe_int (fun _ _ => rfl))) (pe_ix ix_tupD (pv 2) pe_int (fun _ _ => rfl)) (nomark _))))) (pss_one (ps_ret pe_bl)) pss_nil))))
      (pss_one (ps_ret pe_bl))), ?_⟩
  refine ⟨_, rfl, a, rfl, ⟨_, ht⟩, for_tup (K := K) (a := a) (xs := xs) (fun i σ H2 => Hold (∃ o, σ = [some (.ref a), some (.int n), o] ∧ H2 = H ∧ (ts.take i).all (fun t => holdsT t n) = true))
    (.mk ⟨none, rfl, rfl, rfl⟩) (fun i σ H2 _ h => by obtain ⟨_, _, e, _⟩ := h.out; rw [e]; exact ht) ?_ ?_⟩
  · intro i x σ H2 hi h
    obtain ⟨o, rfl, rfl, hall⟩ := h.out
    obtain ⟨d, hd, ix⟩ := hx.get hi
    rw [List.getElem?_map] at hd
    obtain ⟨t, ht', rfl⟩ := Option.map_eq_some_iff.mp hd
    have okt := ok t (List.mem_of_getElem? ht')
    have good : holdsT t n = true → (ts.take (i + 1)).all (fun t => holdsT t n) = true := fun h => by
      rw [take_succ ht', List.all_append, hall, Bool.true_and, List.all_cons, h]
      rfl
    walk_at "go"
    cases t with
    | below m =>
      refine ⟨_, 0, 0, _, ix, rfl, rfl, rfl, fun v iv => ?_⟩
      obtain rfl := iv.s
      walk_at "go"
      refine ⟨_, 1, 1, _, ix, rfl, rfl, rfl, fun v iv => ?_⟩
      obtain rfl := iv.i
      walk_at "go"
      refine ite_d (fun c => ?_) (fun c => ?_)
      · walk_at "go"
        rw [bad ht' (decide_eq_false (by omega))] at q
        exact q
      · walk_at "go"
        refine ⟨_, 0, 0, _, ix, rfl, rfl, rfl, fun v iv => ?_⟩
        obtain rfl := iv.s
        walk_at "go"
        refine ⟨_, 0, 0, _, ix, rfl, rfl, rfl, fun v iv => ?_⟩
        obtain rfl := iv.s
        walk_at "go"
        exact .mk ⟨_, rfl, rfl, good (decide_eq_true (by omega))⟩
    | over m =>
      refine ⟨_, 0, 0, _, ix, rfl, rfl, rfl, fun v iv => ?_⟩
      obtain rfl := iv.s
      walk_at "go"
      refine ⟨_, 0, 0, _, ix, rfl, rfl, rfl, fun v iv => ?_⟩
      obtain rfl := iv.s
      walk_at "go"
      refine ⟨_, 1, 1, _, ix, rfl, rfl, rfl, fun v iv => ?_⟩
      obtain rfl := iv.i
      walk_at "go"
      refine ite_d (fun c => ?_) (fun c => ?_)
      · walk_at "go"
        rw [bad ht' (decide_eq_false (by omega))] at q
        exact q
      · walk_at "go"
        refine ⟨_, 0, 0, _, ix, rfl, rfl, rfl, fun v iv => ?_⟩
        obtain rfl := iv.s
        walk_at "go"
        exact .mk ⟨_, rfl, rfl, good (decide_eq_true (by omega))⟩
    | rest m r =>
      obtain ⟨_, h0, h1⟩ := okt
      refine ⟨_, 0, 0, _, ix, rfl, rfl, rfl, fun v iv => ?_⟩
      obtain rfl := iv.s
      walk_at "go"
      refine ⟨_, 0, 0, _, ix, rfl, rfl, rfl, fun v iv => ?_⟩
      obtain rfl := iv.s
      walk_at "go"
      refine ⟨_, 0, 0, _, ix, rfl, rfl, rfl, fun v iv => ?_⟩
      obtain rfl := iv.s
      walk_at "go"
      refine ⟨_, 1, 1, _, ix, rfl, rfl, rfl, fun v iv => ?_⟩
      obtain rfl := iv.i
      walk_at "go"
      refine ⟨_, 2, 2, _, ix, rfl, rfl, rfl, fun v iv => ?_⟩
      obtain rfl := iv.i
      walk_at "go"
      rw [dec_vint]
      refine ite_nd (fun c => ?_) (fun c => ?_)
      · walk_at "go"
        rw [bad ht' (decide_eq_false c)] at q
        exact q
      · walk_at "go"
        exact .mk ⟨_, rfl, rfl, good (decide_eq_true c)⟩
  · intro σ H2 h
    obtain ⟨o, rfl, rfl, hall⟩ := h.out
    have e : ts.take xs.length = ts := by
      have := hx.len
      rw [List.length_map] at this
      rw [this, List.take_length]
    rw [e] at hall
    rw [hall] at q
    exact q

def spLaw (K : PySem.W.Frag) : Sp := fun vs H Q _ => ∃ (a : Addr) (ns : List Int), vs = [.ref a] ∧ Fz K H a (ns.map V.int) ∧ ns.length ≤ 63 ∧ ∀ H', Q (.bl true) H'
theorem ok_law (T : Tx K mg) : FnOk P w K mg base CX0 16 T.law.f T.law.fd ["_law_script"] (spLaw K) := by
  refine T.law.F.ok sc_law (fun vs H Q E h => ?_) (fun cdv A outer s H vs Q E hr h => ?_)
  · obtain ⟨a, ns, rfl, _⟩ := h
    rfl
  obtain ⟨a, ns, rfl, hF, h63, q⟩ := h
  refine ⟨_, (pss_cons (ps_set (i := 1) sc_law.nd rfl (by first | exact Or.inl rfl | exact Or.inr rfl) (pe_call (ok__law_dice T) (hr.mono (by decide)) (by rfl) T._law_dice.g T._law_dice.F.kp T._law_dice.b .nil pass0 (pa_cons (pv 0) pa_nil)))
      (pss_cons (ps_set (i := 2) sc_law.nd rfl (by first | exact Or.inl rfl | exact Or.inr rfl) (pe_call (ok__law_next T) (hr.mono (by decide)) (by rfl) T._law_next.g T._law_next.F.kp T._law_next.b .nil pass0 (pa_cons (pv 1) (pa_cons pe_int pa_nil))))
      (pss_cons (ps_set (i := 3) sc_law.nd rfl (by first | exact Or.inl rfl | exact Or.inr rfl) (pe_call (ok__law_number T) (hr.mono (by decide)) (by rfl) T._law_number.g T._law_number.F.kp T._law_number.b .nil pass0 (pa_cons (pv 1) pa_nil)))
      (pss_cons (ps_set (i := 4) sc_law.nd rfl (by first | exact Or.inl rfl | exact Or.inr rfl) pe_str)
      (pss_cons (ps_cut (ps_if (pt_cmpR op_eq (pv 2) pe_int (nomark _)) (pss_cons (ps_set (i := 3) sc_law.nd rfl (by first | exact Or.inl rfl | exact Or.inr rfl) (pe_td (pa_cons (pv 3) (pa_cons (pe_call (ok__law_number T) (hr.mono (by decide)) (by rfl) T._law_number.g T._law_number.F.kp T._law_number.b .nil pass0 (pa_cons (pv 1) pa_nil)) pa_nil))))
      (pss_one (ps_set (i := 4) sc_law.nd rfl (by first | exact Or.inl rfl | exact Or.inr rfl) (pe_td (pa_cons pe_str (pa_cons pe_str (pa_cons pe_str pa_nil))))))) pss_nil))
      (pss_cons (ps_cut (ps_if (pt_cmpR op_eq (pv 2) pe_int (nomark _)) (pss_cons (ps_set (i := 3) sc_law.nd rfl (by first | exact Or.inl rfl | exact Or.inr rfl) (pe_callTy call_tupleA (by rfl) T.z_tuple (by decide +kernel) (pa_cons (pe_lc (own := [("_law_k", 11)]) (g := gName 11) (tt := tYes) rfl sc_law.nd (pi_range1 (by rfl) T.z_range (pa_cons (pe_call (ok__law_next T) (hr.mono (by decide)) (by rfl) T._law_next.g T._law_next.F.kp T._law_next.b .nil pass0 (pa_cons (pv 1) (pa_cons pe_int pa_nil))) pa_nil)) (blkOk_by (own := [("_law_k", 11)]) (N := ["_law_script", "_law_d", "_law_way", "_law_item", "_law_kind", "_law_deeds_here", "_law_tests_here", "_law_number_here", "_law_found", "_law_word", "_law_other", "_law_k"]) (sc := defScope s_law) (by decide +kernel)) (fun _ _ _ _ _ => pg_name (i := 11) sc_law.nd rfl (Or.inl rfl)) (fun _ _ _ _ _ => pts_nil) (fun _ _ _ _ _ => (pe_call (ok__law_number T) (hr.mono (by decide)) (by rfl) T._law_number.g T._law_number.F.kp T._law_number.b .nil pass0 (pa_cons (pv 1) pa_nil)))) pa_nil)))
      (pss_one (ps_set (i := 4) sc_law.nd rfl (by first | exact Or.inl rfl | exact Or.inr rfl) (pe_td (pa_cons pe_str (pa_cons pe_str pa_nil)))))) pss_nil))
      (pss_cons (ps_set (i := 5) sc_law.nd rfl (by first | exact Or.inl rfl | exact Or.inr rfl) (pe_call (ok__law_deeds T) (hr.mono (by decide)) (by rfl) T._law_deeds.g T._law_deeds.F.kp T._law_deeds.b .nil pass0 (pa_cons (pv 1) (pa_cons (pv 4) pa_nil))))
      (pss_cons (ps_if (pt_not (pt_val (pe_call (ok__law_like T) hr (by rfl) T._law_like.g T._law_like.F.kp T._law_like.b .nil pass0 (pa_cons (pe_call (ok_all_done T) (hr.mono (by decide)) (by rfl) T.all_done.g T.all_done.F.kp T.all_done.b .nil pass0 (pa_cons (pv 5) (pa_cons (pv 3) pa_nil))) (pa_cons (pe_call (ok__law_all_done T) (hr.mono (by decide)) (by rfl) T._law_all_done.g T._law_all_done.F.kp T._law_all_done.b .nil pass0 (pa_cons (pv 5) (pa_cons (pv 3) pa_nil))) pa_nil))))) (pss_one (ps_ret pe_bl)) pss_nil)
      (pss_cons (ps_set (i := 6) sc_law.nd rfl (by first | exact Or.inl rfl | exact Or.inr rfl) (pe_call (ok__law_tests T) (hr.mono (by decide)) (by rfl) T._law_tests.g T._law_tests.F.kp T._law_tests.b .nil pass0 (pa_cons (pv 1) pa_nil)))
      (pss_cons (ps_set (i := 7) sc_law.nd rfl (by first | exact Or.inl rfl | exact Or.inr rfl) (pe_call (ok__law_number T) (hr.mono (by decide)) (by rfl) T._law_number.g T._law_number.F.kp T._law_number.b .nil pass0 (pa_cons (pv 1) pa_nil)))
      (pss_cons (ps_set (i := 8) sc_law.nd rfl (by first | exact Or.inl rfl | exact Or.inr rfl) (pe_call (ok_all_hold T) (hr.mono (by decide)) (by rfl) T.all_hold.g T.all_hold.F.kp T.all_hold.b .nil pass0 (pa_cons (pv 6) (pa_cons (pv 7) pa_nil))))
      (pss_cons (ps_if (PW.pt (pw_or (pt_not (pt_val (pe_callB call_isB (by rfl) T.z_isinstance (by decide +kernel) (pa_cons (pv 8) (pa_cons (pe_bltn (v := .ty "bool") (u := .type "bool") (by rfl) T.z_bool (by decide +kernel) rfl) pa_nil))))) (pw_or1 (pt_cmpR op_ne (pv 8) (pe_call (ok__law_met T) (hr.mono (by decide)) (by rfl) T._law_met.g T._law_met.F.kp T._law_met.b .nil pass0 (pa_cons (pv 6) (pa_cons (pv 7) pa_nil))) (nomark _))))) (pss_one (ps_ret pe_bl)) pss_nil)
      (pss_cons (ps_set (i := 9) sc_law.nd rfl (by first | exact Or.inl rfl | exact Or.inr rfl) (pe_ix ix_listA (pe_ld (pa_cons pe_str (pa_cons pe_str (pa_cons pe_str (pa_cons pe_str pa_nil))))) (pe_call (ok__law_next T) (hr.mono (by decide)) (by rfl) T._law_next.g T._law_next.F.kp T._law_next.b .nil pass0 (pa_cons (pv 1) (pa_cons pe_int pa_nil))) (fun _ _ => rfl)))
      (pss_cons (ps_set (i := 10) sc_law.nd rfl (by first | exact Or.inl rfl | exact Or.inr rfl) (pe_call (ok__law_number T) (hr.mono (by decide)) (by rfl) T._law_number.g T._law_number.F.kp T._law_number.b .nil pass0 (pa_cons (pv 1) pa_nil)))
      (pss_one (ps_ret (pe_call (ok__law_like T) hr (by rfl) T._law_like.g T._law_like.F.kp T._law_like.b .nil pass0 (pa_cons (pe_call (ok_folded T) (hr.mono (by decide)) (by rfl) T.folded.g T.folded.F.kp T.folded.b .nil pass0 (pa_cons (pv 9) (pa_cons (pv 7) (pa_cons (pv 10) pa_nil)))) (pa_cons (pe_call (ok__law_folded T) (hr.mono (by decide)) (by rfl) T._law_folded.g T._law_folded.F.kp T._law_folded.b .nil pass0 (pa_cons (pv 9) (pa_cons (pv 7) (pa_cons (pv 10) pa_nil)))) pa_nil))))))))))))))))))), ?_⟩
  walk_at "go"
  refine ⟨a, ns, rfl, hF, h63, fun D H1 nD s1 d1 => ?_⟩
  walk_at "go"
  intro r2 H2 g1 g2 d2 b2
  walk_at "go"
  intro z3 H3 hz3 d3 b3
  walk_at "go"
  refine ⟨fun σ H' => Hold (∃ (vi vk : V) (x : PyData) (k : Kd), σ = [some (.ref a), some (.ref D), some (.int r2), some vi, some vk, none, none, none, none, none, none, none] ∧ Im K H' vi x ∧ Has k x ∧ Im K H' vk k.d ∧ k.dp ≤ 1 ∧ IsDice K H' D), ?_, ?_⟩
  · walk_at "go"
    refine ite_d (fun c => ?_) (fun c => ?_)
    · walk_at "go"
      intro z4 H4 hz4 d4 b4
      walk_at "go"
      refine ⟨[.int z3, .int z4], .cons (.int _) (.cons (.int _) .nil), by simp, fun p5 H5 s5 t5 i5 => ?_⟩
      walk_at "go"
      refine ⟨[.str "pair", .str "number", .str "number"], .cons (.str _) (.cons (.str _) (.cons (.str _) .nil)), by simp, fun p6 H6 s6 t6 i6 => ?_⟩
      exact .mk ⟨_, _, _, .pair .num .num, rfl, i5.u t6, .pair (.num hz3) (.num hz4), i6, by decide, (d4.same s5).same s6⟩
    · walk_at "go"
      exact .mk ⟨_, _, _, .num, rfl, .int z3, .num hz3, .str _, by decide, d3⟩
  intro σ H4 h
  obtain ⟨vi, vk, x, k, rfl, ix, hx, ik, hk, d4⟩ := h.out
  refine ⟨fun σ H' => Hold (∃ (vi vk : V) (x : PyData) (k : Kd), σ = [some (.ref a), some (.ref D), some (.int r2), some vi, some vk, none, none, none, none, none, none, none] ∧ Im K H' vi x ∧ Has k x ∧ Im K H' vk k.d ∧ k.dp ≤ 1 ∧ IsDice K H' D), ?_, ?_⟩
  · walk_at "go"
    refine ite_d (fun c => ?_) (fun c => ?_)
    · walk_at "go"
      intro r5 H5 g3 g4 d5 b5
      walk_at "go"
      intro l nl
      have ne := d5.ne_new nl
      refine lc_range (lo := 0) (n := r5.toNat) (fun i H6 => Hold (∃ ns : List Int, Acc K H6 l (ns.map PyData.int) ∧ ns.length = i ∧ (∀ n ∈ ns, Num n) ∧ IsDice K H6 D))
        (.mk ⟨[], acc_nil upd_same, rfl, (fun _ h => by cases h), d5.same (same_new nl)⟩) ?_ ?_
      · intro i H6 hi h
        obtain ⟨ns6, a6, rfl, n6, d6⟩ := h.out
        walk_at "go"
        intro z7 H7 hz7 d7 b7
        have a7 := a6.but b7 (b7.dtk d6) ne.symm
        obtain ⟨acc, e, hl, b8, t8, a8⟩ := a7.push (.int z7) (by rw [List.length_map]; omega)
        refine ⟨acc, e, hl, .mk ⟨ns6 ++ [z7], by rw [List.map_append]; exact a8, by rw [List.length_append]; rfl, fun y hy => ?_, d7.keep t8 fun xs q => b8 _ _ ne q⟩⟩
        rcases List.mem_append.mp hy with hy | hy
        · exact n6 y hy
        · rw [List.mem_singleton.mp hy]; exact hz7
      · intro H6 h
        obtain ⟨ns6, a6, e6, n6, d6⟩ := h.out
        walk_at "go"
        refine ⟨_, _, rfl, a6, fun p7 H7 s7 t7 i7 => ?_⟩
        walk_at "go"
        refine ⟨[.str "row", .str "number"], .cons (.str _) (.cons (.str _) .nil), by simp, fun p8 H8 s8 t8 i8 => ?_⟩
        refine .mk ⟨_, _, _, .row .num, rfl, i7.u t8, .row (fun x hx => ?_) (by rw [List.length_map]; omega), i8, by decide, (d6.same s7).same s8⟩
        obtain ⟨n, hn, rfl⟩ := List.mem_map.mp hx
        exact .num (n6 n hn)
    · walk_at "go"
      exact .mk ⟨_, _, _, k, rfl, ix, hx, ik, hk, d4⟩
  intro σ H5 h
  obtain ⟨vi, vk, x, k, rfl, ix, hx, ik, hk, d5⟩ := h.out
  walk_at "go"
  refine .mk ⟨d5, k, ik, by omega, fun vd H6 ds k' id l1 l2 okd kk kd _ d6 b6 => ?_⟩
  have ix6 := ix.u (b6.dtk d5)
  walk_at "go"
  refine .mk ⟨ds, x, k, k', id, okd, ix6, hx, kk, fun v7 H7 s7 i7 => ?_⟩
  have t7 : TK K H6 H7 := same_tk s7
  walk_at "go"
  refine .mk ⟨ds, x, k, k', id.u t7, okd, ix6.u t7, hx, kk, fun v8 H8 s8 i8 => ?_⟩
  have h8 := doneAll_has hx kk okd
  have e8 := Has_depth h8
  walk_at "go"
  refine .mk ⟨_, (i7.u (same_tk s8)).p, i8.p, Has_lk h8, by omega, ?_⟩
  have d8 := (d6.same s7).same s8
  walk_at "go"
  intro vt H9 ts it m1 m2 okt d9 b9
  walk_at "go"
  intro z10 H10 hz10 d10 b10
  have it10 := it.u (b10.dtk d9)
  walk_at "go"
  refine .mk ⟨ts, z10, it10, by omega, rfl, okt, fun H11 s11 => ?_⟩
  have d11 := d10.same s11
  walk_at "go"
  refine ⟨_, "bool", true, rfl, by decide +kernel, ?_⟩
  walk_at "go"
  refine .mk ⟨ts, z10, it10.u (same_tk s11), rfl, okt, ?_⟩
  walk_at "go"
  refine ite_f (by rw [decide_eq_true rfl]; rfl) ?_
  walk_at "go"
  refine ⟨[.str "add", .str "times", .str "least", .str "most"], .cons (.str _) (.cons (.str _) (.cons (.str _) (.cons (.str _) .nil))), by simp, fun l12 H12 n12 s12 t12 a12 => ?_⟩
  have d12 := d11.same s12
  have ne12 := d11.ne_new n12
  walk_at "go"
  intro r13 H13 g5 g6 d13 b13
  have a13 := a12.but b13 (b13.dtk d12) ne12.symm
  obtain ⟨f, hf⟩ : ∃ f : Fw, [PyData.str "add", .str "times", .str "least", .str "most"][r13.toNat]? = some (.str f.s) := by
    have : r13 = 0 ∨ r13 = 1 ∨ r13 = 2 ∨ r13 = 3 := by omega
    rcases this with rfl | rfl | rfl | rfl
    · exact ⟨.add, rfl⟩
    · exact ⟨.times, rfl⟩
    · exact ⟨.least, rfl⟩
    · exact ⟨.most, rfl⟩
  walk_at "go"
  refine ⟨_, _, _, r13.toNat, _, rfl, a13, rfl, by omega, hf, fun v iv => ?_⟩
  obtain rfl := iv.s
  walk_at "go"
  intro z14 H14 hz14 d14 b14
  walk_at "go"
  refine .mk ⟨f, z10, z14, rfl, rfl, rfl, hz10, hz14, ?_⟩
  walk_at "go"
  refine .mk ⟨f, z10, z14, rfl, rfl, rfl, hz10, hz14, fun H15 s15 => ?_⟩
  walk_at "go"
  refine .mk ⟨.int (foldF f z10 z14), .int _, .int _, rfl, (by show 0 < 15; decide), ?_⟩
  exact q H15

theorem tx_mk {K : PySem.W.Frag} {h : Heap} {mg : Str → Option Value} (X : K.In h) (G : h.Ns mainGlobals mg)
    {f1 : Addr} {od1 an1 : Option Addr} {sl1 : Array (Option Value)} {oc1 kV1 dc1 pm1 cd1 ct1 : Value}
    {f2 : Addr} {od2 an2 : Option Addr} {sl2 : Array (Option Value)} {oc2 kV2 dc2 pm2 cd2 ct2 : Value}
    {f3 : Addr} {od3 an3 : Option Addr} {sl3 : Array (Option Value)} {oc3 kV3 dc3 pm3 cd3 ct3 : Value}
    {f4 : Addr} {od4 an4 : Option Addr} {sl4 : Array (Option Value)} {oc4 kV4 dc4 pm4 cd4 ct4 : Value}
    {f5 : Addr} {od5 an5 : Option Addr} {sl5 : Array (Option Value)} {oc5 kV5 dc5 pm5 cd5 ct5 : Value}
    {f6 : Addr} {od6 an6 : Option Addr} {sl6 : Array (Option Value)} {oc6 kV6 dc6 pm6 cd6 ct6 : Value}
    {f7 : Addr} {od7 an7 : Option Addr} {sl7 : Array (Option Value)} {oc7 kV7 dc7 pm7 cd7 ct7 : Value}
    {f8 : Addr} {od8 an8 : Option Addr} {sl8 : Array (Option Value)} {oc8 kV8 dc8 pm8 cd8 ct8 : Value}
    {f9 : Addr} {od9 an9 : Option Addr} {sl9 : Array (Option Value)} {oc9 kV9 dc9 pm9 cd9 ct9 : Value}
    {f10 : Addr} {od10 an10 : Option Addr} {sl10 : Array (Option Value)} {oc10 kV10 dc10 pm10 cd10 ct10 : Value}
    {f11 : Addr} {od11 an11 : Option Addr} {sl11 : Array (Option Value)} {oc11 kV11 dc11 pm11 cd11 ct11 : Value}
    {f12 : Addr} {od12 an12 : Option Addr} {sl12 : Array (Option Value)} {oc12 kV12 dc12 pm12 cd12 ct12 : Value}
    {f13 : Addr} {od13 an13 : Option Addr} {sl13 : Array (Option Value)} {oc13 kV13 dc13 pm13 cd13 ct13 : Value}
    {f14 : Addr} {od14 an14 : Option Addr} {sl14 : Array (Option Value)} {oc14 kV14 dc14 pm14 cd14 ct14 : Value}
    {f15 : Addr} {od15 an15 : Option Addr} {sl15 : Array (Option Value)} {oc15 kV15 dc15 pm15 cd15 ct15 : Value}
    {t1 : Tok}
    (a1 : PySem.W.nsIn K mainGlobals "_law_dice" = some (some (.ref f1))) (l1 : K.lookup f1 = some ⟨oc1, od1, .func (PySem.W.fnOf "_law_dice" "_law_dice" (defArgs s__law_dice) (defBody s__law_dice) (defScope s__law_dice) .none kV1 dc1 pm1 an1 cd1 ct1), sl1⟩) (c1 : PySem.W.codeIn K cd1 "_law_dice" = true) (k1 : PySem.W.keepIn K (.ref f1) = true)
    (a2 : PySem.W.nsIn K mainGlobals "_law_next" = some (some (.ref f2))) (l2 : K.lookup f2 = some ⟨oc2, od2, .func (PySem.W.fnOf "_law_next" "_law_next" (defArgs s__law_next) (defBody s__law_next) (defScope s__law_next) .none kV2 dc2 pm2 an2 cd2 ct2), sl2⟩) (c2 : PySem.W.codeIn K cd2 "_law_next" = true) (k2 : PySem.W.keepIn K (.ref f2) = true)
    (a3 : PySem.W.nsIn K mainGlobals "_law_number" = some (some (.ref f3))) (l3 : K.lookup f3 = some ⟨oc3, od3, .func (PySem.W.fnOf "_law_number" "_law_number" (defArgs s__law_number) (defBody s__law_number) (defScope s__law_number) .none kV3 dc3 pm3 an3 cd3 ct3), sl3⟩) (c3 : PySem.W.codeIn K cd3 "_law_number" = true) (k3 : PySem.W.keepIn K (.ref f3) = true)
    (a4 : PySem.W.nsIn K mainGlobals "_law_deeds" = some (some (.ref f4))) (l4 : K.lookup f4 = some ⟨oc4, od4, .func (PySem.W.fnOf "_law_deeds" "_law_deeds" (defArgs s__law_deeds) (defBody s__law_deeds) (defScope s__law_deeds) .none kV4 dc4 pm4 an4 cd4 ct4), sl4⟩) (c4 : PySem.W.codeIn K cd4 "_law_deeds" = true) (k4 : PySem.W.keepIn K (.ref f4) = true)
    (a5 : PySem.W.nsIn K mainGlobals "_law_tests" = some (some (.ref f5))) (l5 : K.lookup f5 = some ⟨oc5, od5, .func (PySem.W.fnOf "_law_tests" "_law_tests" (defArgs s__law_tests) (defBody s__law_tests) (defScope s__law_tests) .none kV5 dc5 pm5 an5 cd5 ct5), sl5⟩) (c5 : PySem.W.codeIn K cd5 "_law_tests" = true) (k5 : PySem.W.keepIn K (.ref f5) = true)
    (a6 : PySem.W.nsIn K mainGlobals "holds" = some (some (.ref f6))) (l6 : K.lookup f6 = some ⟨oc6, od6, .func (PySem.W.fnOf "holds" "holds" (defArgs s_holds) (defBody s_holds) (defScope s_holds) .none kV6 dc6 pm6 an6 cd6 ct6), sl6⟩) (c6 : PySem.W.codeIn K cd6 "holds" = true) (k6 : PySem.W.keepIn K (.ref f6) = true)
    (a7 : PySem.W.nsIn K mainGlobals "all_hold" = some (some (.ref f7))) (l7 : K.lookup f7 = some ⟨oc7, od7, .func (PySem.W.fnOf "all_hold" "all_hold" (defArgs s_all_hold) (defBody s_all_hold) (defScope s_all_hold) .none kV7 dc7 pm7 an7 cd7 ct7), sl7⟩) (c7 : PySem.W.codeIn K cd7 "all_hold" = true) (k7 : PySem.W.keepIn K (.ref f7) = true)
    (a8 : PySem.W.nsIn K mainGlobals "_law_like" = some (some (.ref f8))) (l8 : K.lookup f8 = some ⟨oc8, od8, .func (PySem.W.fnOf "_law_like" "_law_like" (defArgs s__law_like) (defBody s__law_like) (defScope s__law_like) .none kV8 dc8 pm8 an8 cd8 ct8), sl8⟩) (c8 : PySem.W.codeIn K cd8 "_law_like" = true) (k8 : PySem.W.keepIn K (.ref f8) = true)
    (a9 : PySem.W.nsIn K mainGlobals "folded" = some (some (.ref f9))) (l9 : K.lookup f9 = some ⟨oc9, od9, .func (PySem.W.fnOf "folded" "folded" (defArgs s_folded) (defBody s_folded) (defScope s_folded) .none kV9 dc9 pm9 an9 cd9 ct9), sl9⟩) (c9 : PySem.W.codeIn K cd9 "folded" = true) (k9 : PySem.W.keepIn K (.ref f9) = true)
    (a10 : PySem.W.nsIn K mainGlobals "_law_folded" = some (some (.ref f10))) (l10 : K.lookup f10 = some ⟨oc10, od10, .func (PySem.W.fnOf "_law_folded" "_law_folded" (defArgs s__law_folded) (defBody s__law_folded) (defScope s__law_folded) .none kV10 dc10 pm10 an10 cd10 ct10), sl10⟩) (c10 : PySem.W.codeIn K cd10 "_law_folded" = true) (k10 : PySem.W.keepIn K (.ref f10) = true)
    (a11 : PySem.W.nsIn K mainGlobals "done" = some (some (.ref f11))) (l11 : K.lookup f11 = some ⟨oc11, od11, .func (PySem.W.fnOf "done" "done" (defArgs s_done) (defBody s_done) (defScope s_done) .none kV11 dc11 pm11 an11 cd11 ct11), sl11⟩) (c11 : PySem.W.codeIn K cd11 "done" = true) (k11 : PySem.W.keepIn K (.ref f11) = true)
    (a12 : PySem.W.nsIn K mainGlobals "all_done" = some (some (.ref f12))) (l12 : K.lookup f12 = some ⟨oc12, od12, .func (PySem.W.fnOf "all_done" "all_done" (defArgs s_all_done) (defBody s_all_done) (defScope s_all_done) .none kV12 dc12 pm12 an12 cd12 ct12), sl12⟩) (c12 : PySem.W.codeIn K cd12 "all_done" = true) (k12 : PySem.W.keepIn K (.ref f12) = true)
    (a13 : PySem.W.nsIn K mainGlobals "_law_all_done" = some (some (.ref f13))) (l13 : K.lookup f13 = some ⟨oc13, od13, .func (PySem.W.fnOf "_law_all_done" "_law_all_done" (defArgs s__law_all_done) (defBody s__law_all_done) (defScope s__law_all_done) .none kV13 dc13 pm13 an13 cd13 ct13), sl13⟩) (c13 : PySem.W.codeIn K cd13 "_law_all_done" = true) (k13 : PySem.W.keepIn K (.ref f13) = true)
    (a14 : PySem.W.nsIn K mainGlobals "_law_met" = some (some (.ref f14))) (l14 : K.lookup f14 = some ⟨oc14, od14, .func (PySem.W.fnOf "_law_met" "_law_met" (defArgs s__law_met) (defBody s__law_met) (defScope s__law_met) .none kV14 dc14 pm14 an14 cd14 ct14), sl14⟩) (c14 : PySem.W.codeIn K cd14 "_law_met" = true) (k14 : PySem.W.keepIn K (.ref f14) = true)
    (a15 : PySem.W.nsIn K mainGlobals "law" = some (some (.ref f15))) (l15 : K.lookup f15 = some ⟨oc15, od15, .func (PySem.W.fnOf "law" "law" (defArgs s_law) (defBody s_law) (defScope s_law) .none kV15 dc15 pm15 an15 cd15 ct15), sl15⟩) (c15 : PySem.W.codeIn K cd15 "law" = true) (k15 : PySem.W.keepIn K (.ref f15) = true)
    (i1 : PySem.W.nsIn K mainGlobals "REST" = some (some (.int 1000003 t1)))
    (z1 : PySem.W.nsIn K mainGlobals "all" = some none)
    (z2 : PySem.W.nsIn K mainGlobals "bool" = some none)
    (z3 : PySem.W.nsIn K mainGlobals "int" = some none)
    (z4 : PySem.W.nsIn K mainGlobals "isinstance" = some none)
    (z5 : PySem.W.nsIn K mainGlobals "len" = some none)
    (z6 : PySem.W.nsIn K mainGlobals "list" = some none)
    (z7 : PySem.W.nsIn K mainGlobals "max" = some none)
    (z8 : PySem.W.nsIn K mainGlobals "min" = some none)
    (z9 : PySem.W.nsIn K mainGlobals "range" = some none)
    (z10 : PySem.W.nsIn K mainGlobals "str" = some none)
    (z11 : PySem.W.nsIn K mainGlobals "sum" = some none)
    (z12 : PySem.W.nsIn K mainGlobals "tuple" = some none) :
    ∃ T : Tx K mg, T.law.f = f15 ∧ ∀ (s : Shared) (v : Value), BindsTo s T.law.fd ⟨[v], []⟩ [("_law_script", v)] := by
  have F1 := fun_mk (st := s__law_dice) l1 c1 k1
  have b1 := F1.binds (ps := ["_law_script"]) fun _ _ _ _ _ _ us hl => match us, hl with | [_], _ => rfl
  have F2 := fun_mk (st := s__law_next) l2 c2 k2
  have b2 := F2.binds (ps := ["_law_dice_here", "_law_many"]) fun _ _ _ _ _ _ us hl => match us, hl with | [_, _], _ => rfl
  have F3 := fun_mk (st := s__law_number) l3 c3 k3
  have b3 := F3.binds (ps := ["_law_d"]) fun _ _ _ _ _ _ us hl => match us, hl with | [_], _ => rfl
  have F4 := fun_mk (st := s__law_deeds) l4 c4 k4
  have b4 := F4.binds (ps := ["_law_d", "_law_kind"]) fun _ _ _ _ _ _ us hl => match us, hl with | [_, _], _ => rfl
  have F5 := fun_mk (st := s__law_tests) l5 c5 k5
  have b5 := F5.binds (ps := ["_law_d"]) fun _ _ _ _ _ _ us hl => match us, hl with | [_], _ => rfl
  have F6 := fun_mk (st := s_holds) l6 c6 k6
  have b6 := F6.binds (ps := ["test", "number"]) fun _ _ _ _ _ _ us hl => match us, hl with | [_, _], _ => rfl
  have F7 := fun_mk (st := s_all_hold) l7 c7 k7
  have b7 := F7.binds (ps := ["tests", "number"]) fun _ _ _ _ _ _ us hl => match us, hl with | [_, _], _ => rfl
  have F8 := fun_mk (st := s__law_like) l8 c8 k8
  have b8 := F8.binds (ps := ["_law_found", "_law_due"]) fun _ _ _ _ _ _ us hl => match us, hl with | [_, _], _ => rfl
  have F9 := fun_mk (st := s_folded) l9 c9 k9
  have b9 := F9.binds (ps := ["word", "one", "other"]) fun _ _ _ _ _ _ us hl => match us, hl with | [_, _, _], _ => rfl
  have F10 := fun_mk (st := s__law_folded) l10 c10 k10
  have b10 := F10.binds (ps := ["_law_word", "_law_one", "_law_other"]) fun _ _ _ _ _ _ us hl => match us, hl with | [_, _, _], _ => rfl
  have F11 := fun_mk (st := s_done) l11 c11 k11
  have b11 := F11.binds (ps := ["deed", "item"]) fun _ _ _ _ _ _ us hl => match us, hl with | [_, _], _ => rfl
  have F12 := fun_mk (st := s_all_done) l12 c12 k12
  have b12 := F12.binds (ps := ["deeds", "item"]) fun _ _ _ _ _ _ us hl => match us, hl with | [_, _], _ => rfl
  have F13 := fun_mk (st := s__law_all_done) l13 c13 k13
  have b13 := F13.binds (ps := ["_law_deeds_here", "_law_item"]) fun _ _ _ _ _ _ us hl => match us, hl with | [_, _], _ => rfl
  have F14 := fun_mk (st := s__law_met) l14 c14 k14
  have b14 := F14.binds (ps := ["_law_tests_here", "_law_number_here"]) fun _ _ _ _ _ _ us hl => match us, hl with | [_, _], _ => rfl
  have F15 := fun_mk (st := s_law) l15 c15 k15
  have b15 := F15.binds (ps := ["_law_script"]) fun _ _ _ _ _ _ us hl => match us, hl with | [_], _ => rfl
  exact ⟨{
    _law_dice := ⟨f1, _, F1, b1, PySem.W.mg_of X G a1⟩
    _law_next := ⟨f2, _, F2, b2, PySem.W.mg_of X G a2⟩
    _law_number := ⟨f3, _, F3, b3, PySem.W.mg_of X G a3⟩
    _law_deeds := ⟨f4, _, F4, b4, PySem.W.mg_of X G a4⟩
    _law_tests := ⟨f5, _, F5, b5, PySem.W.mg_of X G a5⟩
    holds := ⟨f6, _, F6, b6, PySem.W.mg_of X G a6⟩
    all_hold := ⟨f7, _, F7, b7, PySem.W.mg_of X G a7⟩
    _law_like := ⟨f8, _, F8, b8, PySem.W.mg_of X G a8⟩
    folded := ⟨f9, _, F9, b9, PySem.W.mg_of X G a9⟩
    _law_folded := ⟨f10, _, F10, b10, PySem.W.mg_of X G a10⟩
    done := ⟨f11, _, F11, b11, PySem.W.mg_of X G a11⟩
    all_done := ⟨f12, _, F12, b12, PySem.W.mg_of X G a12⟩
    _law_all_done := ⟨f13, _, F13, b13, PySem.W.mg_of X G a13⟩
    _law_met := ⟨f14, _, F14, b14, PySem.W.mg_of X G a14⟩
    law := ⟨f15, _, F15, b15, PySem.W.mg_of X G a15⟩
    c_REST := ⟨t1, PySem.W.mg_of X G i1⟩
    z_all := PySem.W.mg_none_of X G z1
    z_bool := PySem.W.mg_none_of X G z2
    z_int := PySem.W.mg_none_of X G z3
    z_isinstance := PySem.W.mg_none_of X G z4
    z_len := PySem.W.mg_none_of X G z5
    z_list := PySem.W.mg_none_of X G z6
    z_max := PySem.W.mg_none_of X G z7
    z_min := PySem.W.mg_none_of X G z8
    z_range := PySem.W.mg_none_of X G z9
    z_str := PySem.W.mg_none_of X G z10
    z_sum := PySem.W.mg_none_of X G z11
    z_tuple := PySem.W.mg_none_of X G z12
  }, rfl, fun s v => .of_eq rfl⟩
theorem walk {l : PySem.W.OpenLaw} {q : Program} {loose : List Str} {XP : (Str → Option Value) → Heap → Prop} {YP : World → Heap → Prop} {d : DefRec} {K : Params → PySem.W.Frag} (hn : l.most = some 63) (hdf : d.params.defaults = [])
    (hY : ∀ (w : World) (h : Heap), YP w h → (K w.params).In h) (hname : d.name = "law")
    (F : ∀ (w : World) (mg : Str → Option Value) (h : Heap), (K w.params).In h → h.Ns mainGlobals mg → ∃ (f : Addr) (T : Tx (K w.params) mg), T.law.f = f ∧ ∀ (s : Shared) (v : Value), BindsTo s T.law.fd ⟨[v], []⟩ [("_law_script", v)]) :
    PySem.W.WalkO q loose XP YP l.row.toRowW d [] (fun f vs => PySem.call f vs) := by
  refine L2.walk_of (n := 63) (k := 16) (x := "_law_script") (CX := fun _ => CX0) (sp := fun w => spLaw (K w.params)) hn (by decide) hdf ⟨rfl, by decide, by decide⟩ hY (fun w mg fa h KX G hmg => ?_) (fun _ _ a ns hl hO hS => ⟨a, ns, rfl, fz_of hO hS, hl, fun _ => rfl⟩) fun _ _ _ _ _ z => z
  obtain ⟨f, T, hT, hb⟩ := F w mg h KX G
  have e1 : f = fa := by
    have g := T.law.g
    rw [hname] at hmg
    rw [hT, hmg] at g
    cases g; rfl
  subst e1
  subst hT
  exact ⟨T.law.fd, hb, fun base _ _ => ok_law T⟩
end
end Wv
open PySem PySem.W PyProof.Rows
set_option maxRecDepth 100000 in
set_option maxHeartbeats 0 in
theorem PySem.Challenge.cw_weavepull_k01_deeds_and_tests_holds : PySem.Challenge.rw_weavepull_k01_deeds_and_tests.Holds := by
  w_on; o_law; k_head; (case hw => w_witness2)
  k_fill
  refine Wv.walk (l := PySem.Challenge.rw_weavepull_k01_deeds_and_tests) rfl rfl (fun w h Y => PySem.W.kIn_of Y) rfl ?F
  case F =>
    intro w mg h KX G
    refine' ⟨_, Wv.tx_mk KX G ?a1 ?l1 ?c1 ?k1 ?a2 ?l2 ?c2 ?k2 ?a3 ?l3 ?c3 ?k3 ?a4 ?l4 ?c4 ?k4 ?a5 ?l5 ?c5 ?k5 ?a6 ?l6 ?c6 ?k6 ?a7 ?l7 ?c7 ?k7 ?a8 ?l8 ?c8 ?k8 ?a9 ?l9 ?c9 ?k9 ?a10 ?l10 ?c10 ?k10 ?a11 ?l11 ?c11 ?k11 ?a12 ?l12 ?c12 ?k12 ?a13 ?l13 ?c13 ?k13 ?a14 ?l14 ?c14 ?k14 ?a15 ?l15 ?c15 ?k15 ?i1 ?z1 ?z2 ?z3 ?z4 ?z5 ?z6 ?z7 ?z8 ?z9 ?z10 ?z11 ?z12⟩
    (case a1 => k_is)
    (case l1 => k_is)
    (case c1 => k_is)
    (case k1 => k_is)
    (case a2 => k_is)
    (case l2 => k_is)
    (case c2 => k_is)
    (case k2 => k_is)
    (case a3 => k_is)
    (case l3 => k_is)
    (case c3 => k_is)
    (case k3 => k_is)
    (case a4 => k_is)
    (case l4 => k_is)
    (case c4 => k_is)
    (case k4 => k_is)
    (case a5 => k_is)
    (case l5 => k_is)
    (case c5 => k_is)
    (case k5 => k_is)
    (case a6 => k_is)
    (case l6 => k_is)
    (case c6 => k_is)
    (case k6 => k_is)
    (case a7 => k_is)
    (case l7 => k_is)
    (case c7 => k_is)
    (case k7 => k_is)
    (case a8 => k_is)
    (case l8 => k_is)
    (case c8 => k_is)
    (case k8 => k_is)
    (case a9 => k_is)
    (case l9 => k_is)
    (case c9 => k_is)
    (case k9 => k_is)
    (case a10 => k_is)
    (case l10 => k_is)
    (case c10 => k_is)
    (case k10 => k_is)
    (case a11 => k_is)
    (case l11 => k_is)
    (case c11 => k_is)
    (case k11 => k_is)
    (case a12 => k_is)
    (case l12 => k_is)
    (case c12 => k_is)
    (case k12 => k_is)
    (case a13 => k_is)
    (case l13 => k_is)
    (case c13 => k_is)
    (case k13 => k_is)
    (case a14 => k_is)
    (case l14 => k_is)
    (case c14 => k_is)
    (case k14 => k_is)
    (case a15 => k_is)
    (case l15 => k_is)
    (case c15 => k_is)
    (case k15 => k_is)
    (case i1 => k_is)
    (case z1 => k_is)
    (case z2 => k_is)
    (case z3 => k_is)
    (case z4 => k_is)
    (case z5 => k_is)
    (case z6 => k_is)
    (case z7 => k_is)
    (case z8 => k_is)
    (case z9 => k_is)
    (case z10 => k_is)
    (case z11 => k_is)
    (case z12 => k_is)
