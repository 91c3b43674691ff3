import PyProof.Rows.All
import Wide.All
import OpenK.AllK
import Wide.FinOn
import HandS.Base
import HandS.Call
import HandS.List
import HandS.Comp
import HandS.Ends
import HandS.Iter
import HandS.Walk
import HandS.Text
import HandS.Words
import HandS.WordsList
import HandS.Exc
import HandS.TryOnly
import HandS.ExcOwn
import HandS.WordsExc
import HandS.Dict
import HandS.ExcIs
import HandS.FStr
import HandS.Small
import HandS.IsInst
import HandS.More
import HandS.Codes
import KE.RegKIsAll
import PySem.Challenge.RW_kithwhole_k01_names_read_back
set_option Elab.async false
set_option linter.all false
set_option maxRecDepth 100000
set_option maxHeartbeats 2000000
namespace Kw
open PySem PySem.Spec PyProof.Rows L2
/-! ### calls of a def by what is known of it -/
structure CalX (P : Program) (w : World) (K : PySem.W.Frag) (mg : Str → Option Value) (base : Heap) (CX : CXT) (k : Nat) (x : Str) (sp : Sp) : Prop where
  ex : ∃ (f : Addr) (fd : FuncData) (ps : List Str), FnOk P w K mg base CX k f fd ps sp ∧ mg x = some (.ref f) ∧ PySem.W.keepIn K (.ref f) = true ∧ Binds K fd ps []
section
variable {X : Cx} {CX : CXT} {k j : Nat} {x : Str} {sp : Sp} {E : L2.St → XK} {p pos : Pos} {e : Expr} {es : List Expr} {t : TA}
theorem pe_cx (c : CalX X.prog X.w X.K X.mg X.base CX k x sp) (hr : Room k X.A) (hg : Gl X x) (hx : Passes CX X E0) (ha : PA X (e :: es) t)
    (hdb : (x == ("__debug__" : Str)) = false := by decide) (he : starEach (e :: es) X.env = (false, eval e X.env) :: starEach es X.env := by rfl) (hpl : (backTo pos (starEach es X.env)).any (·.1) = false := by rfl) :
    PE X (.Call (.Name x p) (e :: es) [] pos) (tCall sp [] E0 t) := by
  obtain ⟨f, fd, ps, F, hm, kp, b⟩ := c.ex
  exact pe_call F hr hg hm kp b .nil hx ha hdb he hpl
theorem pe_cxS (c : CalX X.prog X.w X.K X.mg X.base CX k x sp) (hr : Room k X.A) (hg : Gl X x) (hx : ∀ σ, PassesAt CX X σ (E σ)) (ha : PA X (e :: es) t)
    (hdb : (x == ("__debug__" : Str)) = false := by decide) (he : starEach (e :: es) X.env = (false, eval e X.env) :: starEach es X.env := by rfl) (hpl : (backTo pos (starEach es X.env)).any (·.1) = false := by rfl) :
    PE X (.Call (.Name x p) (e :: es) [] pos) (tCallS sp E t) := by
  obtain ⟨f, fd, ps, F, hm, kp, b⟩ := c.ex
  exact pe_callS F hr hg hm kp b hx ha hdb he hpl
end
/-! ### rules in a plainer form -/
section
variable {X : Cx}
theorem CallR.imp {f : Value} {r r' : List V → Hp → VK → Prop} (h : CallR X f r) (i : ∀ xs H Q, r' xs H Q → r xs H Q) : CallR X f r' :=
  fun pins s σ H xs us Q I v q => h pins s σ H xs us Q I v (i _ _ _ q)
theorem call_intI : CallR X (.type "int") (fun xs H Q => ∃ i, xs = [.int i] ∧ Q (.int i) H) :=
  CallR.imp call_int1 fun _ _ _ h => .inl h
theorem call_lenL : CallR X (.builtin "len") (fun xs H Q => ∃ p ys, xs = [.ref p] ∧ SqL X.K H p ys ∧ Q (.int ys.length) H) :=
  CallR.imp call_len_seq fun _ _ _ ⟨p, ys, a, b, c⟩ => ⟨p, ys, a, .inl b, c⟩
theorem call_lenT : CallR X (.builtin "len") (fun xs H Q => ∃ p ys, xs = [.ref p] ∧ SqT X.K H p ys ∧ Q (.int ys.length) H) :=
  CallR.imp call_len_seq fun _ _ _ ⟨p, ys, a, b, c⟩ => ⟨p, ys, a, .inr b, c⟩
/-- a text that is repeated -/
def repS (z : Str) (k : Nat) : Str := ⟨(List.replicate k z.cps).foldl (· ++ ·) #[]⟩
theorem rep_size (z : Array Nat) : ∀ (k : Nat) (a : Array Nat), ((List.replicate k z).foldl (· ++ ·) a).size = a.size + k * z.size
  | 0, a => by simp
  | k + 1, a => by
    rw [List.replicate_succ, List.foldl_cons, rep_size z k, Array.size_append, Nat.succ_mul]
    omega
theorem repS_length (z : Str) (k : Nat) : (repS z k).length = k * z.length := by
  show ((List.replicate k z.cps).foldl (· ++ ·) #[]).size = _
  rw [rep_size]
  show 0 + k * z.cps.size = k * z.cps.size
  omega
theorem op_mul_str : OpR X (binaryOp .Mult) (fun x y H Q => ∃ z k, x = .str z ∧ y = .int k ∧ 0 ≤ k ∧ k ≤ 1000 ∧ z.length ≤ 1000 ∧ ∀ r : Str, r.length = k.toNat * z.length → Q (.str r) H) := by
  intro pins s σ H x y v u Q I rx ry h
  obtain ⟨z, k, rfl, rfl, h0, h1, hz, q⟩ := h
  obtain ⟨t, rfl⟩ := rx
  obtain ⟨t', rfl⟩ := ry
  have hm : z.length * k.toNat ≤ 1000 * 1000 := Nat.mul_le_mul hz (by omega)
  have hs : z.length * k.toNat ≤ sizeLine := Nat.le_trans hm (by rw [sizeLine_eq]; decide)
  refine PySem.P.mul_str ?_ ?_ ?_ ?_
  · have a : ¬ k < -(2 ^ 63 : Int) := by omega
    have b : ¬ k ≥ 2 ^ 63 := by omega
    rw [decide_eq_false a, decide_eq_false b]
    rfl
  · intro hk _
    have hk : (2 ^ 63 - 1 : Int) / k ≥ 1000 := by
      have : (1000 : Int) * k ≤ 2 ^ 63 - 1 := by omega
      exact (Int.le_ediv_iff_mul_le (by omega)).mpr this
    have : (z.length : Int) ≤ 1000 := by omega
    omega
  · intro _ _
    show decide (z.length * k.toNat > sizeLine) = false
    exact decide_eq_false (by omega)
  · by_cases c : k < 1
    · rw [if_pos c]
      exact ⟨by show (0 : Nat) ≤ sizeLine; exact Nat.zero_le _, .str Str.empty, H, I.tok _, ⟨_, rfl⟩, q _ (by
        have : k.toNat = 0 := by omega
        rw [this]
        show (0 : Nat) = _
        omega)⟩
    · rw [if_neg c]
      by_cases d : (k == 1 || z.length == 0) = true
      · rw [if_pos d]
        refine ⟨.str z, H, I.tok _, ⟨_, rfl⟩, q _ ?_⟩
        rw [Bool.or_eq_true, beq_iff_eq, beq_iff_eq] at d
        rcases d with d | d
        · subst d
          show z.length = 1 * z.length
          omega
        · rw [d]
          omega
      · rw [if_neg d]
        refine ⟨?_, .str (repS z k.toNat), H, I.tok _, ⟨_, rfl⟩, q _ (repS_length z _)⟩
        show (repS z k.toNat).length ≤ sizeLine
        rw [repS_length, Nat.mul_comm]
        exact hs
end
/-! ### heaps, lists -/
theorem same_upd {H H' : Hp} {l : Addr} {o : HO} (hl : H l = none) (s : Same H H') : Same H (upd H' l o) := fun b u e => by
  rw [upd_ne (ne_of_none e hl)]
  exact s b u e
theorem same_new {H H' : Hp} {l : Addr} {o : HO} (hl : H' l = none) (s : Same H H') : Same H (upd H' l o) := same_upd (s.free hl) s
theorem int_at {ns : List Int} {i : Nat} {y : V} (h : (ns.map V.int)[i]? = some y) : ∃ z, ns[i]? = some z ∧ y = V.int z := by
  rw [List.getElem?_map] at h
  cases e : ns[i]? with
  | none =>
    rw [e] at h
    cases h
  | some z =>
    rw [e] at h
    exact ⟨z, rfl, (Option.some.inj h).symm⟩
theorem at_int {ns : List Int} {i : Nat} {z : Int} (h : ns[i]? = some z) : (ns.map V.int)[i]? = some (V.int z) := by
  rw [List.getElem?_map, h]
  rfl
theorem some_at {α : Type} {l : List α} {i : Nat} (h : i < l.length) : ∃ x, l[i]? = some x := ⟨l[i], List.getElem?_eq_getElem h⟩
theorem sz_small {n : Nat} (h : n ≤ 16000000) : n ≤ sizeLine := by
  rw [sizeLine_eq]
  omega
theorem lt_small {n : Nat} (h : n ≤ 16000000) : n < sizeLine := by
  rw [sizeLine_eq]
  omega
theorem map_snoc {α β : Type} {f : α → β} {l : List α} {x : α} : l.map f ++ [f x] = (l ++ [x]).map f := by
  rw [List.map_append]
  rfl
theorem all_snoc {α : Type} {p : α → Prop} {l : List α} {x : α} (h : ∀ y ∈ l, p y) (hx : p x) : ∀ y ∈ l ++ [x], p y := fun y hy => by
  rcases List.mem_append.mp hy with h1 | h1
  · exact h y h1
  · rw [List.mem_singleton.mp h1]
    exact hx
theorem ite_some {c : Prop} [Decidable c] {A B : Prop} (h1 : c → A) (h2 : ¬ c → B) : if (decide c) = true then A else B := ite2 (fun h => h1 (of_decide_eq_true h)) fun h => h2 (fun e => h (decide_eq_true e))
theorem ite_not {c : Prop} [Decidable c] {A B : Prop} (h1 : ¬ c → A) (h2 : c → B) : if (!decide c) = true then A else B := by
  by_cases e : c
  · rw [decide_eq_true e]
    exact h2 e
  · rw [decide_eq_false e]
    exact h1 e
theorem int_eq {i j : Int} {A B : Prop} (h1 : i = j → A) (h2 : i ≠ j → B) : if (decide (V.int i = V.int j)) = true then A else B :=
  ite_some (fun e => h1 (V.int.inj e)) fun e => h2 fun q => e (by rw [q])
/-! ### lists and tuples alike -/
def Sq (K : PySem.W.Frag) (H : Hp) (a : Addr) (xs : List V) : Prop := SqL K H a xs ∨ SqT K H a xs
section
variable {X : Cx}
theorem IxR.imp {r r' : R2} (h : IxR X r) (i : ∀ x y H Q, r' x y H Q → r x y H Q) : IxR X r' :=
  fun value slice pins s σ H x y v u Q I rx ry q hs => h value slice pins s σ H x y v u Q I rx ry (i _ _ _ _ q) hs
theorem ix_sq : IxR X (fun x y H Q => ∃ p xs i v, x = .ref p ∧ y = .int i ∧ Sq X.K H p xs ∧ atI xs i = some v ∧ Q v H) :=
  IxR.imp ix_seq fun x y H Q ⟨p, xs, i, v, e1, e2, hs, ha, q⟩ => by
    rcases hs with hs | hs
    · exact .inl ⟨p, xs, i, v, e1, e2, hs, ha, q⟩
    · exact .inr (.inl ⟨p, xs, i, v, e1, e2, hs, ha, q⟩)
theorem some_at0 {α : Type} {l : List α} {i : Nat} (h : i < l.length) : ∃ x, l[i]? = some x := ⟨l[i], List.getElem?_eq_getElem h⟩
theorem atI_pos {α : Type} {xs : List α} {i : Int} {v : α} (h0 : 0 ≤ i) (h : xs[i.toNat]? = some v) : atI xs i = some v := by
  have e : i = ((i.toNat : Nat) : Int) := by omega
  rw [e]
  exact atI_nat h
theorem ix_listA : IxR X (fun x y H Q => ∃ p xs i, x = .ref p ∧ y = .int i ∧ SqL X.K H p xs ∧ 0 ≤ i ∧ i < xs.length ∧ ∀ v, xs[i.toNat]? = some v → Q v H) :=
  IxR.imp ix_list fun x y H Q ⟨p, xs, i, e1, e2, hs, h0, h1, q⟩ => by
    obtain ⟨v, hv⟩ := some_at0 (l := xs) (i := i.toNat) (by omega)
    exact ⟨p, xs, i, v, e1, e2, hs, atI_pos h0 hv, q v hv⟩
theorem ix_tupA : IxR X (fun x y H Q => ∃ p xs i, x = .ref p ∧ y = .int i ∧ SqT X.K H p xs ∧ 0 ≤ i ∧ i < xs.length ∧ ∀ v, xs[i.toNat]? = some v → Q v H) :=
  IxR.imp ix_tup fun x y H Q ⟨p, xs, i, e1, e2, hs, h0, h1, q⟩ => by
    obtain ⟨v, hv⟩ := some_at0 (l := xs) (i := i.toNat) (by omega)
    exact ⟨p, xs, i, v, e1, e2, hs, atI_pos h0 hv, q v hv⟩
theorem ix_strA : IxR X (fun x y H Q => ∃ z i, x = .str z ∧ y = .int i ∧ z.length ≤ sizeLine ∧ 0 ≤ i ∧ i < z.length ∧ ∀ c, z.cps.toList[i.toNat]? = some c → Q (.str ⟨#[c]⟩) H) :=
  IxR.imp ix_str fun x y H Q ⟨z, i, e1, e2, hs, h0, h1, q⟩ => by
    obtain ⟨c, hc⟩ := some_at0 (l := z.cps.toList) (i := i.toNat) (by rw [Array.length_toList]; show i.toNat < z.length; omega)
    exact ⟨z, i, c, e1, e2, hs, atI_pos h0 hc, q c hc⟩
theorem call_lenS : CallR X (.builtin "len") (fun xs H Q => ∃ p ys, xs = [.ref p] ∧ Sq X.K H p ys ∧ Q (.int ys.length) H) := call_len_seq
end
/-! ### data as a whole -/
inductive D where
  | non
  | bl (b : Bool)
  | int (i : Int)
  | str (z : Str)
  | seq (l : Bool) (xs : List D)
def seqO (l : Bool) (xs : List V) : HO := if l = true then .lst xs else .tup xs
mutual
def At (H : Hp) : D → V → Prop
  | .non, v => v = .non
  | .bl b, v => v = .bl b
  | .int i, v => v = .int i
  | .str z, v => v = .str z
  | .seq l ds, v => ∃ (a : Addr) (xs : List V), v = .ref a ∧ H a = some (seqO l xs) ∧ AtL H ds xs ∧ ds.length ≤ 16000000
def AtL (H : Hp) : List D → List V → Prop
  | [], xs => xs = []
  | d :: ds, xs => ∃ (x : V) (ys : List V), xs = x :: ys ∧ At H d x ∧ AtL H ds ys
end
mutual
def D.dep : D → Nat
  | .seq _ ds => depL ds + 1
  | _ => 0
def depL : List D → Nat
  | [] => 0
  | d :: ds => max d.dep (depL ds)
end
mutual
theorem At.same {H H' : Hp} (s : Same H H') : ∀ (d : D) (v : V), At H d v → At H' d v
  | .non, _, h => h
  | .bl _, _, h => h
  | .int _, _, h => h
  | .str _, _, h => h
  | .seq l ds, v, h => by
    obtain ⟨a, xs, e, ha, hl, z⟩ := h
    exact ⟨a, xs, e, s _ _ ha, AtL.same s ds xs hl, z⟩
theorem AtL.same {H H' : Hp} (s : Same H H') : ∀ (ds : List D) (xs : List V), AtL H ds xs → AtL H' ds xs
  | [], _, h => h
  | d :: ds, xs, h => by
    obtain ⟨x, ys, e, h1, h2⟩ := h
    exact ⟨x, ys, e, At.same s d x h1, AtL.same s ds ys h2⟩
end
theorem AtL.length {H : Hp} : ∀ {ds : List D} {xs : List V}, AtL H ds xs → xs.length = ds.length
  | [], xs, h => by
    rw [show xs = [] from h]
    rfl
  | d :: ds, xs, h => by
    obtain ⟨x, ys, e, _, h2⟩ := h
    rw [e, List.length_cons, List.length_cons, AtL.length h2]
theorem AtL.get {H : Hp} : ∀ {ds : List D} {xs : List V} {i : Nat} {d : D}, AtL H ds xs → ds[i]? = some d → ∃ x, xs[i]? = some x ∧ At H d x
  | [], xs, i, d, h, e => by simp at e
  | c :: ds, xs, 0, d, h, e => by
    obtain ⟨x, ys, ex, h1, _⟩ := h
    have q : c = d := by simpa using e
    subst q
    exact ⟨x, by rw [ex]; rfl, h1⟩
  | c :: ds, xs, i + 1, d, h, e => by
    obtain ⟨x, ys, ex, _, h2⟩ := h
    obtain ⟨z, hz, hA⟩ := AtL.get (i := i) (d := d) h2 (by simpa using e)
    exact ⟨z, by rw [ex]; simpa using hz, hA⟩
theorem dep_get : ∀ {ds : List D} {i : Nat} {d : D}, ds[i]? = some d → d.dep ≤ depL ds
  | [], i, d, e => by simp at e
  | c :: ds, 0, d, e => by
    have q : c = d := by simpa using e
    subst q
    show c.dep ≤ max c.dep (depL ds)
    exact Nat.le_max_left _ _
  | c :: ds, i + 1, d, e => by
    have q := dep_get (ds := ds) (i := i) (d := d) (by simpa using e)
    exact Nat.le_trans q (by show depL ds ≤ max c.dep (depL ds); exact Nat.le_max_right _ _)
def D.ty : D → String
  | .non => "NoneType"
  | .bl _ => "bool"
  | .int _ => "int"
  | .str _ => "str"
  | .seq l _ => if l = true then "list" else "tuple"
theorem At.ty {K : PySem.W.Frag} {H : Hp} {v : V} : ∀ {d : D}, At H d v → TyX K H v (.type d.ty)
  | .non, h => by
    rw [show v = .non from h]
    exact .base .non
  | .bl b, h => by
    rw [show v = .bl b from h]
    exact .base (.bl b)
  | .int b, h => by
    rw [show v = .int b from h]
    exact .base (.int b)
  | .str b, h => by
    rw [show v = .str b from h]
    exact .base (.str b)
  | .seq true ds, h => by
    obtain ⟨a, xs, e, ha, _⟩ := h
    rw [e]
    exact .base (.lst ha)
  | .seq false ds, h => by
    obtain ⟨a, xs, e, ha, _⟩ := h
    rw [e]
    exact .base (.tup ha)
theorem sq_of {K : PySem.W.Frag} {H : Hp} {a : Addr} {l : Bool} {xs : List V} (h : H a = some (seqO l xs)) : Sq K H a xs := by
  cases l with
  | true => exact .inl (SqL.of h)
  | false => exact .inr (SqT.of h)
/-- a def by what is known of it -/
structure Fn (K : PySem.W.Frag) (mg : Str → Option Value) (x : Str) (st : Stmt) (ps : List Str) (f : Addr) (fd : FuncData) : Prop where
  fn : Fun K x x st f fd
  mgf : mg x = some (.ref f)
  bd : Binds K fd ps []
theorem Fn.cal {P : Program} {w : World} {K : PySem.W.Frag} {mg : Str → Option Value} {base : Heap} {CX : CXT} {k : Nat} {x : Str} {st : Stmt} {ps : List Str} {f : Addr} {fd : FuncData} {sp : Sp} (F : Fn K mg x st ps f fd)
    (h : FnOk P w K mg base CX k f fd ps sp) : CalX P w K mg base CX k x sp := ⟨f, fd, ps, h, F.mgf, F.fn.kp, F.bd⟩
theorem CalX.mono {P : Program} {w : World} {K : PySem.W.Frag} {mg : Str → Option Value} {base : Heap} {CX : CXT} {j k : Nat} {x : Str} {sp : Sp} (c : CalX P w K mg base CX j x sp) (h : j ≤ k) : CalX P w K mg base CX k x sp := by
  obtain ⟨f, fd, ps, F, a, b, d⟩ := c.ex
  exact ⟨f, fd, ps, F.mono h, a, b, d⟩
theorem CalX.imp {P : Program} {w : World} {K : PySem.W.Frag} {mg : Str → Option Value} {base : Heap} {CX : CXT} {k : Nat} {x : Str} {sp sp' : Sp} (c : CalX P w K mg base CX k x sp) (h : ∀ vs H Q E, sp' vs H Q E → sp vs H Q E) : CalX P w K mg base CX k x sp' := by
  obtain ⟨f, fd, ps, F, a, b, d⟩ := c.ex
  exact ⟨f, fd, ps, F.imp h, a, b, d⟩
theorem ixN_pos {n : Nat} {i : Int} (h0 : 0 ≤ i) (h1 : i < n) : ixN n i = some i.toNat := by
  unfold ixN
  rw [if_pos h0, if_pos h1]
theorem all_set {α : Type} {p : α → Prop} {l : List α} {i : Nat} {x : α} (h : ∀ y ∈ l, p y) (hx : p x) : ∀ y ∈ l.set i x, p y := fun y hy => by
  rcases List.mem_or_eq_of_mem_set hy with h1 | h1
  · exact h y h1
  · rw [h1]
    exact hx
theorem str_at {ns : List Str} {i : Nat} {y : V} (h : (ns.map V.str)[i]? = some y) : ∃ z, z ∈ ns ∧ ns[i]? = some z ∧ y = V.str z := by
  rw [List.getElem?_map] at h
  cases e : ns[i]? with
  | none =>
    rw [e] at h
    cases h
  | some z =>
    rw [e] at h
    exact ⟨z, List.mem_of_getElem? e, rfl, (Option.some.inj h).symm⟩
/-- a comprehension of one for: the new list, if each element's value is told -/
theorem lc_map {J : It} {n : Nat} {G : Hp → Prop} {Y : Nat → Hp → V → Hp → Prop} (w : L2.Walk J n G Y) {j : Nat} {te : TE} {σ : L2.St} {H1 : Hp} {D : Addr} {Qd : Hp → Prop} (hD : H1 D = none) (hn : n ≤ 16000000) (f : Nat → V)
    (hG : ∀ H, Same H1 H → G H)
    (hs : ∀ i x H H', i < n → Same H1 H → Y i H x H' → Same H H' ∧ ∀ Q : VK, (∀ H2, Same H' H2 → Q (f i) H2) → te ((σ.set j none).set j (some x)) H' Q)
    (hd : ∀ H, Same H1 H → H D = some (.lst ((List.range n).map f)) → Qd H) :
    ∃ W : Nat → Nat → Hp → Prop, (∃ m, W 0 m (upd H1 D (.lst []))) ∧ ∀ i m H, W i m H →
      (J.stop i H ∧ Qd H) ∨ (J.go i H ∧ ∃ Nx : Hp → Prop, (∀ H', Nx H' → ∃ m', m' < m ∧ W (i + 1) m' H') ∧ ∀ x H', J.yld i H x H' → gName j x (wipe σ [j]) H' fun σ2 H2 => wipe σ2 [j] = wipe σ [j] ∧ tYes σ2 H2 fun b H3 =>
        if b = true then te σ2 H3 fun y H4 => ∃ acc, H4 D = some (.lst acc) ∧ acc.length < sizeLine ∧ Nx (upd H4 D (.lst (acc ++ [y]))) else Nx H3) := by
  have hn2 : n < sizeLine := by
    rw [sizeLine_eq]
    omega
  refine lc_it w (fun i H => Same H1 H ∧ H D = some (.lst ((List.range i).map f))) ⟨same_new hD (Same.refl _), upd_same⟩ (fun i H _ h => hG H h.1) ?_ (fun H h => hd H h.1 h.2)
  rintro i x H H' hi ⟨s1, hd1⟩ y
  obtain ⟨s2, q⟩ := hs i x H H' hi s1 y
  refine ⟨by show (((σ.set j none).set j (some x)).set j none) = σ.set j none; rw [List.set_set, List.set_set], ?_⟩
  refine iteT (A := te ((σ.set j none).set j (some x)) H' _) (B := Same H1 H' ∧ H' D = some (.lst ((List.range (i + 1)).map f))) ?_
  refine q _ fun H2 s3 => ⟨_, s3 _ _ (s2 _ _ hd1), by rw [List.length_map, List.length_range]; omega, same_upd hD (s1.trans (s2.trans s3)), ?_⟩
  rw [upd_same, List.range_succ, List.map_append]
  rfl
theorem range_map {α : Type} (xs : List α) (f : Nat → V) (g : α → V) (h : ∀ i x, xs[i]? = some x → f i = g x) : (List.range xs.length).map f = xs.map g := by
  apply List.ext_getElem?
  intro i
  rw [List.getElem?_map, List.getElem?_map]
  by_cases hi : i < xs.length
  · rw [List.getElem?_range hi, List.getElem?_eq_getElem hi]
    exact congrArg some (h i _ (List.getElem?_eq_getElem hi))
  · rw [List.getElem?_eq_none (by rw [List.length_range]; omega), List.getElem?_eq_none (by omega)]
    rfl
/-- isinstance of the error that a suite holds: its class is D's -/
theorem call_isE2 {X : Cx} {a D : Addr} {oe : Obj} {cls : Value} {d : Option Addr} {pn : List (Addr × Obj)} (C : ExcC X.K D) (hz : Zc cls d oe) (hf : ∃ vs, oe.data = .fields vs) :
    CallR (X.suite a ((a, oe) :: pn)) (.builtin "isinstance") (fun xs H Q => cls = .ref D ∧ d = none ∧ rIsE X.K D a xs H Q) := by
  intro pins s σ H xs us Q I r h
  obtain ⟨e1, e2, q⟩ := h
  subst e1 e2
  exact call_isE C hz hf pins s σ H xs us Q I r q
end Kw
set_option Elab.async false
set_option linter.all false
set_option maxRecDepth 100000
set_option maxHeartbeats 2000000
namespace Kw
open PySem PySem.Spec PyProof.Rows L2
def top (i : Nat) : Stmt := PySem.Challenge.pw_kithwhole_k01_names_read_back.main.body.getD i (.Pass ⟨0, 0, 0, 0⟩)
abbrev s_format_name : Stmt := top 9
abbrev N_format_name : List Str := ["name", "part"]
theorem sc_format_name : FnScope N_format_name ["name"] (defScope s_format_name) := ⟨rfl, rfl, rfl, by decide +kernel, rfl, by decide +kernel, by decide +kernel⟩
abbrev s_parse_name : Stmt := top 10
abbrev N_parse_name : List Str := ["text"]
theorem sc_parse_name : FnScope N_parse_name ["text"] (defScope s_parse_name) := ⟨rfl, rfl, rfl, by decide +kernel, rfl, by decide +kernel, by decide +kernel⟩
abbrev s_parse_spot : Stmt := top 11
abbrev N_parse_spot : List Str := ["text"]
theorem sc_parse_spot : FnScope N_parse_spot ["text"] (defScope s_parse_spot) := ⟨rfl, rfl, rfl, by decide +kernel, rfl, by decide +kernel, by decide +kernel⟩
abbrev s_parse_mark : Stmt := top 12
abbrev N_parse_mark : List Str := ["text"]
theorem sc_parse_mark : FnScope N_parse_mark ["text"] (defScope s_parse_mark) := ⟨rfl, rfl, rfl, by decide +kernel, rfl, by decide +kernel, by decide +kernel⟩
abbrev s_parse : Stmt := top 13
abbrev N_parse : List Str := ["text", "length", "parts", "numbers", "part"]
theorem sc_parse : FnScope N_parse ["text", "length"] (defScope s_parse) := ⟨rfl, rfl, rfl, by decide +kernel, rfl, by decide +kernel, by decide +kernel⟩
abbrev s_is_part : Stmt := top 14
abbrev N_is_part : List Str := ["part", "character"]
theorem sc_is_part : FnScope N_is_part ["part"] (defScope s_is_part) := ⟨rfl, rfl, rfl, by decide +kernel, rfl, by decide +kernel, by decide +kernel⟩
abbrev s_law_mix : Stmt := top 16
abbrev N_law_mix : List Str := ["cell", "k", "value"]
theorem sc_law_mix : FnScope N_law_mix ["cell", "k"] (defScope s_law_mix) := ⟨rfl, rfl, rfl, by decide +kernel, rfl, by decide +kernel, by decide +kernel⟩
abbrev s_law_draws : Stmt := top 17
abbrev N_law_draws : List Str := ["script", "draws", "k", "cell", "place"]
theorem sc_law_draws : FnScope N_law_draws ["script"] (defScope s_law_draws) := ⟨rfl, rfl, rfl, by decide +kernel, rfl, by decide +kernel, by decide +kernel⟩
abbrev s_law_at : Stmt := top 18
abbrev N_law_at : List Str := ["draws", "index"]
theorem sc_law_at : FnScope N_law_at ["draws", "index"] (defScope s_law_at) := ⟨rfl, rfl, rfl, by decide +kernel, rfl, by decide +kernel, by decide +kernel⟩
abbrev s_law_is_integer : Stmt := top 19
abbrev N_law_is_integer : List Str := ["actual"]
theorem sc_law_is_integer : FnScope N_law_is_integer ["actual"] (defScope s_law_is_integer) := ⟨rfl, rfl, rfl, by decide +kernel, rfl, by decide +kernel, by decide +kernel⟩
abbrev s_law_same : Stmt := top 20
abbrev N_law_same : List Str := ["actual", "expected", "k"]
theorem sc_law_same : FnScope N_law_same ["actual", "expected"] (defScope s_law_same) := ⟨rfl, rfl, rfl, by decide +kernel, rfl, by decide +kernel, by decide +kernel⟩
abbrev s_law_part : Stmt := top 21
abbrev N_law_part : List Str := ["draws", "index", "value", "k", "limit"]
theorem sc_law_part : FnScope N_law_part ["draws", "index"] (defScope s_law_part) := ⟨rfl, rfl, rfl, by decide +kernel, rfl, by decide +kernel, by decide +kernel⟩
abbrev s_law_parts : Stmt := top 22
abbrev N_law_parts : List Str := ["draws", "parts", "k"]
theorem sc_law_parts : FnScope N_law_parts ["draws"] (defScope s_law_parts) := ⟨rfl, rfl, rfl, by decide +kernel, rfl, by decide +kernel, by decide +kernel⟩
abbrev s_law_line : Stmt := top 23
abbrev N_law_line : List Str := ["draws", "parts", "words", "fault", "place", "at", "signs", "char", "part"]
theorem sc_law_line : FnScope N_law_line ["draws", "parts"] (defScope s_law_line) := ⟨rfl, rfl, rfl, by decide +kernel, rfl, by decide +kernel, by decide +kernel⟩
abbrev s_law_thing : Stmt := top 24
abbrev N_law_thing : List Str := ["draws", "line", "choice"]
theorem sc_law_thing : FnScope N_law_thing ["draws", "line"] (defScope s_law_thing) := ⟨rfl, rfl, rfl, by decide +kernel, rfl, by decide +kernel, by decide +kernel⟩
abbrev s_law_read : Stmt := top 25
abbrev N_law_read : List Str := ["line", "count", "words", "word", "parts", "char"]
theorem sc_law_read : FnScope N_law_read ["line", "count"] (defScope s_law_read) := ⟨rfl, rfl, rfl, by decide +kernel, rfl, by decide +kernel, by decide +kernel⟩
abbrev s_law_parse : Stmt := top 26
abbrev N_law_parse : List Str := ["line", "count"]
theorem sc_law_parse : FnScope N_law_parse ["line", "count"] (defScope s_law_parse) := ⟨rfl, rfl, rfl, by decide +kernel, rfl, by decide +kernel, by decide +kernel⟩
abbrev s_law_refuses : Stmt := top 27
abbrev N_law_refuses : List Str := ["line", "count", "e"]
theorem sc_law_refuses : FnScope N_law_refuses ["line", "count"] (defScope s_law_refuses) := ⟨rfl, rfl, rfl, by decide +kernel, rfl, by decide +kernel, by decide +kernel⟩
abbrev s_law_reads : Stmt := top 28
abbrev N_law_reads : List Str := ["line", "count", "expected", "actual"]
theorem sc_law_reads : FnScope N_law_reads ["line", "count"] (defScope s_law_reads) := ⟨rfl, rfl, rfl, by decide +kernel, rfl, by decide +kernel, by decide +kernel⟩
abbrev s_law : Stmt := top 29
abbrev N_law : List Str := ["script", "draws", "parts", "written", "line", "count", "part"]
theorem sc_law : FnScope N_law ["script"] (defScope s_law) := ⟨rfl, rfl, rfl, by decide +kernel, rfl, by decide +kernel, by decide +kernel⟩
/-- what the top leaves -/
structure Txt (K : PySem.W.Frag) (mg : Str → Option Value) : Prop where
  n_int : mg "int" = none
  n_str : mg "str" = none
  n_len : mg "len" = none
  n_min : mg "min" = none
  n_max : mg "max" = none
  n_all : mg "all" = none
  n_bool : mg "bool" = none
  n_list : mg "list" = none
  n_tuple : mg "tuple" = none
  n_range : mg "range" = none
  n_isinstance : mg "isinstance" = none
  g_DIGITS : ∃ u, mg "DIGITS" = some u ∧ RelV (.str "0123456789") u
  g_MOST_DIGITS : ∃ u, mg "MOST_DIGITS" = some u ∧ RelV (.int 15) u
/-- the error classes: Kithwhole's own ones over ValueError -/
structure TxtX (K : PySem.W.Frag) (mg : Str → Option Value) (CN : Addr) : Prop extends Txt K mg where
  n_ValueError : mg "ValueError" = none
  m_InvalidName : mg "InvalidName" = some (.ref CN)
  x_InvalidName : PySem.W.excIn K CN [.type "ValueError", .type "Exception", .type "BaseException", .type "object"] "ValueError.__new__" = true
  k_InvalidName : PySem.W.keepIn K (.ref CN) = true
  b_InvalidName : PySem.W.subIn K (.ref CN) (.type "BaseException") = some true
  t_InvalidName : PySem.W.typeIn K (.ref CN) = some (.type "type")
  e_InvalidName : PySem.W.exmOne K (.ref CN) (.ref CN) = some true
  ec : ExcC K CN
  q_ValueError : PySem.W.kitOne K (.ref CN) (.type "ValueError") = some true
/-- draws: few, each from 0 to 9972 -/
def Dr (ns : List Int) : Prop := ns.length ≤ 3780 ∧ ∀ n ∈ ns, 0 ≤ n ∧ n < 9973
def sp_mix : Sp := fun vs H Q _ => ∃ c k : Int, vs = [.int c, .int k] ∧ ∀ v : Int, 0 ≤ v → v < 9973 → Q (.int v) H
def sp_draws (K : PySem.W.Frag) : Sp := fun vs H Q _ => ∃ (a : Addr) (ns : List Int), vs = [.ref a] ∧ SqL K H a (ns.map V.int) ∧ ns.length ≤ 63 ∧
  ∀ (H' : Hp) (p : Addr) (ds : List Int), Same H H' → H' p = some (.lst (ds.map V.int)) → Dr ds → Q (.ref p) H'
def sp_at (K : PySem.W.Frag) : Sp := fun vs H Q _ => ∃ (a : Addr) (ds : List Int) (i : Int), vs = [.ref a, .int i] ∧ SqL K H a (ds.map V.int) ∧ Dr ds ∧ 0 ≤ i ∧
  ∀ v : Int, 0 ≤ v → v < 9973 → Q (.int v) H
section
variable {P : Program} {w : World} {K : PySem.W.Frag} {mg : Str → Option Value} {base : Heap}
theorem ok_mix {f : Addr} {fd : FuncData} (F : Fun K "_law_mix" "_law_mix" s_law_mix f fd) (T : Txt K mg) : FnOk P w K mg base CX0 1 f fd ["cell", "k"] sp_mix := by
  refine F.ok sc_law_mix (fun vs H Q E h => ?_) (fun cdv A outer s H vs Q E hr h => ?_)
  · obtain ⟨c, k, rfl, _⟩ := h
    rfl
  · obtain ⟨c, k, rfl, q⟩ := h
    refine ⟨_, (pss_cons (ps_set (i := 2) sc_law_mix.nd rfl (Or.inl rfl) (pe_op op_mod (pe_callTy call_intI (by rfl) T.n_int (by decide +kernel) (pa_cons (pe_op op_add (pe_op op_add (pe_op op_mul (pe_callTy call_intI (by rfl) T.n_int (by decide +kernel) (pa_cons (pv 0) pa_nil)) pe_int) (pe_op op_mul (pv 1) pe_int)) pe_int) pa_nil)) pe_int))
        (pss_cons (ps_set (i := 2) sc_law_mix.nd rfl (Or.inl rfl) (pe_op op_mod (pe_callTy call_intI (by rfl) T.n_int (by decide +kernel) (pa_cons (pe_op op_add (pe_op op_add (pe_op op_mul (pv 2) (pv 2)) (pe_op op_mul (pv 1) pe_int)) pe_int) pa_nil)) pe_int))
        (pss_one (ps_ret (pe_op op_mod (pe_op op_fdiv (pv 2) pe_int) pe_int))))), ?_⟩
    refine ⟨_, rfl, _, rfl, _, _, rfl, rfl, .inr ⟨by decide, by decide⟩, _, rfl, _, _, rfl, rfl, .inr ⟨by decide, by decide⟩, _, _, rfl, rfl, _, _, rfl, rfl, _, rfl, _, _, rfl, rfl, (by show (0 : Int) < 2147483647; decide), ?_⟩
    generalize hx : ((c * 48271 + k * 69621 + 12345) % 2147483647 : Int) = x
    have x0 : 0 ≤ x := by omega
    have x1 : x < 2147483647 := by omega
    refine ⟨_, rfl, _, rfl, _, _, rfl, rfl, .inl ⟨by omega, by omega⟩, _, rfl, _, _, rfl, rfl, .inr ⟨by decide, by decide⟩, _, _, rfl, rfl, _, _, rfl, rfl, _, rfl, _, _, rfl, rfl, (by show (0 : Int) < 2147483399; decide), ?_⟩
    refine ⟨_, rfl, _, _, rfl, rfl, ⟨by decide, by decide⟩, _, _, rfl, rfl, (by show (0 : Int) < 9973; decide), ?_⟩
    exact q _ (Int.emod_nonneg _ (by decide)) (Int.emod_lt_of_pos _ (by decide))
theorem ok_draws {f : Addr} {fd : FuncData} (F : Fun K "_law_draws" "_law_draws" s_law_draws f fd) (T : Txt K mg) (c_law_mix : CalX P w K mg base CX0 1 "_law_mix" sp_mix) : FnOk P w K mg base CX0 2 f fd ["script"] (sp_draws K) := by
  refine F.ok sc_law_draws (fun vs H Q E h => ?_) (fun cdv A outer s H vs Q E hr h => ?_)
  · obtain ⟨a, ns, rfl, _⟩ := h
    rfl
  · obtain ⟨a, ns, rfl, hS, hlen, q⟩ := h
    refine ⟨_, (pss_cons (ps_set (i := 1) sc_law_draws.nd rfl (Or.inl rfl) (pe_lst pa_nil))
        (pss_cons (ps_for PassesOwn.never rfl (pi_range1 (by rfl) T.n_range (pa_cons (pe_callB (call_min2 rfl) (by rfl) T.n_min (by decide +kernel) (pa_cons pe_int (pa_cons (pe_callB call_lenL (by rfl) T.n_len (by decide +kernel) (pa_cons (pv 0) pa_nil)) pa_nil))) pa_nil)) (pg_name (i := 2) sc_law_draws.nd rfl (Or.inl rfl)) (pss_cons (ps_set (i := 3) sc_law_draws.nd rfl (Or.inl rfl) (pe_callTy call_intI (by rfl) T.n_int (by decide +kernel) (pa_cons (pe_ix ix_list (pv 0) (pv 2) (fun _ _ => rfl)) pa_nil)))
        (pss_one (ps_if (pt_cmpR op_lt (pv 3) (pe_op op_pow pe_int pe_int) (nomark _)) (pss_one (ps_expr (pe_bm PySem.F.plainAttrs_list PySem.F.slot_list_append PySem.F.type_list_append mt_append (pv 1) (pa_cons (pe_cx c_law_mix (hr.mono (by omega)) (by rfl) pass0 (pa_cons (pv 3) (pa_cons (pv 2) pa_nil))) pa_nil)))) (pss_one (ps_for PassesOwn.never rfl (pi_range1 (by rfl) T.n_range (pa_cons pe_int pa_nil)) (pg_name (i := 4) sc_law_draws.nd rfl (Or.inl rfl)) (pss_one (ps_if (pt_cmpR op_gt (pv 3) pe_int (nomark _)) (pss_cons (ps_expr (pe_bm PySem.F.plainAttrs_list PySem.F.slot_list_append PySem.F.type_list_append mt_append (pv 1) (pa_cons (pe_op op_mod (pe_callTy call_intI (by rfl) T.n_int (by decide +kernel) (pa_cons (pv 3) pa_nil)) pe_int) pa_nil)))
        (pss_one (ps_set (i := 3) sc_law_draws.nd rfl (Or.inl rfl) (pe_op op_fdiv (pv 3) pe_int)))) pss_nil))))))))
        (pss_one (ps_ret (pv 1))))), ?_⟩
    refine ⟨Nat.zero_le _, fun l hl => ?_⟩
    have s0 : Same H (upd H l (.lst [])) := same_new hl (Same.refl H)
    refine ⟨_, rfl, a, _, rfl, s0.seq hS, _, _, rfl, _, rfl, ?_⟩
    rw [List.length_map]
    generalize hn : (if (ns.length : Int) < 63 then (ns.length : Int) else 63) = n
    have n0 : 0 ≤ n ∧ n ≤ 63 ∧ n ≤ ns.length := by
      by_cases c : (ns.length : Int) < 63
      · rw [if_pos c] at hn
        omega
      · rw [if_neg c] at hn
        omega
    refine ⟨by omega, by omega, for_range (lo := 0) (n := n.toNat) (fun i σ H' => ∃ (ds : List Int) (v2 v3 v4 : Option V), σ = [some (.ref a), some (.ref l), v2, v3, v4] ∧ Same H H' ∧ H' l = some (.lst (ds.map V.int)) ∧ ds.length ≤ 60 * i ∧ ∀ d ∈ ds, 0 ≤ d ∧ d < 9973)
      ⟨[], none, none, none, rfl, s0, upd_same, Nat.zero_le _, fun d hd => by cases hd⟩ ?_ ?_⟩
    · rintro i σ H' hi ⟨ds, v2, v3, v4, rfl, s1, hd, hz, hb⟩
      have hi2 : i < ns.length := by omega
      obtain ⟨c, hc⟩ := some_at hi2
      refine ⟨_, rfl, _, rfl, a, _, _, _, rfl, rfl, s1.seq hS, at_of (by omega) (at_int hc), _, rfl, ?_⟩
      refine ⟨_, rfl, _, _, rfl, rfl, ⟨by decide, by decide, by decide⟩, _, _, rfl, rfl, _, rfl, ?_⟩
      refine ite_some (fun c1 => ?_) (fun c1 => ?_)
      · refine ⟨_, rfl, .inl ⟨rfl, _, SqL.of hd⟩, _, rfl, _, rfl, _, _, rfl, fun v w0 w1 => ?_⟩
        refine ⟨l, _, _, rfl, rfl, hd, lt_small (by rw [List.length_map]; omega), ?_⟩
        refine ⟨ds ++ [v], _, _, _, rfl, same_upd hl s1, by rw [map_snoc]; exact upd_same, by rw [List.length_append, List.length_singleton]; omega, all_snoc hb ⟨w0, w1⟩⟩
      · refine ⟨_, rfl, by decide, by decide, for_range (lo := 0) (n := 60) (fun j σ H2 => ∃ (es : List Int) (c2 : Int) (v4 : Option V), σ = [some (.ref a), some (.ref l), some (.int (0 + (i : Int))), some (.int c2), v4] ∧ Same H H2 ∧ H2 l = some (.lst (es.map V.int)) ∧ es.length ≤ 60 * i + j ∧ ∀ d ∈ es, 0 ≤ d ∧ d < 9973)
          ⟨ds, c, v4, rfl, s1, hd, hz, hb⟩ ?_ ?_⟩
        · rintro j σ H2 hj ⟨es, c2, v4', rfl, s2, he, hze, hbe⟩
          refine ⟨_, rfl, _, _, rfl, rfl, _, rfl, ?_⟩
          refine ite_some (fun c3 => ?_) (fun c3 => ?_)
          · refine ⟨_, rfl, .inl ⟨rfl, _, SqL.of he⟩, _, rfl, _, rfl, _, _, rfl, rfl, (by show (0 : Int) < 9973; decide), ?_⟩
            refine ⟨l, _, _, rfl, rfl, he, lt_small (by rw [List.length_map]; omega), ?_⟩
            refine ⟨_, rfl, _, _, rfl, rfl, ⟨by decide, by decide⟩, ?_⟩
            refine ⟨es ++ [c2 % 9973], _, _, rfl, same_upd hl s2, by rw [map_snoc]; exact upd_same, by rw [List.length_append, List.length_singleton]; omega, all_snoc hbe ⟨by omega, by omega⟩⟩
          · exact ⟨es, c2, _, rfl, s2, he, by omega, hbe⟩
        · rintro σ H2 ⟨es, c2, v4', rfl, s2, he, hze, hbe⟩
          exact ⟨es, _, _, _, rfl, s2, he, by omega, hbe⟩
    · rintro σ H' ⟨ds, v2, v3, v4, rfl, s1, hd, hz, hb⟩
      exact ⟨_, rfl, q H' l ds s1 hd ⟨by omega, hb⟩⟩
theorem ok_at {f : Addr} {fd : FuncData} (F : Fun K "_law_at" "_law_at" s_law_at f fd) (T : Txt K mg) (c_law_mix : CalX P w K mg base CX0 1 "_law_mix" sp_mix) : FnOk P w K mg base CX0 2 f fd ["draws", "index"] (sp_at K) := by
  refine F.ok sc_law_at (fun vs H Q E h => ?_) (fun cdv A outer s H vs Q E hr h => ?_)
  · obtain ⟨a, ds, i, rfl, _⟩ := h
    rfl
  · obtain ⟨a, ds, i, rfl, hS, ⟨hl, hd⟩, h0, q⟩ := h
    refine ⟨_, (pss_cons (ps_if (pt_cmpR op_lt (pv 1) (pe_callB call_lenL (by rfl) T.n_len (by decide +kernel) (pa_cons (pv 0) pa_nil)) (nomark _)) (pss_one (ps_ret (pe_ix ix_list (pv 0) (pv 1) (fun _ _ => rfl)))) pss_nil)
        (pss_cons (ps_if (pt_cmpR op_eq (pe_callB call_lenL (by rfl) T.n_len (by decide +kernel) (pa_cons (pv 0) pa_nil)) pe_int (nomark _)) (pss_one (ps_ret (pe_cx c_law_mix (hr.mono (by omega)) (by rfl) pass0 (pa_cons (pv 1) (pa_cons pe_int pa_nil))))) pss_nil)
        (pss_one (ps_ret (pe_cx c_law_mix (hr.mono (by omega)) (by rfl) pass0 (pa_cons (pe_op op_add (pe_ix ix_list (pv 0) (pe_op op_mod (pe_callTy call_intI (by rfl) T.n_int (by decide +kernel) (pa_cons (pv 1) pa_nil)) (pe_callB call_lenL (by rfl) T.n_len (by decide +kernel) (pa_cons (pv 0) pa_nil))) (fun _ _ => rfl)) (pe_op op_mul (pv 1) pe_int)) (pa_cons (pv 1) pa_nil))))))), ?_⟩
    refine ⟨_, rfl, _, rfl, a, _, rfl, hS, _, _, rfl, rfl, _, rfl, ?_⟩
    rw [List.length_map]
    refine ite_some (fun c => ?_) (fun c => ?_)
    · obtain ⟨v, hv⟩ := some_at (l := ds) (i := i.toNat) (by omega)
      refine ⟨_, rfl, _, rfl, a, _, _, _, rfl, rfl, hS, at_of (by omega) (at_int hv), ?_⟩
      have b := hd v (List.mem_of_getElem? hv)
      exact q v b.1 b.2
    · refine ⟨_, rfl, a, _, rfl, hS, rfl, _, rfl, ?_⟩
      rw [List.length_map]
      refine int_eq (fun c2 => ?_) (fun c2 => ?_)
      · exact ⟨_, rfl, _, _, rfl, q⟩
      · have hp : 0 < ds.length := by omega
        have m0 : 0 ≤ i % (ds.length : Int) := Int.emod_nonneg _ (by omega)
        have m1 : i % (ds.length : Int) < ds.length := Int.emod_lt_of_pos _ (by omega)
        obtain ⟨v, hv⟩ := some_at (l := ds) (i := (i % (ds.length : Int)).toNat) (by omega)
        refine ⟨_, rfl, _, rfl, _, rfl, _, rfl, a, _, rfl, hS, _, _, rfl, rfl, by rw [List.length_map]; show (0 : Int) < _; omega, a, _, _, _, rfl, rfl, hS, at_of (j := (i % (ds.length : Int)).toNat) (by rw [List.length_map]; omega) (at_int hv), _, rfl, _, _, rfl, rfl, .inr ⟨by decide, by decide⟩, _, _, rfl, rfl, _, rfl, _, _, rfl, q⟩
end
end Kw
set_option Elab.async false
set_option linter.all false
set_option maxRecDepth 100000
set_option maxHeartbeats 2000000
namespace Kw
open PySem PySem.Spec PyProof.Rows L2
section
variable {P : Program} {w : World} {K : PySem.W.Frag} {mg : Str → Option Value} {base : Heap}
def sp_is_integer : Sp := fun vs H Q _ => ∃ i : Int, vs = [.int i] ∧ Q (.bl true) H
theorem ok_is_integer {f : Addr} {fd : FuncData} (F : Fun K "_law_is_integer" "_law_is_integer" s_law_is_integer f fd) (T : Txt K mg) : FnOk P w K mg base CX0 1 f fd ["actual"] sp_is_integer := by
  refine F.ok sc_law_is_integer (fun vs H Q E h => ?_) (fun cdv A outer s H vs Q E hr h => ?_)
  · obtain ⟨i, rfl, _⟩ := h
    rfl
  · obtain ⟨i, rfl, q⟩ := h
    refine ⟨_, (pss_one (ps_ret (pe_and (pe_callB call_isi (by rfl) T.n_isinstance (by decide +kernel) (pa_cons (pv 0) (pa_cons (pe_bltn (v := .ty "int") (by rfl) T.n_int (by decide +kernel) rfl) pa_nil))) (pe_one (pe_not (pe_callB call_isi (by rfl) T.n_isinstance (by decide +kernel) (pa_cons (pv 0) (pa_cons (pe_bltn (v := .ty "bool") (by rfl) T.n_bool (by decide +kernel) rfl) pa_nil)))))))), ?_⟩
    refine ⟨_, rfl, .int i, .ty "int", .type "int", .type "int", true, rfl, .ty _, .base (.int i), kit_ty (by decide +kernel), true, rfl, ?_⟩
    refine iteT ?_
    exact ⟨_, rfl, .int i, .ty "bool", .type "int", .type "bool", false, rfl, .ty _, .base (.int i), kit_ty (by decide +kernel), false, rfl, q⟩
/-- the same data on both sides -/
def sp_same (n : Nat) : Sp := fun vs H Q _ => ∃ (x y : V) (d : D), vs = [x, y] ∧ At H d x ∧ At H d y ∧ d.dep ≤ n ∧ ∀ H' : Hp, Same H H' → Q (.bl true) H'
theorem kit_list (l : Bool) (ds : List D) : kitB (D.seq l ds).ty "list" = some l := by
  cases l with
  | true => exact (by decide +kernel : kitB "list" "list" = some true)
  | false => exact (by decide +kernel : kitB "tuple" "list" = some false)
theorem kit_tuple (l : Bool) (ds : List D) : kitB (D.seq l ds).ty "tuple" = some (!l) := by
  cases l with
  | true => exact (by decide +kernel : kitB "list" "tuple" = some false)
  | false => exact (by decide +kernel : kitB "tuple" "tuple" = some true)
theorem kit_both {K : PySem.W.Frag} (l : Bool) (ds : List D) : PySem.W.kitAny K (.type (D.seq l ds).ty) [.type "list", .type "tuple"] = some true := by
  cases l with
  | true => exact kitAny_cons (kit_ty (kit_list true ds)) (fun z => by cases z) fun _ => rfl
  | false => exact kitAny_cons (kit_ty (kit_list false ds)) (fun _ => kitAny_cons (kit_ty (kit_tuple false ds)) (fun z => by cases z) fun _ => rfl) fun z => by cases z
theorem kit_none {K : PySem.W.Frag} {t : String} (h1 : kitB t "list" = some false) (h2 : kitB t "tuple" = some false) : PySem.W.kitAny K (.type t) [.type "list", .type "tuple"] = some false :=
  kitAny_cons (kit_ty h1) (fun _ => kitAny_cons (kit_ty h2) (fun _ => kitAny_nil) fun z => by cases z) fun z => by cases z
theorem cls_both : Paired ClsV [V.ty "list", V.ty "tuple"] [.type "list", .type "tuple"] := .cons (.ty _) (.cons (.ty _) .nil)
theorem ok_same {f : Addr} {fd : FuncData} (F : Fn K mg "_law_same" s_law_same ["actual", "expected"] f fd) (T : Txt K mg) (c_law_is_integer : CalX P w K mg base CX0 1 "_law_is_integer" sp_is_integer) :
    ∀ n : Nat, CalX P w K mg base CX0 (n + 2) "_law_same" (sp_same n)
  | n => by
    -- the calls of its own: there are none at depth 0
    have own : ∃ c : CalX P w K mg base CX0 (n + 1) "_law_same" (fun vs H Q E => ∃ m, m < n ∧ sp_same m vs H Q E), True := by
      cases n with
      | zero =>
        refine ⟨?_, trivial⟩
        obtain ⟨f', fd', ps', ok', a, b, d⟩ := (F.cal (k := 1) (P := P) (w := w) (base := base) (CX := CX0) (sp := fun _ _ _ _ => False) ⟨fun _ _ _ _ h => h.elim, fun _ _ _ _ _ _ _ _ _ _ _ _ _ h => h.elim⟩).ex
        exact ⟨f', fd', ps', ok'.imp fun _ _ _ _ ⟨m, hm, _⟩ => absurd hm (Nat.not_lt_zero _), a, b, d⟩
      | succ n =>
        exact ⟨(ok_same F T c_law_is_integer n).imp fun vs H Q E ⟨m, hm, x, y, d, e, h1, h2, h3, q⟩ => ⟨x, y, d, e, h1, h2, by omega, q⟩, trivial⟩
    obtain ⟨c_law_same, _⟩ := own
    refine F.cal (F.fn.ok sc_law_same (fun vs H Q E h => ?_) (fun cdv A outer s H vs Q E hr h => ?_))
    · obtain ⟨x, y, d, rfl, _⟩ := h
      rfl
    · obtain ⟨x, y, d, rfl, hx, hy, hn, q⟩ := h
      have hr1 : Room 1 _ := hr.mono (by omega)
      refine ⟨_, (pss_cons (ps_if (pt_val (pe_callB call_isiT (by rfl) T.n_isinstance (by decide +kernel) (pa_cons (pv 1) (pa_cons (pe_tup (pa_cons (pe_bltn (v := .ty "list") (by rfl) T.n_list (by decide +kernel) rfl) (pa_cons (pe_bltn (v := .ty "tuple") (by rfl) T.n_tuple (by decide +kernel) rfl) pa_nil))) pa_nil)))) (pss_cons (ps_if (PW.pt (pw_or (pt_cmpR op_ne (pe_callB call_isi (by rfl) T.n_isinstance (by decide +kernel) (pa_cons (pv 1) (pa_cons (pe_bltn (v := .ty "list") (by rfl) T.n_list (by decide +kernel) rfl) pa_nil))) (pe_callB call_isi (by rfl) T.n_isinstance (by decide +kernel) (pa_cons (pv 0) (pa_cons (pe_bltn (v := .ty "list") (by rfl) T.n_list (by decide +kernel) rfl) pa_nil))) (nomark _)) (pw_or1 (pt_cmpR op_ne (pe_callB call_isi (by rfl) T.n_isinstance (by decide +kernel) (pa_cons (pv 1) (pa_cons (pe_bltn (v := .ty "tuple") (by rfl) T.n_tuple (by decide +kernel) rfl) pa_nil))) (pe_callB call_isi (by rfl) T.n_isinstance (by decide +kernel) (pa_cons (pv 0) (pa_cons (pe_bltn (v := .ty "tuple") (by rfl) T.n_tuple (by decide +kernel) rfl) pa_nil))) (nomark _))))) (pss_one (ps_ret pe_bl)) pss_nil)
        (pss_cons (ps_if (pt_cmpR op_ne (pe_callB call_lenS (by rfl) T.n_len (by decide +kernel) (pa_cons (pv 0) pa_nil)) (pe_callB call_lenS (by rfl) T.n_len (by decide +kernel) (pa_cons (pv 1) pa_nil)) (nomark _)) (pss_one (ps_ret pe_bl)) pss_nil)
        (pss_cons (ps_for PassesOwn.never rfl (pi_range1 (by rfl) T.n_range (pa_cons (pe_callB call_lenS (by rfl) T.n_len (by decide +kernel) (pa_cons (pv 1) pa_nil)) pa_nil)) (pg_name (i := 2) sc_law_same.nd rfl (Or.inl rfl)) (pss_one (ps_if (pt_not (pt_val (pe_cx c_law_same (hr.mono (by omega)) (by rfl) pass0 (pa_cons (pe_ix ix_sq (pv 0) (pv 2) (fun _ _ => rfl)) (pa_cons (pe_ix ix_sq (pv 1) (pv 2) (fun _ _ => rfl)) pa_nil))))) (pss_one (ps_ret pe_bl)) pss_nil)))
        (pss_one (ps_ret pe_bl))))) pss_nil)
        (pss_cons (ps_if (pt_cmpR op_isN (pv 1) pe_non (nomark _)) (pss_one (ps_ret (pe_cmpR op_isN (pv 0) pe_non (nomark _)))) pss_nil)
        (pss_cons (ps_if (pt_val (pe_callB call_isi (by rfl) T.n_isinstance (by decide +kernel) (pa_cons (pv 1) (pa_cons (pe_bltn (v := .ty "bool") (by rfl) T.n_bool (by decide +kernel) rfl) pa_nil)))) (pss_one (ps_ret (pe_and (pe_callB call_isi (by rfl) T.n_isinstance (by decide +kernel) (pa_cons (pv 0) (pa_cons (pe_bltn (v := .ty "bool") (by rfl) T.n_bool (by decide +kernel) rfl) pa_nil))) (pe_one (pe_cmpR op_eq (pv 0) (pv 1) (nomark _)))))) pss_nil)
        (pss_cons (ps_if (pt_val (pe_callB call_isi (by rfl) T.n_isinstance (by decide +kernel) (pa_cons (pv 1) (pa_cons (pe_bltn (v := .ty "int") (by rfl) T.n_int (by decide +kernel) rfl) pa_nil)))) (pss_one (ps_ret (pe_and (pe_cx c_law_is_integer (hr.mono (by omega)) (by rfl) pass0 (pa_cons (pv 0) pa_nil)) (pe_one (pe_cmpR op_eq (pv 0) (pv 1) (nomark _)))))) pss_nil)
        (pss_one (ps_ret (pe_and (pe_callB call_isi (by rfl) T.n_isinstance (by decide +kernel) (pa_cons (pv 0) (pa_cons (pe_bltn (v := .ty "str") (by rfl) T.n_str (by decide +kernel) rfl) pa_nil))) (pe_one (pe_cmpR op_eq (pv 0) (pv 1) (nomark _)))))))))), ?_⟩
      refine ⟨_, rfl, (by show 2 ≤ sizeLine; decide), fun p hp => ?_⟩
      have s0 : Same H (upd H p (.tup [.ty "list", .ty "tuple"])) := same_new hp (Same.refl H)
      have hx0 := At.same s0 d x hx
      have hy0 := At.same s0 d y hy
      have q0 : ∀ H', Same (upd H p (.tup [.ty "list", .ty "tuple"])) H' → Q (.bl true) H' := fun H' z => q H' (s0.trans z)
      generalize hH : upd H p (.tup [.ty "list", .ty "tuple"]) = H0 at hx0 hy0 q0
      have hp0 : H0 p = some (.tup [.ty "list", .ty "tuple"]) := by rw [← hH]; exact upd_same
      cases d with
      | seq l ds =>
        refine ⟨y, p, _, _, _, true, rfl, hp0, cls_both, At.ty hy0, kit_both l ds, true, rfl, iteT ?_⟩
        refine ⟨_, rfl, y, .ty "list", _, _, _, rfl, .ty _, At.ty hy0, kit_ty (kit_list l ds), _, rfl, x, .ty "list", _, _, _, rfl, .ty _, At.ty hx0, kit_ty (kit_list l ds), rfl, _, rfl, ?_⟩
        refine iteNS rfl ?_
        refine ⟨_, rfl, y, .ty "tuple", _, _, _, rfl, .ty _, At.ty hy0, kit_ty (kit_tuple l ds), _, rfl, x, .ty "tuple", _, _, _, rfl, .ty _, At.ty hx0, kit_ty (kit_tuple l ds), rfl, _, rfl, ?_⟩
        refine iteNS rfl ?_
        obtain ⟨a, xs, rfl, ha, hxs, hz⟩ := hx0
        obtain ⟨b, ys, rfl, hb, hys, _⟩ := hy0
        refine ⟨_, rfl, a, xs, rfl, sq_of ha, _, rfl, b, ys, rfl, sq_of hb, rfl, _, rfl, ?_⟩
        refine iteNS (by rw [AtL.length hxs, AtL.length hys]) ?_
        have sz := AtL.length hys
        refine ⟨_, rfl, b, ys, rfl, sq_of hb, _, rfl, by omega, by omega, for_range (lo := 0) (n := ((ys.length : Nat) : Int).toNat) (fun i σ H' => ∃ v : Option V, σ = [some (.ref a), some (.ref b), v] ∧ Same H0 H')
          ⟨none, rfl, Same.refl _⟩ ?_ ?_⟩
        · rintro i σ H' hi ⟨v, rfl, s1⟩
          have hi2 : i < ds.length := by
            have := AtL.length hys
            omega
          obtain ⟨d, hd⟩ := some_at hi2
          obtain ⟨u, hu, hAu⟩ := AtL.get hxs hd
          obtain ⟨z, hz, hAz⟩ := AtL.get hys hd
          have dd : d.dep + 1 ≤ n := Nat.le_trans (Nat.succ_le_succ (dep_get hd)) hn
          refine ⟨_, rfl, _, rfl, a, xs, _, u, rfl, rfl, sq_of (s1 _ _ ha), at_of (by omega) hu, _, rfl, _, rfl, b, ys, _, z, rfl, rfl, sq_of (s1 _ _ hb), at_of (by omega) hz,
            d.dep, dd, u, z, d, rfl, At.same s1 d u hAu, At.same s1 d z hAz, Nat.le_refl _, fun H2 s2 => ⟨true, rfl, ?_⟩⟩
          refine iteF ?_
          exact ⟨_, rfl, s1.trans s2⟩
        · rintro σ H' ⟨v, rfl, s1⟩
          exact q0 _ s1
      | non =>
        obtain rfl : x = .non := hx0
        obtain rfl : y = .non := hy0
        refine ⟨.non, p, _, _, _, false, rfl, hp0, cls_both, .base .non, kit_none (by decide +kernel) (by decide +kernel), false, rfl, iteF ?_⟩
        refine ⟨_, rfl, rfl, true, rfl, iteT ?_⟩
        exact ⟨_, rfl, rfl, q0 _ (Same.refl _)⟩
      | bl b =>
        obtain rfl : x = .bl b := hx0
        obtain rfl : y = .bl b := hy0
        refine ⟨.bl b, p, _, _, _, false, rfl, hp0, cls_both, .base (.bl b), kit_none (by decide +kernel) (by decide +kernel), false, rfl, iteF ?_⟩
        refine ⟨_, rfl, rfl, false, rfl, iteF ?_⟩
        refine ⟨_, rfl, .bl b, .ty "bool", .type "bool", _, true, rfl, .ty _, .base (.bl b), kit_ty (by decide +kernel), _, rfl, iteT ?_⟩
        refine ⟨_, rfl, .bl b, .ty "bool", .type "bool", _, true, rfl, .ty _, .base (.bl b), kit_ty (by decide +kernel), true, rfl, iteT ?_⟩
        refine ⟨_, rfl, _, rfl, rfl, ?_⟩
        rw [decide_eq_true rfl]
        exact q0 _ (Same.refl _)
      | int i =>
        obtain rfl : x = .int i := hx0
        obtain rfl : y = .int i := hy0
        refine ⟨.int i, p, _, _, _, false, rfl, hp0, cls_both, .base (.int i), kit_none (by decide +kernel) (by decide +kernel), false, rfl, iteF ?_⟩
        refine ⟨_, rfl, rfl, false, rfl, iteF ?_⟩
        refine ⟨_, rfl, .int i, .ty "bool", .type "int", _, false, rfl, .ty _, .base (.int i), kit_ty (by decide +kernel), _, rfl, iteF ?_⟩
        refine ⟨_, rfl, .int i, .ty "int", .type "int", _, true, rfl, .ty _, .base (.int i), kit_ty (by decide +kernel), _, rfl, iteT ?_⟩
        refine ⟨_, rfl, i, rfl, true, rfl, iteT ?_⟩
        refine ⟨_, rfl, _, rfl, rfl, ?_⟩
        rw [decide_eq_true rfl]
        exact q0 _ (Same.refl _)
      | str z =>
        obtain rfl : x = .str z := hx0
        obtain rfl : y = .str z := hy0
        refine ⟨.str z, p, _, _, _, false, rfl, hp0, cls_both, .base (.str z), kit_none (by decide +kernel) (by decide +kernel), false, rfl, iteF ?_⟩
        refine ⟨_, rfl, rfl, false, rfl, iteF ?_⟩
        refine ⟨_, rfl, .str z, .ty "bool", .type "str", _, false, rfl, .ty _, .base (.str z), kit_ty (by decide +kernel), _, rfl, iteF ?_⟩
        refine ⟨_, rfl, .str z, .ty "int", .type "str", _, false, rfl, .ty _, .base (.str z), kit_ty (by decide +kernel), _, rfl, iteF ?_⟩
        refine ⟨_, rfl, .str z, .ty "str", .type "str", _, true, rfl, .ty _, .base (.str z), kit_ty (by decide +kernel), true, rfl, iteT ?_⟩
        refine ⟨_, rfl, _, rfl, rfl, ?_⟩
        rw [decide_eq_true rfl]
        exact q0 _ (Same.refl _)
end
end Kw
set_option Elab.async false
set_option linter.all false
set_option maxRecDepth 100000
set_option maxHeartbeats 4000000
namespace Kw
open PySem PySem.Spec PyProof.Rows L2
theorem log_small {i : Int} (h0 : 0 ≤ i) (h : i < 10 ^ 18) : i.natAbs.log2 < 1920 := by
  by_cases e : i.natAbs = 0
  · rw [e]
    decide
  · refine (Nat.log2_lt e).mpr (Nat.lt_of_lt_of_le (m := 2 ^ 64) (by omega) ?_)
    exact Nat.pow_le_pow_right (by decide) (by decide)
theorem len_app (a b : Str) : (a ++ b).length = a.length + b.length := Array.size_append
theorem join_len (a : Str) (ys : List Str) : (Txt.join a ys).length ≤ (ys.map (·.length)).sum + ys.length * a.length := by
  show (Builtin.Str.glued a ys).length ≤ _
  rw [StrLaws.glued_eq_join]
  exact StrLaws.join_length_le a ys
theorem sum_len {ys : List Str} {b : Nat} (h : ∀ y ∈ ys, y.length ≤ b) : (ys.map (·.length)).sum ≤ ys.length * b := by
  induction ys with
  | nil => simp
  | cons y r ih =>
    have h1 := h y List.mem_cons_self
    have h2 := ih fun z hz => h z (List.mem_cons_of_mem _ hz)
    rw [List.map_cons, List.sum_cons, List.length_cons, Nat.succ_mul]
    omega
/-- the words of parts -/
def wordsOf (ps : List Int) : List Str := ps.map fun p => (Str.ofString (toString p))
def Pt (p : Int) : Prop := 0 ≤ p ∧ p < 10 ^ 15
theorem word_len {p : Int} (h : Pt p) : (Str.ofString (toString p)).length ≤ 15 := PyProof.Rows.toString_length_le h.1 (by decide) h.2
theorem words_len {ps : List Int} (h : ∀ p ∈ ps, Pt p) : ∀ y ∈ wordsOf ps, y.length ≤ 15 := fun y hy => by
  obtain ⟨p, hp, e⟩ := List.mem_map.mp hy
  rw [← e]
  exact word_len (h p hp)
def sp_part (K : PySem.W.Frag) : Sp := fun vs H Q _ => ∃ (a : Addr) (ds : List Int) (i : Int), vs = [.ref a, .int i] ∧ SqL K H a (ds.map V.int) ∧ Dr ds ∧ 0 ≤ i ∧
  ∀ (H' : Hp) (v : Int), Same H H' → Pt v → Q (.int v) H'
/-- two to four parts, the second at least 1 -/
def Pts (ps : List Int) : Prop := 2 ≤ ps.length ∧ ps.length ≤ 4 ∧ ∀ p ∈ ps, Pt p
def sp_parts (K : PySem.W.Frag) : Sp := fun vs H Q _ => ∃ (a : Addr) (ds : List Int), vs = [.ref a] ∧ SqL K H a (ds.map V.int) ∧ Dr ds ∧
  ∀ (H' : Hp) (p : Addr) (ps : List Int), Same H H' → H' p = some (.lst (ps.map V.int)) → Pts ps → Q (.ref p) H'
def sp_line (K : PySem.W.Frag) : Sp := fun vs H Q _ => ∃ (a b : Addr) (ds ps : List Int), vs = [.ref a, .ref b] ∧ SqL K H a (ds.map V.int) ∧ Dr ds ∧ H b = some (.lst (ps.map V.int)) ∧ Pts ps ∧
  ∀ (H' : Hp) (z : Str), Same H H' → z.length ≤ 1000 → Q (.str z) H'
/-- no text: what isinstance tells False of -/
inductive NoStr (H : Hp) : V → Prop where
  | non : NoStr H .non
  | bl (b : Bool) : NoStr H (.bl b)
  | int (i : Int) : NoStr H (.int i)
  | lst {a : Addr} {xs : List V} (h : H a = some (.lst xs)) : NoStr H (.ref a)
  | tup {a : Addr} {xs : List V} (h : H a = some (.tup xs)) : NoStr H (.ref a)
  | dic {a : Addr} {kvs : List (Key × V)} (h : H a = some (.dK kvs)) : NoStr H (.ref a)
theorem NoStr.same {H H' : Hp} {v : V} (h : NoStr H v) (s : Same H H') : NoStr H' v := by
  cases h with
  | non => exact .non
  | bl b => exact .bl b
  | int i => exact .int i
  | lst h => exact .lst (s _ _ h)
  | tup h => exact .tup (s _ _ h)
  | dic h => exact .dic (s _ _ h)
def Thing (H : Hp) (v : V) : Prop := (∃ z : Str, v = .str z ∧ z.length ≤ 1000) ∨ NoStr H v
theorem Thing.same {H H' : Hp} {v : V} (h : Thing H v) (s : Same H H') : Thing H' v := by
  rcases h with h | h
  · exact .inl h
  · exact .inr (h.same s)
def sp_thing (K : PySem.W.Frag) : Sp := fun vs H Q _ => ∃ (a : Addr) (ds : List Int) (z : Str), vs = [.ref a, .str z] ∧ SqL K H a (ds.map V.int) ∧ Dr ds ∧ z.length ≤ 1000 ∧
  ∀ (H' : Hp) (v : V), Same H H' → Thing H' v → Q v H'
def sp_format : Sp := fun vs H Q _ => ∃ (a : Addr) (ps : List Int), vs = [.ref a] ∧ H a = some (.tup (ps.map V.int)) ∧ Pts ps ∧
  ∀ H' : Hp, Same H H' → Q (.str (Txt.join "." (wordsOf ps))) H'
theorem atI_in {xs : List V} {z : Int} (h0 : 0 ≤ z) (h1 : z < xs.length) : ∃ v, atI xs z = some v ∧ v ∈ xs := by
  obtain ⟨v, hv⟩ := some_at (l := xs) (i := z.toNat) (by omega)
  exact ⟨v, at_of (j := z.toNat) (by omega) hv, List.mem_of_getElem? hv⟩
section
variable {P : Program} {w : World} {K : PySem.W.Frag} {mg : Str → Option Value} {base : Heap}
theorem ok_part {f : Addr} {fd : FuncData} (F : Fun K "_law_part" "_law_part" s_law_part f fd) (T : Txt K mg) (c_law_at : CalX P w K mg base CX0 2 "_law_at" (sp_at K)) : FnOk P w K mg base CX0 3 f fd ["draws", "index"] (sp_part K) := by
  refine F.ok sc_law_part (fun vs H Q E h => ?_) (fun cdv A outer s H vs Q E hr h => ?_)
  · obtain ⟨a, ds, i, rfl, _⟩ := h
    rfl
  · obtain ⟨a, ds, i, rfl, hS, hd, h0, q⟩ := h
    refine ⟨_, (pss_cons (ps_if (pt_cmpR op_eq (pe_op op_mod (pe_op op_fdiv (pe_cx c_law_at (hr.mono (by omega)) (by rfl) pass0 (pa_cons (pv 0) (pa_cons (pv 1) pa_nil))) pe_int) pe_int) pe_int (nomark _)) (pss_one (ps_ret (pe_ix ix_list (pe_lst (pa_cons pe_int (pa_cons pe_int (pa_cons pe_int (pa_cons pe_int pa_nil))))) (pe_op op_mod (pe_cx c_law_at (hr.mono (by omega)) (by rfl) pass0 (pa_cons (pv 0) (pa_cons (pe_op op_add (pv 1) pe_int) pa_nil))) pe_int) (fun _ _ => rfl)))) pss_nil)
        (pss_cons (ps_set (i := 2) sc_law_part.nd rfl (Or.inl rfl) pe_int)
        (pss_cons (ps_for PassesOwn.never rfl (pi_range1 (by rfl) T.n_range (pa_cons pe_int pa_nil)) (pg_name (i := 3) sc_law_part.nd rfl (Or.inl rfl)) (pss_one (ps_set (i := 2) sc_law_part.nd rfl (Or.inl rfl) (pe_op op_add (pe_op op_mul (pv 2) pe_int) (pe_cx c_law_at (hr.mono (by omega)) (by rfl) pass0 (pa_cons (pv 0) (pa_cons (pe_op op_add (pe_op op_add (pv 1) pe_int) (pv 3)) pa_nil)))))))
        (pss_cons (ps_set (i := 4) sc_law_part.nd rfl (Or.inl rfl) pe_int)
        (pss_cons (ps_for PassesOwn.never rfl (pi_range1 (by rfl) T.n_range (pa_cons (pe_op op_mod (pe_cx c_law_at (hr.mono (by omega)) (by rfl) pass0 (pa_cons (pv 0) (pa_cons (pv 1) pa_nil))) pe_int) pa_nil)) (pg_name (i := 3) sc_law_part.nd rfl (Or.inl rfl)) (pss_one (ps_set (i := 4) sc_law_part.nd rfl (Or.inl rfl) (pe_op op_mul (pv 4) pe_int))))
        (pss_one (ps_ret (pe_op op_mod (pe_callTy call_intI (by rfl) T.n_int (by decide +kernel) (pa_cons (pv 2) pa_nil)) (pv 4))))))))), ?_⟩
    refine ⟨_, rfl, _, rfl, a, ds, i, rfl, hS, hd, h0, fun d d0 d1 => ?_⟩
    refine ⟨_, _, rfl, rfl, ⟨by decide, by decide⟩, _, _, rfl, rfl, (by show (0 : Int) < 5; decide), rfl, _, rfl, ?_⟩
    refine int_eq (fun c => ?_) (fun c => ?_)
    · refine ⟨(by show 4 ≤ sizeLine; decide), fun p hp => ?_⟩
      have s0 : Same H (upd H p (.lst [V.int 0, V.int 1, V.int 9, V.int 10])) := same_new hp (Same.refl H)
      refine ⟨_, rfl, _, rfl, _, _, rfl, rfl, a, ds, i + 1, rfl, s0.seq hS, hd, by omega, fun e e0 e1 => ?_⟩
      refine ⟨_, _, rfl, rfl, (by show (0 : Int) < 4; decide), ?_⟩
      have m0 : 0 ≤ e % 4 := by omega
      have m1 : e % 4 < 4 := by omega
      obtain ⟨v, hv, hm⟩ := atI_in (xs := [V.int 0, V.int 1, V.int 9, V.int 10]) m0 m1
      refine ⟨p, _, _, v, rfl, rfl, SqL.of upd_same, hv, ?_⟩
      simp only [List.mem_cons, List.not_mem_nil, or_false] at hm
      rcases hm with rfl | rfl | rfl | rfl
      · exact q _ _ s0 ⟨by decide, by decide⟩
      · exact q _ _ s0 ⟨by decide, by decide⟩
      · exact q _ _ s0 ⟨by decide, by decide⟩
      · exact q _ _ s0 ⟨by decide, by decide⟩
    · refine ⟨_, rfl, by decide, by decide, for_range (lo := 0) (n := (4 : Int).toNat) (fun j σ H' => ∃ (v : Int) (v3 : Option V), σ = [some (.ref a), some (.int i), some (.int v), v3, none] ∧ H = H') ⟨0, none, rfl, rfl⟩ ?_ ?_⟩
      · rintro j σ H' hj ⟨v, v3, rfl, rfl⟩
        refine ⟨_, rfl, _, _, rfl, rfl, .inr ⟨by decide, by decide⟩, _, rfl, _, rfl, _, _, rfl, rfl, _, rfl, _, _, rfl, rfl, a, ds, _, rfl, hS, hd, by omega, fun e e0 e1 => ?_⟩
        exact ⟨_, _, rfl, rfl, _, _, rfl, rfl⟩
      · rintro σ H' ⟨v, v3, rfl, rfl⟩
        refine ⟨_, rfl, _, rfl, a, ds, i, rfl, hS, hd, h0, fun g g0 g1 => ?_⟩
        refine ⟨_, _, rfl, rfl, (by show (0 : Int) < 15; decide), _, rfl, by omega, by omega, for_range (lo := 0) (n := (g % 15).toNat) (fun j σ H' => ∃ (v3 : Option V), σ = [some (.ref a), some (.int i), some (.int v), v3, some (.int (10 ^ (j + 1)))] ∧ H = H') ⟨v3, rfl, rfl⟩ ?_ ?_⟩
        · rintro j σ H' hj ⟨v3', rfl, rfl⟩
          refine ⟨_, rfl, _, _, rfl, rfl, .inr ⟨by decide, by decide⟩, ?_⟩
          exact ⟨_, by rw [Int.pow_succ 10 (j + 1)]; rfl, rfl⟩
        · rintro σ H' ⟨v3', rfl, rfl⟩
          have p0 : (0 : Int) < 10 ^ ((g % 15).toNat + 1) := Int.pow_pos (by decide)
          have p1 : (10 : Int) ^ ((g % 15).toNat + 1) ≤ 10 ^ 15 := by
            have : ((10 ^ ((g % 15).toNat + 1) : Nat)) ≤ 10 ^ 15 := Nat.pow_le_pow_right (by decide) (by omega)
            have e1 : ((10 : Int) ^ ((g % 15).toNat + 1)) = ((10 ^ ((g % 15).toNat + 1) : Nat) : Int) := by simp
            rw [e1]
            omega
          refine ⟨_, rfl, _, rfl, _, rfl, _, _, rfl, rfl, p0, q _ _ (Same.refl _) ⟨Int.emod_nonneg _ (by omega), ?_⟩⟩
          exact Int.lt_of_lt_of_le (Int.emod_lt_of_pos _ p0) p1
theorem ok_parts {f : Addr} {fd : FuncData} (F : Fun K "_law_parts" "_law_parts" s_law_parts f fd) (T : Txt K mg) (c_law_at : CalX P w K mg base CX0 2 "_law_at" (sp_at K)) (c_law_part : CalX P w K mg base CX0 3 "_law_part" (sp_part K)) :
    FnOk P w K mg base CX0 4 f fd ["draws"] (sp_parts K) := by
  refine F.ok sc_law_parts (fun vs H Q E h => ?_) (fun cdv A outer s H vs Q E hr h => ?_)
  · obtain ⟨a, ds, rfl, _⟩ := h
    rfl
  · obtain ⟨a, ds, rfl, hS, hd, q⟩ := h
    refine ⟨_, (pss_cons (ps_setLc (i := 1) (own := [("k", 2)]) (g := gName 2) rfl sc_law_parts.nd rfl rfl (sw_true rfl rfl rfl (by decide +kernel)) (pi_range1 (by rfl) T.n_range (pa_cons (pe_op op_add pe_int (pe_op op_mod (pe_cx c_law_at (hr.mono (by omega)) (by rfl) pass0 (pa_cons (pv 0) (pa_cons pe_int pa_nil))) pe_int)) pa_nil)) (blkOk_by (own := [("k", 2)]) (N := N_law_parts) (sc := defScope s_law_parts) (by decide +kernel)) (fun _ _ _ _ _ => pg_name (i := 2) sc_law_parts.nd rfl (Or.inl rfl)) (fun _ _ _ _ _ => pts_nil) (fun _ _ _ _ _ => (pe_cx c_law_part (hr.mono (by omega)) (by rfl) pass0 (pa_cons (pv 0) (pa_cons (pe_op op_add pe_int (pe_op op_mul pe_int (pv 2))) pa_nil)))))
        (pss_cons (ps_asg (pe_callB (call_max2 rfl) (by rfl) T.n_max (by decide +kernel) (pa_cons pe_int (pa_cons (pe_ix ix_list (pv 1) pe_int (fun _ _ => rfl)) pa_nil))) (pg_sub (pv 1) pe_int set_list))
        (pss_one (ps_ret (pv 1))))), ?_⟩
    refine ⟨_, rfl, a, ds, 0, rfl, hS, hd, by decide, fun d d0 d1 => ?_⟩
    refine ⟨_, _, rfl, rfl, (by show (0 : Int) < 3; decide), _, _, rfl, rfl, _, rfl, by omega, by omega, fun D hD => ?_⟩
    have s0 : Same H (upd H D (.lst [])) := same_new hD (Same.refl H)
    refine lc_range (lo := 0) (n := (2 + d % 3).toNat) (fun i H' => ∃ ps : List Int, Same H H' ∧ H' D = some (.lst (ps.map V.int)) ∧ ps.length = i ∧ ∀ p ∈ ps, Pt p) ⟨[], s0, upd_same, rfl, fun p hp => by cases hp⟩ ?_ ?_
    · rintro i H' hi ⟨ps, s1, hp, hl, hb⟩
      refine ⟨rfl, ?_⟩
      refine ⟨_, rfl, _, rfl, _, _, rfl, rfl, .inl ⟨by decide, by decide⟩, _, _, rfl, rfl, a, ds, _, rfl, s1.seq hS, hd, by omega, fun H2 v s2 hv => ?_⟩
      refine ⟨_, s2 _ _ hp, lt_small (by rw [List.length_map]; omega), ps ++ [v], same_upd hD (s1.trans s2), by rw [map_snoc]; exact upd_same, by rw [List.length_append, List.length_singleton, hl], all_snoc hb hv⟩
    · rintro H' ⟨ps, s1, hp, hl, hb⟩
      obtain ⟨v, hv⟩ := some_at (l := ps) (i := 1) (by omega)
      have hv2 := hb v (List.mem_of_getElem? hv)
      refine ⟨_, rfl, D, _, _, _, rfl, rfl, SqL.of hp, at_of (j := 1) rfl (at_int hv), _, _, rfl, ?_⟩
      refine ⟨_, rfl, D, _, _, 1, rfl, rfl, hp, ?_, ?_⟩
      · unfold ixN
        rw [if_pos (by decide), if_pos (by rw [List.length_map]; omega)]
        rfl
      · refine ⟨_, rfl, ?_⟩
        generalize hm : (if v > 1 then v else 1) = m
        have hm2 : Pt m := by
          rw [← hm]
          by_cases c : v > 1
          · rw [if_pos c]
            exact hv2
          · rw [if_neg c]
            exact ⟨by decide, by decide⟩
        refine q _ D (ps.set 1 m) (same_upd hD s1) (by rw [List.map_set]; exact upd_same) ⟨by rw [List.length_set]; omega, by rw [List.length_set]; omega, fun p hp => ?_⟩
        rcases List.mem_or_eq_of_mem_set hp with h1 | h1
        · exact hb p h1
        · rw [h1]
          exact hm2
end
end Kw
set_option Elab.async false
set_option linter.all false
set_option maxRecDepth 100000
set_option maxHeartbeats 4000000
namespace Kw
open PySem PySem.Spec PyProof.Rows L2
def Bd (b : Nat) (W : List Str) : Prop := ∀ y ∈ W, y.length ≤ b
theorem Bd.mono {b c : Nat} {W : List Str} (h : Bd b W) (k : b ≤ c) : Bd c W := fun y hy => Nat.le_trans (h y hy) k
theorem posLen {z : Str} (h : 0 < z.length) : (0 : Int) < (z.length : Int) := by omega
theorem sl_ok {n : Nat} (h : n ≤ 100000) : n ≤ sizeLine := Nat.le_trans h (by rw [sizeLine_eq]; decide)
section
variable {P : Program} {w : World} {K : PySem.W.Frag} {mg : Str → Option Value} {base : Heap}
set_option maxHeartbeats 16000000 in
theorem ok_line {f : Addr} {fd : FuncData} (F : Fun K "_law_line" "_law_line" s_law_line f fd) (T : Txt K mg) (c_law_at : CalX P w K mg base CX0 2 "_law_at" (sp_at K)) : FnOk P w K mg base CX0 3 f fd ["draws", "parts"] (sp_line K) := by
  refine F.ok sc_law_line (fun vs H Q E h => ?_) (fun cdv A outer s H vs Q E hr h => ?_)
  · obtain ⟨a, b, ds, ps, rfl, _⟩ := h
    rfl
  · obtain ⟨a, b, ds, ps, rfl, hS, hd, hb, ⟨p2, p4, pp⟩, q⟩ := h
    have w15 := words_len pp
    have wl : (wordsOf ps).length = ps.length := List.length_map _
    refine ⟨_, (C8.pss_cut (ps_setLc (i := 2) (own := [("part", 8)]) (g := gName 8) rfl sc_law_line.nd rfl rfl (sw_true rfl rfl rfl (by decide +kernel)) (pi_list (pv 1)) (blkOk_by (own := [("part", 8)]) (N := N_law_line) (sc := defScope s_law_line) (by decide +kernel)) (fun _ _ _ _ _ => pg_name (i := 8) sc_law_line.nd rfl (Or.inl rfl)) (fun _ _ _ _ _ => pts_nil) (fun _ _ _ _ _ => (pe_callTy call_str_int (by rfl) T.n_str (by decide +kernel) (pa_cons (pv 8) pa_nil))))
        (C8.pss_cut (ps_set (i := 3) sc_law_line.nd rfl (Or.inl rfl) (pe_op op_mod (pe_cx c_law_at (hr.mono (by omega)) (by rfl) pass0 (pa_cons (pv 0) (pa_cons pe_int pa_nil))) pe_int))
        (C8.pss_cut (ps_set (i := 4) sc_law_line.nd rfl (Or.inl rfl) (pe_op op_mod (pe_cx c_law_at (hr.mono (by omega)) (by rfl) pass0 (pa_cons (pv 0) (pa_cons pe_int pa_nil))) (pe_callB call_lenL (by rfl) T.n_len (by decide +kernel) (pa_cons (pv 2) pa_nil))))
        (C8.pss_cut (ps_if (pt_cmpR op_eq (pv 3) pe_int (nomark _)) (pss_cons (ps_asg (pe_op op_add_str pe_str (pe_ix ix_listA (pv 2) (pv 4) (fun _ _ => rfl))) (pg_sub (pv 2) (pv 4) set_list))
        (pss_one (ps_if (pt_cmpR op_eq (pe_op op_mod (pe_cx c_law_at (hr.mono (by omega)) (by rfl) pass0 (pa_cons (pv 0) (pa_cons pe_int pa_nil))) pe_int) pe_int (nomark _)) (pss_one (ps_asg (pe_op op_add_str pe_str (pe_ix ix_listA (pv 2) pe_int (fun _ _ => rfl))) (pg_sub (pv 2) pe_int set_list))) pss_nil))) pss_nil)
        (C8.pss_cut (ps_if (pt_cmpR op_eq (pv 3) pe_int (nomark _)) (pss_one (ps_asg pe_str (pg_sub (pv 2) (pv 4) set_list))) pss_nil)
        (C8.pss_cut (ps_if (pt_cmpR op_eq (pv 3) pe_int (nomark _)) (pss_one (ps_expr (pe_bm PySem.F.plainAttrs_list PySem.F.slot_list_insert PySem.F.type_list_insert mt_insert (pv 2) (pa_cons (pe_op op_mod (pe_cx c_law_at (hr.mono (by omega)) (by rfl) pass0 (pa_cons (pv 0) (pa_cons pe_int pa_nil))) (pe_op op_add (pe_callB call_lenL (by rfl) T.n_len (by decide +kernel) (pa_cons (pv 2) pa_nil)) pe_int)) (pa_cons (pe_callTy call_str_int (by rfl) T.n_str (by decide +kernel) (pa_cons (pe_op op_add pe_int (pe_op op_mod (pe_cx c_law_at (hr.mono (by omega)) (by rfl) pass0 (pa_cons (pv 0) (pa_cons pe_int pa_nil))) pe_int)) pa_nil)) pa_nil))))) pss_nil)
        (C8.pss_cut (ps_if (pt_cmpR op_eq (pv 3) pe_int (nomark _)) (pss_one (ps_expr (pe_bm0 PySem.F.plainAttrs_list PySem.F.slot_list_pop PySem.F.type_list_pop mt_pop (pv 2)))) pss_nil)
        (C8.pss_cut (ps_if (PW.pt (pw_or (pt_cmpR op_eq (pv 3) pe_int (nomark _)) (pw_or1 (pt_cmpR op_eq (pv 3) pe_int (nomark _))))) (pss_cons (ps_set (i := 5) sc_law_line.nd rfl (Or.inl rfl) (pe_op op_mod (pe_cx c_law_at (hr.mono (by omega)) (by rfl) pass0 (pa_cons (pv 0) (pa_cons pe_int pa_nil))) (pe_op op_add (pe_callB call_len_str (by rfl) T.n_len (by decide +kernel) (pa_cons (pe_ix ix_listA (pv 2) (pv 4) (fun _ _ => rfl)) pa_nil)) pe_int)))
        (pss_cons (ps_set (i := 6) sc_law_line.nd rfl (Or.inl rfl) pe_str)
        (pss_cons (ps_set (i := 7) sc_law_line.nd rfl (Or.inl rfl) (pe_ix ix_strA (pv 6) (pe_op op_mod (pe_cx c_law_at (hr.mono (by omega)) (by rfl) pass0 (pa_cons (pv 0) (pa_cons pe_int pa_nil))) (pe_callB call_len_str (by rfl) T.n_len (by decide +kernel) (pa_cons (pv 6) pa_nil))) (fun _ _ => rfl)))
        (pss_cons (ps_asg (pe_op op_add_str (pe_op op_add_str (pe_slice sl_str (pe_ix ix_listA (pv 2) (pv 4) (fun _ _ => rfl)) po_none (po_some (pv 5))) (pe_op op_mul_str (pv 7) (pe_op op_add pe_int (pe_op op_fdiv (pe_op op_mod (pe_cx c_law_at (hr.mono (by omega)) (by rfl) pass0 (pa_cons (pv 0) (pa_cons pe_int pa_nil))) pe_int) pe_int)))) (pe_slice sl_str (pe_ix ix_listA (pv 2) (pv 4) (fun _ _ => rfl)) (po_some (pv 5)) po_none)) (pg_sub (pv 2) (pv 4) set_list))
        (pss_cons (ps_set (i := 5) sc_law_line.nd rfl (Or.inl rfl) (pe_op op_mod (pe_cx c_law_at (hr.mono (by omega)) (by rfl) pass0 (pa_cons (pv 0) (pa_cons pe_int pa_nil))) (pe_op op_add (pe_callB call_len_str (by rfl) T.n_len (by decide +kernel) (pa_cons (pe_ix ix_listA (pv 2) pe_int (fun _ _ => rfl)) pa_nil)) pe_int)))
        (pss_one (ps_asg (pe_op op_add_str (pe_op op_add_str (pe_slice sl_str (pe_ix ix_listA (pv 2) pe_int (fun _ _ => rfl)) po_none (po_some (pv 5))) (pe_ix ix_listA (pe_lst (pa_cons pe_str (pa_cons pe_str (pa_cons pe_str (pa_cons pe_str pa_nil))))) (pe_op op_mod (pe_cx c_law_at (hr.mono (by omega)) (by rfl) pass0 (pa_cons (pv 0) (pa_cons pe_int pa_nil))) pe_int) (fun _ _ => rfl))) (pe_slice sl_str (pe_ix ix_listA (pv 2) pe_int (fun _ _ => rfl)) (po_some (pv 5)) po_none)) (pg_sub (pv 2) pe_int set_list)))))))) pss_nil)
        (C8.pss_cut (ps_if (pt_cmpR op_eq (pv 3) pe_int (nomark _)) (pss_one (ps_asg pe_str (pg_sub (pv 2) pe_int set_list))) pss_nil)
        (C8.pss_cut (ps_if (pt_cmpR op_eq (pv 3) pe_int (nomark _)) (pss_one (ps_asg (pe_op op_add_str (pe_op op_add_str pe_str (pe_op op_mul_str pe_str (pe_op op_add pe_int (pe_op op_mod (pe_cx c_law_at (hr.mono (by omega)) (by rfl) pass0 (pa_cons (pv 0) (pa_cons pe_int pa_nil))) pe_int)))) (pe_callTy call_str_int (by rfl) T.n_str (by decide +kernel) (pa_cons (pe_op op_mod (pe_cx c_law_at (hr.mono (by omega)) (by rfl) pass0 (pa_cons (pv 0) (pa_cons pe_int pa_nil))) pe_int) pa_nil))) (pg_sub (pv 2) (pv 4) set_list))) pss_nil)
        (pss_one (ps_ret (pe_join pe_str (pv 2)))))))))))))), ?_⟩
    have sq : ∀ {H'}, Same H H' → SqL K H' a (ds.map V.int) := fun s => s.seq hS
    -- the words
    refine ⟨fun σ H' => ∃ D : Addr, H D = none ∧ σ = [some (.ref a), some (.ref b), some (.ref D), none, none, none, none, none, none] ∧ Same H H' ∧ H' D = some (.lst ((wordsOf ps).map V.str)), ⟨_, rfl, b, rfl, ⟨_, SqL.of hb⟩, fun D hD => ?_⟩, ?_⟩
    · have s0 : Same H (upd H D (.lst [])) := same_new hD (Same.refl H)
      refine lc_list (K := K) (a := b) (xs := ps.map V.int) (fun i H' => Same H H' ∧ H' D = some (.lst ((wordsOf (ps.take i)).map V.str))) ⟨s0, upd_same⟩ (fun i H' _ h => h.1.seq (SqL.of hb)) ?_ ?_
      · rintro i x H' hi ⟨s1, hw⟩
        obtain ⟨z, hz, rfl⟩ := int_at hi
        have hz2 := pp z (List.mem_of_getElem? hz)
        have hil := (List.getElem?_eq_some_iff.mp hz).1
        refine ⟨rfl, ?_⟩
        refine ⟨_, rfl, z, rfl, log_small hz2.1 (Int.lt_of_lt_of_le hz2.2 (by decide)), _, hw, lt_small (by rw [List.length_map]; show (wordsOf (ps.take i)).length ≤ _; rw [show (wordsOf (ps.take i)).length = (ps.take i).length from List.length_map _, List.length_take]; omega), same_upd hD s1, ?_⟩
        have e : wordsOf (ps.take (i + 1)) = wordsOf (ps.take i) ++ [Str.ofString (toString z)] := by
          show (ps.take (i + 1)).map _ = (ps.take i).map _ ++ _
          rw [List.take_add_one, hz]
          exact List.map_append
        rw [e, List.map_append]
        exact upd_same
      · rintro H1 ⟨s1, hw⟩
        rw [List.length_map, List.take_length] at hw
        exact ⟨D, hD, rfl, s1, hw⟩
    rintro σ H1 ⟨D, hD, rfl, s1, hw⟩
    -- fault
    refine ⟨fun σ H' => ∃ fa : Int, σ = [some (.ref a), some (.ref b), some (.ref D), some (.int fa), none, none, none, none, none] ∧ Same H H' ∧ H' D = some (.lst ((wordsOf ps).map V.str)), ⟨_, rfl, a, ds, 1, rfl, sq s1, hd, by decide, fun g g0 g1 => ⟨_, _, rfl, rfl, (by show (0 : Int) < 14; decide), _, rfl, s1, hw⟩⟩, ?_⟩
    rintro σ H1 ⟨fa, rfl, s1, hw⟩
    -- what holds ahead of the test for the fault k; place
    let M : Int → L2.St → Hp → Prop := fun k σ H' => ∃ (pl : Int) (W : List Str) (v5 v6 v7 : Option V), 0 ≤ pl ∧ pl < ps.length ∧ σ = [some (.ref a), some (.ref b), some (.ref D), some (.int fa), some (.int pl), v5, v6, v7, none] ∧ Same H H' ∧ H' D = some (.lst (W.map V.str)) ∧
      (W = wordsOf ps ∨ fa < k) ∧ W.length ≤ 5 ∧ Bd 100 W
    have ahead : ∀ {W : List Str} {k : Int}, (W = wordsOf ps ∨ fa < k) → fa = k → W = wordsOf ps := fun h e => by
      rcases h with h | h
      · exact h
      · omega
    have more : ∀ {W : List Str} {k : Int}, (W = wordsOf ps ∨ fa < k) → (W = wordsOf ps ∨ fa < k + 1) := fun h => by
      rcases h with h | h
      · exact .inl h
      · exact .inr (by omega)
    have W0 : Bd 100 (wordsOf ps) := Bd.mono w15 (by decide)
    refine ⟨M 5, ⟨_, rfl, a, ds, 2, rfl, sq s1, hd, by decide, fun e e0 e1 => ⟨_, rfl, D, _, rfl, SqL.of hw, _, _, rfl, rfl, by rw [List.length_map, wl]; show (0 : Int) < _; omega, ?_⟩⟩, ?_⟩
    · refine ⟨_, _, none, none, none, ?_, ?_, rfl, s1, hw, .inl rfl, by rw [wl]; omega, W0⟩
      · exact Int.emod_nonneg _ (by rw [List.length_map, wl]; omega)
      · have h := Int.emod_lt_of_pos e (b := (ps.length : Int)) (by omega)
        rw [List.length_map, wl]
        exact h
    rintro σ H1 ⟨pl, W, v5, v6, v7, pl0, pl1, rfl, s1, hw, hW, hl1, hb1⟩
    -- 5
    refine ⟨M 6, ⟨_, rfl, rfl, _, rfl, ?_⟩, ?_⟩
    · refine int_eq (fun c => ?_) (fun c => ?_)
      · have eW := ahead hW c
        subst eW
        refine ⟨_, rfl, _, rfl, D, _, _, rfl, rfl, SqL.of hw, pl0, by rw [List.length_map, wl]; omega, fun v hv => ?_⟩
        obtain ⟨z, hz, _, rfl⟩ := str_at hv
        have z15 := w15 z hz
        refine ⟨_, _, rfl, rfl, sl_ok (by rw [show Str.length "0" = 1 from rfl]; omega), ?_⟩
        have l16 : (("0" : Str) ++ z).length ≤ 16 := by
          rw [len_app, show Str.length "0" = 1 from rfl]
          omega
        refine ⟨_, rfl, _, rfl, D, _, pl, _, rfl, rfl, hw, ixN_pos pl0 (by rw [List.length_map, wl]; omega), ?_⟩
        rw [← List.map_set]
        have b16 : Bd 16 ((wordsOf ps).set pl.toNat (("0" : Str) ++ z)) := all_set (Bd.mono w15 (by decide)) l16
        refine ⟨_, rfl, a, ds, 3, rfl, sq (same_upd hD s1), hd, by decide, fun e3 _ _ => ?_⟩
        refine ⟨_, _, rfl, rfl, (by show (0 : Int) < 3; decide), rfl, _, rfl, ?_⟩
        refine int_eq (fun c3 => ?_) (fun c3 => ?_)
        · refine ⟨_, rfl, D, _, _, rfl, rfl, SqL.of upd_same, by decide, by rw [List.length_map, List.length_set, wl]; omega, fun v hv => ?_⟩
          obtain ⟨y, hy, _, rfl⟩ := str_at hv
          have y16 := b16 y hy
          refine ⟨_, _, rfl, rfl, sl_ok (by rw [show Str.length "0" = 1 from rfl]; omega), ?_⟩
          refine ⟨_, rfl, D, _, 0, _, rfl, rfl, upd_same, ixN_pos (by decide) (by rw [List.length_map, List.length_set, wl]; omega), ?_⟩
          rw [← List.map_set]
          exact ⟨pl, _, v5, v6, v7, pl0, pl1, rfl, same_upd hD (same_upd hD s1), upd_same, .inr (by omega), by rw [List.length_set, List.length_set, wl]; omega, Bd.mono (b := 17) (all_set (Bd.mono b16 (by decide)) (by rw [len_app, show Str.length "0" = 1 from rfl]; omega)) (by decide)⟩
        · exact ⟨pl, _, v5, v6, v7, pl0, pl1, rfl, same_upd hD s1, upd_same, .inr (by omega), by rw [List.length_set, wl]; omega, Bd.mono b16 (by decide)⟩
      · exact ⟨pl, _, v5, v6, v7, pl0, pl1, rfl, s1, hw, more hW, hl1, hb1⟩
    rintro σ H2 ⟨pl, W, v5, v6, v7, pl0, pl1, rfl, s2, hw2, hW, hl2, hb2⟩
    -- 6
    refine ⟨M 7, ⟨_, rfl, rfl, _, rfl, ?_⟩, ?_⟩
    · refine int_eq (fun c => ?_) (fun c => ?_)
      · have eW := ahead hW c
        refine ⟨_, rfl, _, rfl, D, _, pl, _, rfl, rfl, hw2, ixN_pos pl0 (by rw [List.length_map, eW, wl]; omega), ?_⟩
        rw [← List.map_set]
        exact ⟨pl, _, v5, v6, v7, pl0, pl1, rfl, same_upd hD s2, upd_same, .inr (by omega), by rw [List.length_set]; exact hl2, all_set hb2 (by decide)⟩
      · exact ⟨pl, _, v5, v6, v7, pl0, pl1, rfl, s2, hw2, more hW, hl2, hb2⟩
    rintro σ H3 ⟨pl, W, v5, v6, v7, pl0, pl1, rfl, s3, hw3, hW, hl3, hb3⟩
    -- 7
    refine ⟨M 8, ⟨_, rfl, rfl, _, rfl, ?_⟩, ?_⟩
    · refine int_eq (fun c => ?_) (fun c => ?_)
      · have eW := ahead hW c
        refine ⟨_, rfl, .inl ⟨rfl, _, SqL.of hw3⟩, _, rfl, a, ds, 3, rfl, sq s3, hd, by decide, fun e3 _ _ => ?_⟩
        refine ⟨_, rfl, D, _, rfl, SqL.of hw3, _, _, rfl, rfl, _, _, rfl, rfl, by rw [List.length_map]; show (0 : Int) < _; omega, ?_⟩
        rw [List.length_map]
        have x0 : 0 ≤ e3 % ((W.length : Int) + 1) := Int.emod_nonneg _ (by omega)
        have x1 : e3 % ((W.length : Int) + 1) < (W.length : Int) + 1 := Int.emod_lt_of_pos _ (by omega)
        refine ⟨_, rfl, a, ds, 4, rfl, sq s3, hd, by decide, fun e4 f0 f1 => ?_⟩
        refine ⟨_, _, rfl, rfl, (by show (0 : Int) < 9; decide), _, _, rfl, rfl, _, rfl, log_small (by omega) (by omega), ?_⟩
        refine ⟨D, _, e3 % ((W.length : Int) + 1), _, rfl, rfl, hw3, lt_small (by rw [List.length_map]; omega), x0, by omega, ?_⟩
        have w2 : (Str.ofString (toString (1 + e4 % 9))).length ≤ 2 := PyProof.Rows.toString_length_le (by omega) (by decide) (by omega)
        generalize (e3 % ((W.length : Int) + 1)).toNat = t3
        refine ⟨pl, W.take t3 ++ [Str.ofString (toString (1 + e4 % 9))] ++ W.drop t3, v5, v6, v7, pl0, pl1, rfl, same_upd hD s3, ?_, .inr (by omega), ?_, ?_⟩
        · rw [List.map_append, List.map_append, List.map_take, List.map_drop]
          exact upd_same
        · rw [List.length_append, List.length_append, List.length_take, List.length_drop, List.length_singleton, eW, wl]
          omega
        · intro y hy
          rcases List.mem_append.mp hy with h | h
          · rcases List.mem_append.mp h with h | h
            · exact hb3 y (List.mem_of_mem_take h)
            · rw [List.mem_singleton.mp h]
              omega
          · exact hb3 y (List.mem_of_mem_drop h)
      · exact ⟨pl, _, v5, v6, v7, pl0, pl1, rfl, s3, hw3, more hW, hl3, hb3⟩
    rintro σ H4 ⟨pl, W, v5, v6, v7, pl0, pl1, rfl, s4, hw4, hW, hl4, hb4⟩
    -- 8
    refine ⟨M 9, ⟨_, rfl, rfl, _, rfl, ?_⟩, ?_⟩
    · refine int_eq (fun c => ?_) (fun c => ?_)
      · have eW := ahead hW c
        have lW : W.length = ps.length := by rw [eW, wl]
        obtain ⟨y, hy⟩ := some_at (l := W.map V.str) (i := (W.map V.str).length - 1) (by rw [List.length_map]; omega)
        refine ⟨_, rfl, .inl ⟨rfl, _, SqL.of hw4⟩, D, _, y, rfl, rfl, hw4, hy, ?_⟩
        refine ⟨pl, W.dropLast, v5, v6, v7, pl0, pl1, rfl, same_upd hD s4, by rw [List.map_dropLast]; exact upd_same, .inr (by omega), by rw [List.length_dropLast]; omega, fun y hy => hb4 y (List.dropLast_subset _ hy)⟩
      · exact ⟨pl, _, v5, v6, v7, pl0, pl1, rfl, s4, hw4, more hW, hl4, hb4⟩
    rintro σ H5 ⟨pl, W, v5, v6, v7, pl0, pl1, rfl, s5, hw5, hW, hl5, hb5⟩
    -- 9, 10
    refine ⟨M 11, ⟨_, rfl, rfl, _, rfl, ?_⟩, ?_⟩
    · refine int_eq (fun c => ?g) (fun c => ⟨_, rfl, rfl, _, rfl, int_eq (fun c2 => ?h) (fun c2 => ?n)⟩)
      case n => exact ⟨pl, _, v5, v6, v7, pl0, pl1, rfl, s5, hw5, hW.imp id (fun h => by omega), hl5, hb5⟩
      case g | h =>
        have eW : W = wordsOf ps := by
          rcases hW with h1 | h1
          · exact h1
          · omega
        have lW : W.length = ps.length := by rw [eW, wl]
        have b15 : Bd 15 W := by rw [eW]; exact w15
        refine ⟨_, rfl, a, ds, 3, rfl, sq s5, hd, by decide, fun e3 x0 x1 => ?_⟩
        refine ⟨_, rfl, _, rfl, D, _, _, rfl, rfl, SqL.of hw5, pl0, by rw [List.length_map, lW]; omega, fun v hv => ?_⟩
        obtain ⟨z, hz, _, rfl⟩ := str_at hv
        have z15 := b15 z hz
        refine ⟨_, rfl, sl_ok (by omega), _, _, rfl, rfl, _, _, rfl, rfl, by show (0 : Int) < _; omega, ?_⟩
        refine ⟨_, rfl, _, rfl, a, ds, 4, rfl, sq s5, hd, by decide, fun e4 f0 f1 => ?_⟩
        refine ⟨_, rfl, _, rfl, by decide +kernel, _, _, rfl, rfl, posLen (by decide +kernel), ?_⟩
        refine ⟨_, _, rfl, rfl, by decide +kernel, Int.emod_nonneg _ (by decide +kernel), Int.emod_lt_of_pos _ (by decide +kernel), fun ch _ => ?_⟩
        refine ⟨_, rfl, _, rfl, D, _, _, rfl, rfl, SqL.of hw5, pl0, by rw [List.length_map, lW]; omega, fun v hv => ?_⟩
        obtain ⟨z2, hz2, _, rfl⟩ := str_at hv
        have z215 := b15 z2 hz2
        refine ⟨_, rfl, _, rfl, _, rfl, sl_ok (by omega), ?_⟩
        have cut1 := cutS_length z2 none (some (e3 % ((z.length : Int) + 1)))
        refine ⟨_, rfl, _, rfl, a, ds, 5, rfl, sq s5, hd, by decide, fun e5 y0 y1 => ?_⟩
        refine ⟨_, _, rfl, rfl, (by show (0 : Int) < 3; decide), _, _, rfl, rfl, ⟨by decide, by decide⟩, _, _, rfl, rfl, ?_⟩
        refine ⟨_, _, rfl, rfl, by omega, by omega, by show (1 : Nat) ≤ 1000; decide, fun r hr' => ?_⟩
        have hr2 : r.length ≤ 2 := by
          rw [hr', show Str.length ⟨#[ch]⟩ = 1 from rfl]
          omega
        have a1 : (cutS z2 none (some (e3 % ((z.length : Int) + 1))) ++ r).length ≤ 17 := by rw [len_app]; omega
        refine ⟨_, _, rfl, rfl, sl_ok (by omega), ?_⟩
        refine ⟨_, rfl, _, rfl, D, _, _, rfl, rfl, SqL.of hw5, pl0, by rw [List.length_map, lW]; omega, fun v hv => ?_⟩
        obtain ⟨z3, hz3, _, rfl⟩ := str_at hv
        have z315 := b15 z3 hz3
        refine ⟨_, rfl, _, rfl, _, rfl, sl_ok (by omega), ?_⟩
        have cut2 := cutS_length z3 (some (e3 % ((z.length : Int) + 1))) none
        refine ⟨_, _, rfl, rfl, sl_ok (by omega), ?_⟩
        refine ⟨_, rfl, _, rfl, D, _, pl, _, rfl, rfl, hw5, ixN_pos pl0 (by rw [List.length_map, lW]; omega), ?_⟩
        rw [← List.map_set]
        have b32 : Bd 32 (W.set pl.toNat (cutS z2 none (some (e3 % ((z.length : Int) + 1))) ++ r ++ cutS z3 (some (e3 % ((z.length : Int) + 1))) none)) := all_set (Bd.mono b15 (by decide)) (by rw [len_app]; omega)
        have l32 : (W.set pl.toNat (cutS z2 none (some (e3 % ((z.length : Int) + 1))) ++ r ++ cutS z3 (some (e3 % ((z.length : Int) + 1))) none)).length = W.length := List.length_set
        generalize (W.set pl.toNat (cutS z2 none (some (e3 % ((z.length : Int) + 1))) ++ r ++ cutS z3 (some (e3 % ((z.length : Int) + 1))) none)) = W2 at b32 l32
        have s6 := same_upd (o := .lst (W2.map V.str)) hD s5
        refine ⟨_, rfl, a, ds, 6, rfl, sq s6, hd, by decide, fun e6 _ _ => ?_⟩
        refine ⟨_, rfl, D, _, _, rfl, rfl, SqL.of upd_same, by decide, by rw [List.length_map]; omega, fun v hv => ?_⟩
        obtain ⟨z4, hz4, _, rfl⟩ := str_at hv
        have z432 := b32 z4 hz4
        refine ⟨_, rfl, sl_ok (by omega), _, _, rfl, rfl, _, _, rfl, rfl, by show (0 : Int) < _; omega, ?_⟩
        refine ⟨_, rfl, D, _, _, rfl, rfl, SqL.of upd_same, by decide, by rw [List.length_map]; omega, fun v hv => ?_⟩
        obtain ⟨z5, hz5, _, rfl⟩ := str_at hv
        have z532 := b32 z5 hz5
        refine ⟨_, rfl, _, rfl, _, rfl, sl_ok (by omega), ?_⟩
        have cut3 := cutS_length z5 none (some (e6 % ((z4.length : Int) + 1)))
        refine ⟨(by show 4 ≤ sizeLine; decide), fun t ht => ?_⟩
        have s7 := same_new (o := .lst [V.str "", V.str "", V.str " ", V.str "+"]) ht s6
        have tD : D ≠ t := fun e => by
          rw [← e, upd_same] at ht
          cases ht
        refine ⟨_, rfl, a, ds, 7, rfl, sq s7, hd, by decide, fun e7 _ _ => ?_⟩
        refine ⟨_, _, rfl, rfl, (by show (0 : Int) < 4; decide), ?_⟩
        refine ⟨t, _, _, rfl, rfl, SqL.of upd_same, Int.emod_nonneg _ (by decide), Int.emod_lt_of_pos _ (by decide), fun v hv => ?_⟩
        have hv2 := List.mem_of_getElem? hv
        simp only [List.mem_cons, List.not_mem_nil, or_false] at hv2
        obtain ⟨u, hu, hu1⟩ : ∃ u : Str, v = .str u ∧ u.length ≤ 1 := by
          rcases hv2 with rfl | rfl | rfl | rfl
          · exact ⟨_, rfl, by decide⟩
          · exact ⟨_, rfl, by decide⟩
          · exact ⟨_, rfl, by decide⟩
          · exact ⟨_, rfl, by decide⟩
        subst hu
        have a2 : (cutS z5 none (some (e6 % ((z4.length : Int) + 1))) ++ u).length ≤ 33 := by rw [len_app]; omega
        refine ⟨_, _, rfl, rfl, sl_ok (by omega), ?_⟩
        have hD7 : (upd (upd H5 D (.lst (W2.map V.str))) t (.lst [V.str "", V.str "", V.str " ", V.str "+"])) D = some (.lst (W2.map V.str)) := by rw [upd_ne tD, upd_same]
        refine ⟨_, rfl, D, _, _, rfl, rfl, SqL.of hD7, by decide, by rw [List.length_map]; omega, fun v hv => ?_⟩
        obtain ⟨z6, hz6, _, rfl⟩ := str_at hv
        have z632 := b32 z6 hz6
        refine ⟨_, rfl, _, rfl, _, rfl, sl_ok (by omega), ?_⟩
        have cut4 := cutS_length z6 (some (e6 % ((z4.length : Int) + 1))) none
        refine ⟨_, _, rfl, rfl, sl_ok (by omega), ?_⟩
        refine ⟨_, rfl, D, _, 0, _, rfl, rfl, hD7, ixN_pos (by decide) (by rw [List.length_map]; omega), ?_⟩
        rw [← List.map_set]
        exact ⟨pl, _, _, _, _, pl0, pl1, rfl, same_upd hD s7, upd_same, .inr (by omega), by rw [List.length_set]; omega, Bd.mono (b := 65) (all_set (Bd.mono b32 (by decide)) (by rw [len_app]; omega)) (by decide)⟩
    rintro σ H6 ⟨pl, W, v5, v6, v7, pl0, pl1, rfl, s6, hw6, hW, hl6, hb6⟩
    -- 11
    refine ⟨M 12, ⟨_, rfl, rfl, _, rfl, ?_⟩, ?_⟩
    · refine int_eq (fun c => ?_) (fun c => ?_)
      · have eW := ahead hW c
        refine ⟨_, rfl, D, _, 1, _, rfl, rfl, hw6, ixN_pos (by decide) (by rw [List.length_map, eW, wl]; omega), ?_⟩
        rw [← List.map_set]
        exact ⟨pl, _, v5, v6, v7, pl0, pl1, rfl, same_upd hD s6, upd_same, .inr (by omega), by rw [List.length_set]; exact hl6, all_set hb6 (by decide)⟩
      · exact ⟨pl, _, v5, v6, v7, pl0, pl1, rfl, s6, hw6, more hW, hl6, hb6⟩
    rintro σ H7 ⟨pl, W, v5, v6, v7, pl0, pl1, rfl, s7, hw7, hW, hl7, hb7⟩
    -- 12
    refine ⟨M 13, ⟨_, rfl, rfl, _, rfl, ?_⟩, ?_⟩
    · refine int_eq (fun c => ?_) (fun c => ?_)
      · have eW := ahead hW c
        refine ⟨_, rfl, a, ds, 3, rfl, sq s7, hd, by decide, fun e3 x0 x1 => ?_⟩
        refine ⟨_, _, rfl, rfl, (by show (0 : Int) < 28; decide), _, _, rfl, rfl, _, _, rfl, rfl, by omega, by omega, by decide, fun r hr' => ?_⟩
        have hr2 : r.length ≤ 40 := by
          rw [hr', show Str.length "0" = 1 from rfl]
          omega
        refine ⟨_, _, rfl, rfl, sl_ok (by rw [show Str.length "1" = 1 from rfl]; omega), _, rfl, a, ds, 4, rfl, sq s7, hd, by decide, fun e4 f0 f1 => ?_⟩
        have w1 : (Str.ofString (toString (e4 % 10))).length ≤ 1 := PyProof.Rows.toString_length_le (by omega) (by decide) (by omega)
        refine ⟨_, _, rfl, rfl, (by show (0 : Int) < 10; decide), _, rfl, log_small (by omega) (by omega), _, _, rfl, rfl, sl_ok (by rw [len_app, show Str.length "1" = 1 from rfl]; omega), ?_⟩
        refine ⟨_, rfl, _, rfl, D, _, pl, _, rfl, rfl, hw7, ixN_pos pl0 (by rw [List.length_map, eW, wl]; omega), ?_⟩
        rw [← List.map_set]
        exact ⟨pl, _, v5, v6, v7, pl0, pl1, rfl, same_upd hD s7, upd_same, .inr (by omega), by rw [List.length_set]; exact hl7, all_set hb7 (by rw [len_app, len_app, show Str.length "1" = 1 from rfl]; omega)⟩
      · exact ⟨pl, _, v5, v6, v7, pl0, pl1, rfl, s7, hw7, more hW, hl7, hb7⟩
    rintro σ H8 ⟨pl, W, v5, v6, v7, pl0, pl1, rfl, s8, hw8, hW, hl8, hb8⟩
    have sum8 := sum_len hb8
    have join8 := join_len "." W
    have dot : Str.length "." = 1 := rfl
    refine ⟨⟨_, rfl⟩, _, rfl, _, D, W, rfl, rfl, .inl (SqL.of hw8), by rw [dot]; omega, ?_⟩
    exact q H8 _ s8 (by rw [dot] at join8; omega)
end
end Kw
set_option Elab.async false
set_option linter.all false
set_option maxRecDepth 100000
set_option maxHeartbeats 4000000
namespace Kw
open PySem PySem.Spec PyProof.Rows L2
/-! ### what a written part is -/
def digs : List Nat := [48, 49, 50, 51, 52, 53, 54, 55, 56, 57]
theorem digs_eq : ("0123456789" : Str).cps.toList = digs := by decide +kernel
def isPart (z : Str) : Bool := decide (1 ≤ z.length) && decide (z.length ≤ 15) && z.cps.toList.all (fun c => decide (c ∈ digs)) && (decide (z.length ≤ 1) || decide (z.cps.toList[0]? ≠ some 48))
def numOf (z : Str) : Int := ((NumText.digitsVal z.cps.toList : Nat) : Int)
theorem isPart_int {z : Str} (h : isPart z = true) : PySem.intText? z = some (numOf z) ∧ z.length ≤ 15 := by
  unfold isPart at h
  simp only [Bool.and_eq_true, decide_eq_true_eq] at h
  obtain ⟨⟨⟨h1, h2⟩, h3⟩, _⟩ := h
  refine ⟨intText_digits (fun c hc => ?_) (fun e => ?_) (by omega), h2⟩
  · have q := of_decide_eq_true (List.all_eq_true.mp h3 c hc)
    simp only [digs, List.mem_cons, List.not_mem_nil, or_false] at q
    omega
  · have l : z.cps.toList.length = z.length := Array.length_toList
    rw [e] at l
    have l2 : (0 : Nat) = z.length := l
    omega
def readS (z : Str) (c : Int) : Option (List Int) :=
  if ((Txt.split z ".").length : Int) = c ∧ (Txt.split z ".").all isPart = true ∧ ((Txt.split z ".").map numOf)[1]? ≠ some 0 then some ((Txt.split z ".").map numOf) else none
def readV : V → Int → Option (List Int)
  | .str z, c => readS z c
  | _, _ => none
theorem split_len {a b y : Str} (h : y ∈ Txt.split a b) : y.length ≤ a.length := by
  unfold Txt.split at h
  split at h
  · rw [List.mem_singleton.mp h]
    exact Nat.le_refl _
  · split at h
    · rw [List.mem_singleton.mp h]
      exact Nat.le_refl _
    · unfold Builtin.Str.partsBetween at h
      obtain ⟨p, _, e⟩ := List.mem_map.mp h
      rw [← e]
      show (a.cps.extract p.1 p.2).size ≤ a.cps.size
      rw [Array.size_extract]
      omega
theorem split_num (a : Str) : (Txt.split a ".").length ≤ a.length + 2 := PyProof.Rows.split_le a "."
def sp_is_part : Sp := fun vs H Q _ => ∃ z : Str, vs = [.str z] ∧ z.length ≤ 1000 ∧ ∀ H' : Hp, Same H H' → Q (.bl (isPart z)) H'
def sp_read : Sp := fun vs H Q _ => ∃ (x : V) (c : Int), vs = [x, .int c] ∧ Thing H x ∧ 2 ≤ c ∧
  (readV x c = none → ∀ H' : Hp, Same H H' → Q .non H') ∧ (∀ ns, readV x c = some ns → ∀ (H' : Hp) (p : Addr), Same H H' → H' p = some (.tup (ns.map V.int)) → Q (.ref p) H')
section
variable {P : Program} {w : World} {K : PySem.W.Frag} {mg : Str → Option Value} {base : Heap}
theorem NoStr.kit {H : Hp} {v : V} (h : NoStr H v) : ∃ t : String, TyX K H v (.type t) ∧ kitB t "str" = some false := by
  cases h with
  | non => exact ⟨_, .base .non, by decide +kernel⟩
  | bl b => exact ⟨_, .base (.bl b), by decide +kernel⟩
  | int i => exact ⟨_, .base (.int i), by decide +kernel⟩
  | lst h => exact ⟨_, .base (.lst h), by decide +kernel⟩
  | tup h => exact ⟨_, .base (.tup h), by decide +kernel⟩
  | dic h => exact ⟨_, .base (.dK h), by decide +kernel⟩
theorem NoStr.readV {H : Hp} {v : V} (h : NoStr H v) (c : Int) : readV v c = none := by
  cases h <;> rfl
theorem ok_thing {f : Addr} {fd : FuncData} (F : Fun K "_law_thing" "_law_thing" s_law_thing f fd) (T : Txt K mg) (c_law_at : CalX P w K mg base CX0 2 "_law_at" (sp_at K)) : FnOk P w K mg base CX0 3 f fd ["draws", "line"] (sp_thing K) := by
  refine F.ok sc_law_thing (fun vs H Q E h => ?_) (fun cdv A outer s H vs Q E hr h => ?_)
  · obtain ⟨a, ds, z, rfl, _⟩ := h
    rfl
  · obtain ⟨a, ds, z, rfl, hS, hd, hz, q⟩ := h
    refine ⟨_, (pss_cons (ps_if (pt_cmpR op_ne (pe_op op_mod (pe_cx c_law_at (hr.mono (by omega)) (by rfl) pass0 (pa_cons (pv 0) (pa_cons pe_int pa_nil))) pe_int) pe_int (nomark _)) (pss_one (ps_ret (pv 1))) pss_nil)
        (pss_cons (ps_set (i := 2) sc_law_thing.nd rfl (Or.inl rfl) (pe_op op_mod (pe_cx c_law_at (hr.mono (by omega)) (by rfl) pass0 (pa_cons (pv 0) (pa_cons pe_int pa_nil))) pe_int))
        (pss_cons (ps_if (pt_cmpR op_eq (pv 2) pe_int (nomark _)) (pss_one (ps_ret pe_bl)) pss_nil)
        (pss_cons (ps_if (pt_cmpR op_eq (pv 2) pe_int (nomark _)) (pss_one (ps_ret (pe_disp (pps_cons (pv 1) (pv 1) pps_nil) (by rfl) (by rfl) (fun z => by cases z) (by decide)))) pss_nil)
        (pss_cons (ps_if (pt_cmpR op_gt (pv 2) pe_int (nomark _)) (pss_one (ps_ret (pe_op op_mul_str pe_str (pe_op op_mod (pe_cx c_law_at (hr.mono (by omega)) (by rfl) pass0 (pa_cons (pv 0) (pa_cons pe_int pa_nil))) pe_int)))) pss_nil)
        (pss_cons (ps_if (pt_cmpR op_eq (pv 2) pe_int (nomark _)) (pss_one (ps_ret pe_non)) pss_nil)
        (pss_cons (ps_if (pt_cmpR op_eq (pv 2) pe_int (nomark _)) (pss_one (ps_ret pe_bl)) pss_nil)
        (pss_cons (ps_if (pt_cmpR op_eq (pv 2) pe_int (nomark _)) (pss_one (ps_ret (pe_cx c_law_at (hr.mono (by omega)) (by rfl) pass0 (pa_cons (pv 0) (pa_cons pe_int pa_nil))))) pss_nil)
        (pss_cons (ps_if (pt_cmpR op_eq (pv 2) pe_int (nomark _)) (pss_one (ps_ret (pe_lst (pa_cons (pv 1) pa_nil)))) pss_nil)
        (pss_one (ps_ret (pe_tup (pa_cons pe_int (pa_cons (pe_op op_add pe_int (pe_cx c_law_at (hr.mono (by omega)) (by rfl) pass0 (pa_cons (pv 0) (pa_cons pe_int pa_nil)))) pa_nil)))))))))))))), ?_⟩
    refine ⟨_, rfl, a, ds, 1, rfl, hS, hd, by decide, fun d d0 d1 => ?_⟩
    refine ⟨_, _, rfl, rfl, (by show (0 : Int) < 14; decide), rfl, _, rfl, ?_⟩
    refine ite_not (fun _ => ?_) (fun _ => ?_)
    · exact ⟨_, rfl, q H _ (Same.refl H) (.inl ⟨z, rfl, hz⟩)⟩
    refine ⟨_, rfl, a, ds, 3, rfl, hS, hd, by decide, fun e e0 e1 => ?_⟩
    refine ⟨_, _, rfl, rfl, (by show (0 : Int) < 9; decide), _, rfl, rfl, _, rfl, ?_⟩
    refine int_eq (fun _ => ?_) (fun _ => ?_)
    · exact q H _ (Same.refl H) (.inr (.bl false))
    refine ⟨_, rfl, rfl, _, rfl, ?_⟩
    refine int_eq (fun _ => ?_) (fun _ => ?_)
    · refine fun p hp => ⟨_, rfl, _, rfl, upd_same, [(.inr z, .str z)], rfl, by show 1 ≤ 15; decide, ?_⟩
      exact q _ _ (same_upd hp (same_new hp (Same.refl H))) (.inr (.dic upd_same))
    refine ⟨_, rfl, _, _, rfl, rfl, _, rfl, ?_⟩
    refine ite_some (fun _ => ?_) (fun _ => ?_)
    · refine ⟨_, rfl, a, ds, 4, rfl, hS, hd, by decide, fun g g0 g1 => ?_⟩
      refine ⟨_, _, rfl, rfl, (by show (0 : Int) < 4; decide), _, _, rfl, rfl, by omega, by omega, by decide, fun r hr' => ?_⟩
      exact q H _ (Same.refl H) (.inl ⟨r, rfl, by rw [hr', show Str.length "." = 1 from rfl]; omega⟩)
    refine ⟨_, rfl, rfl, _, rfl, ?_⟩
    refine int_eq (fun _ => ?_) (fun _ => ?_)
    · exact q H _ (Same.refl H) (.inr .non)
    refine ⟨_, rfl, rfl, _, rfl, ?_⟩
    refine int_eq (fun _ => ?_) (fun _ => ?_)
    · exact q H _ (Same.refl H) (.inr (.bl true))
    refine ⟨_, rfl, rfl, _, rfl, ?_⟩
    refine int_eq (fun _ => ?_) (fun _ => ?_)
    · exact ⟨_, rfl, a, ds, 4, rfl, hS, hd, by decide, fun g g0 g1 => q H _ (Same.refl H) (.inr (.int g))⟩
    refine ⟨_, rfl, rfl, _, rfl, ?_⟩
    refine int_eq (fun _ => ?_) (fun _ => ?_)
    · exact ⟨_, rfl, (by show 1 ≤ sizeLine; decide), fun p hp => q _ _ (same_new hp (Same.refl H)) (.inr (.lst upd_same))⟩
    refine ⟨_, rfl, a, ds, 4, rfl, hS, hd, by decide, fun g g0 g1 => ?_⟩
    exact ⟨_, _, rfl, rfl, (by show 2 ≤ sizeLine; decide), fun p hp => q _ _ (same_new hp (Same.refl H)) (.inr (.tup upd_same))⟩
theorem ok_format {f : Addr} {fd : FuncData} (F : Fun K "format_name" "format_name" s_format_name f fd) (T : Txt K mg) : FnOk P w K mg base CX0 1 f fd ["name"] sp_format := by
  refine F.ok sc_format_name (fun vs H Q E h => ?_) (fun cdv A outer s H vs Q E hr h => ?_)
  · obtain ⟨a, ps, rfl, _⟩ := h
    rfl
  · obtain ⟨a, ps, rfl, ha, ⟨p2, p4, pp⟩, q⟩ := h
    refine ⟨_, (pss_one (ps_ret (pe_join pe_str (pe_lc (own := [("part", 1)]) (g := gName 1) (by rfl) sc_format_name.nd (pi_tup (pv 0)) (blkOk_by (own := [("part", 1)]) (N := N_format_name) (sc := defScope s_format_name) (by decide +kernel)) (fun _ _ _ _ _ => pg_name (i := 1) sc_format_name.nd rfl (Or.inl rfl)) (fun _ _ _ _ _ => pts_nil) (fun _ _ _ _ _ => (pe_callTy call_str_int (by rfl) T.n_str (by decide +kernel) (pa_cons (pv 1) pa_nil))))))), ?_⟩
    refine ⟨⟨_, rfl⟩, _, rfl, a, rfl, ⟨_, SqT.of ha⟩, fun D hD => ?_⟩
    refine lc_map (walk_tup (K := K) (a := a) (xs := ps.map V.int)) hD (by rw [List.length_map]; omega) (fun i => V.str (Str.ofString (toString (ps.getD i 0)))) (fun H1 s1 => SqT.of (s1 _ _ ha)) ?_ ?_
    · rintro i x H1 H2 hi s1 ⟨rfl, hx⟩
      obtain ⟨z, hz, rfl⟩ := int_at hx
      have hz2 := pp z (List.mem_of_getElem? hz)
      refine ⟨Same.refl _, fun Q' q' => ⟨_, rfl, z, rfl, log_small hz2.1 (Int.lt_of_lt_of_le hz2.2 (by decide)), ?_⟩⟩
      have e : ps.getD i 0 = z := by rw [List.getD_eq_getElem?_getD, hz]; rfl
      have h := q' H2 (Same.refl _)
      rw [e] at h
      exact h
    · intro H1 s1 hD1
      have e : (List.range (ps.map V.int).length).map (fun i => V.str (Str.ofString (toString (ps.getD i 0)))) = (wordsOf ps).map V.str := by
        rw [List.length_map]
        rw [range_map ps _ (fun p => V.str (Str.ofString (toString p))) (fun i x hx => by rw [List.getD_eq_getElem?_getD, hx]; rfl)]
        show _ = (ps.map _).map _
        rw [List.map_map]
        rfl
      rw [e] at hD1
      have wl : (wordsOf ps).length = ps.length := List.length_map _
      have sm := sum_len (words_len pp)
      exact ⟨_, D, wordsOf ps, rfl, rfl, .inl (SqL.of hD1), by rw [show Str.length "." = 1 from rfl]; omega, q H1 s1⟩
end
end Kw
set_option Elab.async false
set_option linter.all false
set_option maxRecDepth 100000
set_option maxHeartbeats 4000000
namespace Kw
open PySem PySem.Spec PyProof.Rows L2
theorem one_zero (c : Nat) : (V.str ⟨#[c]⟩ = V.str "0") ↔ c = 48 := by
  constructor
  · intro h
    have h1 : (⟨#[c]⟩ : Str) = "0" := V.str.inj h
    have h2 : (⟨#[c]⟩ : Str).cps.toList = ("0" : Str).cps.toList := congrArg (fun z : Str => z.cps.toList) h1
    have h3 : [c] = [48] := h2.trans (by decide +kernel)
    exact List.head_eq_of_cons_eq h3
  · intro h
    rw [h]
    exact congrArg V.str (by decide +kernel)
theorem str_one {z : Str} {c : Nat} (h : z.length ≤ 1) (hc : z.cps.toList[0]? = some c) : z = ⟨#[c]⟩ := by
  have l : z.cps.toList.length = z.length := Array.length_toList
  have e : z.cps.toList = [c] := by
    match hq : z.cps.toList, l, hc with
    | [], _, hc => cases hc
    | [d], _, hc =>
      have : d = c := by simpa using hc
      rw [this]
    | d :: e :: r, l, _ =>
      rw [List.length_cons, List.length_cons] at l
      omega
  have e2 : z.cps = #[c] := by
    apply Array.toList_inj.mp
    rw [e]
  cases z with
  | mk a => exact congrArg Str.mk e2
theorem str_zero : ("0" : Str) = ⟨#[48]⟩ := by decide +kernel
theorem isPart_of {z : Str} (h1 : 1 ≤ z.length) (h2 : z.length ≤ 15) (h3 : z.cps.toList.all (fun c => decide (c ∈ digs)) = true) : isPart z = (decide (z.length ≤ 1) || decide (z.cps.toList[0]? ≠ some 48)) := by
  unfold isPart
  rw [decide_eq_true h1, decide_eq_true h2, h3]
  rfl
theorem isPart_not1 {z : Str} (h : ¬ 1 ≤ z.length) : isPart z = false := by
  unfold isPart
  rw [decide_eq_false h]
  rfl
theorem isPart_not2 {z : Str} (h : ¬ z.length ≤ 15) : isPart z = false := by
  unfold isPart
  rw [decide_eq_false h, Bool.and_false]
  rfl
theorem isPart_not3 {z : Str} (h : z.cps.toList.all (fun c => decide (c ∈ digs)) = false) : isPart z = false := by
  unfold isPart
  rw [h, Bool.and_false]
  rfl
section
variable {P : Program} {w : World} {K : PySem.W.Frag} {mg : Str → Option Value} {base : Heap}
theorem ok_is_part {f : Addr} {fd : FuncData} (F : Fun K "_is_part" "_is_part" s_is_part f fd) (T : Txt K mg) : FnOk P w K mg base CX0 1 f fd ["part"] sp_is_part := by
  refine F.ok sc_is_part (fun vs H Q E h => ?_) (fun cdv A outer s H vs Q E hr h => ?_)
  · obtain ⟨z, rfl, _⟩ := h
    rfl
  · obtain ⟨z, rfl, hz, q⟩ := h
    refine ⟨_, (pss_cons (ps_if (pt_not (pt_chain op_le op_le pe_int (pe_callB call_len_str (by rfl) T.n_len (by decide +kernel) (pa_cons (pv 0) pa_nil)) (C8.pe_gc (by rfl) T.g_MOST_DIGITS))) (pss_one (ps_ret pe_bl)) pss_nil)
        (pss_cons (ps_if (pt_not (pt_val (pe_callB (cr_all rfl) (by rfl) T.n_all (by decide +kernel) (pa_cons (pe_lc (own := [("character", 1)]) (g := gName 1) (by rfl) sc_is_part.nd (pi_str (pv 0)) (blkOk_by (own := [("character", 1)]) (N := N_is_part) (sc := defScope s_is_part) (by decide +kernel)) (fun _ _ _ _ _ => pg_name (i := 1) sc_is_part.nd rfl (Or.inl rfl)) (fun _ _ _ _ _ => pts_nil) (fun _ _ _ _ _ => (pe_cmpR op_in_sign (pv 1) (C8.pe_gc (by rfl) T.g_DIGITS) (by with_unfolding_all rfl)))) pa_nil)))) (pss_one (ps_ret pe_bl)) pss_nil)
        (pss_one (ps_ret (pe_or (pe_cmpR op_eq (pv 0) pe_str (nomark _)) (pe_one (pe_cmpR op_ne (pe_ix ix_strA (pv 0) pe_int (fun _ _ => rfl)) pe_str (nomark _)))))))), ?_⟩
    have hl : z.cps.toList.length = z.length := Array.length_toList
    refine ⟨_, rfl, _, rfl, sl_ok (by omega), _, _, rfl, rfl, _, rfl, ?_⟩
    refine ite_some (fun c1 => ?_) (fun c1 => ?_)
    case refine_2 =>
      refine ⟨false, rfl, ?_⟩
      have h := q H (Same.refl H)
      rw [isPart_not1 (by omega)] at h
      exact h
    refine ⟨_, _, rfl, rfl, _, rfl, ?_⟩
    refine ite_not (fun c2 => ?_) (fun c2 => ?_)
    · have h := q H (Same.refl H)
      rw [isPart_not2 (by omega)] at h
      exact h
    refine ⟨_, rfl, _, rfl, fun D hD => ?_⟩
    refine lc_map walk_str hD (by show z.length ≤ _; omega) (fun i => V.bl (decide (z.cps.toList.getD i 0 ∈ digs))) (fun _ _ => trivial) ?_ ?_
    · rintro i x H1 H2 hi s1 ⟨rfl, c, hc, rfl⟩
      refine ⟨Same.refl _, fun Q' q' => ⟨_, rfl, _, _, rfl, rfl, ?_⟩⟩
      have e : z.cps.toList.getD i 0 = c := by rw [List.getD_eq_getElem?_getD, Array.getElem?_toList, hc]; rfl
      have h := q' H2 (Same.refl _)
      rw [e] at h
      rw [digs_eq]
      exact h
    · intro H1 s1 hD1
      have e : (List.range z.cps.size).map (fun i => V.bl (decide (z.cps.toList.getD i 0 ∈ digs))) = (z.cps.toList.map (fun c => decide (c ∈ digs))).map V.bl := by
        rw [List.map_map]
        rw [show z.cps.size = z.cps.toList.length from hl.symm]
        exact range_map z.cps.toList _ (fun c => V.bl (decide (c ∈ digs))) (fun i x hx => by rw [List.getD_eq_getElem?_getD, hx]; rfl)
      rw [e] at hD1
      refine ⟨D, _, rfl, SqL.of hD1, _, rfl, ?_⟩
      have e2 : (z.cps.toList.map (fun c => decide (c ∈ digs))).all id = z.cps.toList.all (fun c => decide (c ∈ digs)) := by rw [List.all_map]; rfl
      rw [e2]
      cases ha : z.cps.toList.all (fun c => decide (c ∈ digs)) with
      | false =>
        refine iteT ?_
        have h := q H1 s1
        rw [isPart_not3 ha] at h
        exact h
      | true =>
        refine iteF ?_
        have ip := isPart_of (z := z) (by omega) (by omega) ha
        refine ⟨_, rfl, rfl, _, rfl, ?_⟩
        refine ite_some (fun c3 => ?_) (fun c3 => ?_)
        · have ez : z = "0" := V.str.inj c3
          have h := q H1 s1
          rw [ip, decide_eq_true (show z.length ≤ 1 by rw [ez]; decide)] at h
          exact h
        · refine ⟨_, rfl, _, _, rfl, rfl, sl_ok (by omega), by decide, by omega, fun c hc => ?_⟩
          refine ⟨rfl, ?_⟩
          have h := q H1 s1
          have hc0 : z.cps.toList[0]? = some c := hc
          have e3 : (!decide (V.str ⟨#[c]⟩ = V.str "0")) = isPart z := by
            rw [ip, hc0]
            by_cases l1 : z.length ≤ 1
            · have ez := str_one l1 hc0
              rw [decide_eq_true l1, Bool.true_or]
              rw [← ez, decide_eq_false c3]
              rfl
            · rw [decide_eq_false l1, Bool.false_or]
              by_cases c48 : c = 48
              · rw [decide_eq_true ((one_zero c).mpr c48), c48]
                rfl
              · rw [decide_eq_false (fun e => c48 ((one_zero c).mp e))]
                exact (decide_eq_true (show some c ≠ some 48 from fun e => c48 (Option.some.inj e))).symm
          rw [← e3] at h
          exact h
theorem not_part {z : Str} {c : Int} {i : Nat} {y : Str} (h : (Txt.split z ".")[i]? = some y) (hp : isPart y = false) : readV (.str z) c = none := by
  show readS z c = none
  unfold readS
  rw [if_neg]
  rintro ⟨_, h2, _⟩
  have q := List.all_eq_true.mp h2 y (List.mem_of_getElem? h)
  rw [hp] at q
  cases q
theorem ok_read {f : Addr} {fd : FuncData} (F : Fun K "_law_read" "_law_read" s_law_read f fd) (T : Txt K mg) : FnOk P w K mg base CX0 1 f fd ["line", "count"] sp_read := by
  refine F.ok sc_law_read (fun vs H Q E h => ?_) (fun cdv A outer s H vs Q E hr h => ?_)
  · obtain ⟨x, c, rfl, _⟩ := h
    rfl
  · obtain ⟨x, c, rfl, hx, hc2, q0, q1⟩ := h
    refine ⟨_, (pss_cons (ps_if (pt_not (pt_val (pe_callB call_isi (by rfl) T.n_isinstance (by decide +kernel) (pa_cons (pv 0) (pa_cons (pe_bltn (v := .ty "str") (by rfl) T.n_str (by decide +kernel) rfl) pa_nil))))) (pss_one (ps_ret pe_non)) pss_nil)
        (pss_cons (ps_set (i := 2) sc_law_read.nd rfl (Or.inl rfl) (pe_split (pv 0) pe_str))
        (pss_cons (ps_if (pt_cmpR op_ne (pe_callB call_lenL (by rfl) T.n_len (by decide +kernel) (pa_cons (pv 2) pa_nil)) (pv 1) (nomark _)) (pss_one (ps_ret pe_non)) pss_nil)
        (pss_cons (ps_for PassesOwn.never rfl (pi_list (pv 2)) (pg_name (i := 3) sc_law_read.nd rfl (Or.inl rfl)) (pss_cons (ps_if (PW.pt (pw_or (pt_cmpR op_eq (pv 3) pe_str (nomark _)) (pw_or (pt_cmpR op_gt (pe_callB call_len_str (by rfl) T.n_len (by decide +kernel) (pa_cons (pv 3) pa_nil)) pe_int (nomark _)) (pw_or1 (PW.pt (pw_and (pt_cmpR op_gt (pe_callB call_len_str (by rfl) T.n_len (by decide +kernel) (pa_cons (pv 3) pa_nil)) pe_int (nomark _)) (pw_and1 (pt_cmpR op_eq (pe_ix ix_strA (pv 3) pe_int (fun _ _ => rfl)) pe_str (nomark _))))))))) (pss_one (ps_ret pe_non)) pss_nil)
        (pss_one (ps_for PassesOwn.never rfl (pi_str (pv 3)) (pg_name (i := 5) sc_law_read.nd rfl (Or.inl rfl)) (pss_one (ps_if (pt_cmpR op_notIn_sign (pv 5) pe_str (by with_unfolding_all rfl)) (pss_one (ps_ret pe_non)) pss_nil))))))
        (pss_cons (ps_setLc (i := 4) (own := [("word", 3)]) (g := gName 3) rfl sc_law_read.nd rfl rfl (sw_true rfl rfl rfl (by decide +kernel)) (pi_list (pv 2)) (blkOk_by (own := [("word", 3)]) (N := N_law_read) (sc := defScope s_law_read) (by decide +kernel)) (fun _ _ _ _ _ => pg_name (i := 3) sc_law_read.nd rfl (Or.inl rfl)) (fun _ _ _ _ _ => pts_nil) (fun _ _ _ _ _ => (pe_callTy call_int_str (by rfl) T.n_int (by decide +kernel) (pa_cons (pv 3) pa_nil))))
        (pss_cons (ps_if (pt_cmpR op_eq (pe_ix ix_listA (pv 4) pe_int (fun _ _ => rfl)) pe_int (nomark _)) (pss_one (ps_ret pe_non)) pss_nil)
        (pss_one (ps_ret (pe_callTy call_tuple_of (by rfl) T.n_tuple (by decide +kernel) (pa_cons (pv 4) pa_nil)))))))))), ?_⟩
    rcases hx with ⟨z, rfl, hz⟩ | hx
    case inr =>
      obtain ⟨t, ht, hk⟩ := hx.kit
      refine ⟨_, rfl, x, .ty "str", _, _, false, rfl, .ty _, ht, kit_ty hk, false, rfl, ?_⟩
      refine iteT ?_
      exact q0 (hx.readV c) H (Same.refl H)
    refine ⟨_, rfl, .str z, .ty "str", .type "str", .type "str", true, rfl, .ty _, .base (.str z), kit_ty (by decide +kernel), true, rfl, ?_⟩
    refine iteF ?_
    have sn := split_num z
    refine ⟨_, rfl, ⟨_, rfl⟩, z, _, rfl, rfl, by decide +kernel, sl_ok (by omega), fun L hL => ?_⟩
    have s0 : Same H (upd H L (.lst ((Txt.split z ".").map V.str))) := same_new hL (Same.refl H)
    generalize hW : Txt.split z "." = W at *
    have wl : ∀ y ∈ W, y.length ≤ 1000 := fun y hy => Nat.le_trans (split_len (by rw [hW]; exact hy)) hz
    refine ⟨_, rfl, L, _, rfl, SqL.of upd_same, _, rfl, rfl, _, rfl, ?_⟩
    rw [List.length_map]
    refine ite_not (fun c1 => ?_) (fun c1 => ?_)
    · refine q0 ?_ _ s0
      show readS z c = none
      unfold readS
      rw [hW, if_neg]
      rintro ⟨h1, _⟩
      exact c1 (by rw [h1])
    have hc : (W.length : Int) = c := V.int.inj c1
    refine ⟨_, rfl, L, rfl, ⟨_, SqL.of upd_same⟩, for_list (K := K) (a := L) (xs := W.map V.str) (fun i σ H' => ∃ v3 v5 : Option V, σ = [some (.str z), some (.int c), some (.ref L), v3, none, v5] ∧ Same (upd H L (.lst (W.map V.str))) H' ∧ ∀ y ∈ W.take i, isPart y = true)
      ⟨none, none, rfl, Same.refl _, fun y hy => by rw [List.take_zero] at hy; cases hy⟩ (fun i σ H' _ ⟨_, _, _, s1, _⟩ => SqL.of (s1 _ _ upd_same)) ?_ ?_⟩
    · rintro i x σ H' hi ⟨v3, v5, rfl, s1, hy⟩
      obtain ⟨y, hyW, hyi, rfl⟩ := str_at hi
      have y1 := wl y hyW
      have hl : y.cps.toList.length = y.length := Array.length_toList
      have bad : isPart y = false → Q .non H' := fun h => q0 (not_part (by rw [hW]; exact hyi) h) H' (s0.trans s1)
      refine ⟨_, rfl, rfl, _, rfl, ?_⟩
      refine ite_some (fun c2 => ?_) (fun c2 => ?_)
      · refine bad (isPart_not1 ?_)
        rw [V.str.inj c2]
        decide
      have y0 : 1 ≤ y.length := by
        rcases Nat.eq_zero_or_pos y.length with h | h
        · refine absurd ?_ c2
          have e : y.cps = #[] := Array.size_eq_zero_iff.mp h
          cases y with
          | mk a =>
            have ea : a = #[] := e
            rw [ea]
            rfl
        · exact h
      refine ⟨_, rfl, _, rfl, sl_ok (by omega), _, _, rfl, rfl, _, rfl, ?_⟩
      refine ite_some (fun c3 => ?_) (fun c3 => ?_)
      · exact bad (isPart_not2 (by omega))
      refine ⟨_, rfl, _, rfl, sl_ok (by omega), _, _, rfl, rfl, _, rfl, ?_⟩
      -- the first sign
      refine ite_some (fun c4 => ?_) (fun c4 => ?h)
      · refine ⟨_, rfl, _, _, rfl, rfl, sl_ok (by omega), by decide, by omega, fun ch hch => ?_⟩
        have hch0 : y.cps.toList[0]? = some ch := hch
        refine ⟨rfl, _, rfl, ?_⟩
        refine ite_some (fun c5 => ?_) (fun c5 => ?g)
        · refine bad ?_
          have e48 := (one_zero ch).mp c5
          unfold isPart
          rw [hch0, e48, decide_eq_false (show ¬ y.length ≤ 1 by omega), decide_eq_false (show ¬ (some 48 ≠ some 48) from fun h => h rfl), Bool.or_false, Bool.and_false]
        case g =>
          have fin : y.cps.toList.all (fun c => decide (c ∈ digs)) = true → isPart y = true := fun h => by
            rw [isPart_of y0 (by omega) h, hch0, decide_eq_true (show some ch ≠ some 48 from fun e => c5 ((one_zero ch).mpr (Option.some.inj e))), Bool.or_true]
          refine ⟨_, rfl, y, rfl, for_it walk_str (fun j σ H2 => ∃ v5 : Option V, σ = [some (.str z), some (.int c), some (.ref L), some (.str y), none, v5] ∧ H' = H2 ∧ ∀ k ch, k < j → y.cps.toList[k]? = some ch → ch ∈ digs)
            ⟨v5, rfl, rfl, fun k ch h => absurd h (Nat.not_lt_zero _)⟩ (fun _ _ _ _ _ => trivial) ?_ ?_⟩
          · rintro j x σ H1 H2 hj ⟨v5', rfl, rfl, hk⟩ ⟨rfl, ch, hch, rfl⟩
            have hch1 : y.cps.toList[j]? = some ch := by rw [Array.getElem?_toList]; exact hch
            refine ⟨_, rfl, _, _, rfl, rfl, _, rfl, ?_⟩
            rw [digs_eq]
            refine ite_not (fun c6 => ?_) (fun c6 => ?_)
            · refine bad (isPart_not3 (Bool.eq_false_iff.mpr fun h => c6 ?_))
              exact of_decide_eq_true (List.all_eq_true.mp h ch (List.mem_of_getElem? hch1))
            · refine ⟨_, rfl, rfl, fun k c' hkj hc' => ?_⟩
              rcases Nat.lt_succ_iff_lt_or_eq.mp hkj with h | h
              · exact hk k c' h hc'
              · rw [h, hch1] at hc'
                rw [← Option.some.inj hc']
                exact c6
          · rintro σ H2 ⟨v5', rfl, rfl, hk⟩
            refine ⟨_, _, rfl, s1, fun u hu => ?_⟩
            rw [List.take_add_one, hyi] at hu
            rcases List.mem_append.mp hu with h | h
            · exact hy u h
            · rw [List.mem_singleton.mp h]
              refine fin (List.all_eq_true.mpr fun d hd => decide_eq_true ?_)
              obtain ⟨k, hk2, e⟩ := List.mem_iff_getElem.mp hd
              exact hk k d (by rw [hl] at hk2; exact hk2) (by rw [List.getElem?_eq_getElem hk2, e])
      case h =>
        have fin : y.cps.toList.all (fun c => decide (c ∈ digs)) = true → isPart y = true := fun h => by
          rw [isPart_of y0 (by omega) h, decide_eq_true (show y.length ≤ 1 by omega), Bool.true_or]
        refine ⟨_, rfl, y, rfl, for_it walk_str (fun j σ H2 => ∃ v5 : Option V, σ = [some (.str z), some (.int c), some (.ref L), some (.str y), none, v5] ∧ H' = H2 ∧ ∀ k ch, k < j → y.cps.toList[k]? = some ch → ch ∈ digs)
          ⟨v5, rfl, rfl, fun k ch h => absurd h (Nat.not_lt_zero _)⟩ (fun _ _ _ _ _ => trivial) ?_ ?_⟩
        · rintro j x σ H1 H2 hj ⟨v5', rfl, rfl, hk⟩ ⟨rfl, ch, hch, rfl⟩
          have hch1 : y.cps.toList[j]? = some ch := by rw [Array.getElem?_toList]; exact hch
          refine ⟨_, rfl, _, _, rfl, rfl, _, rfl, ?_⟩
          rw [digs_eq]
          refine ite_not (fun c6 => ?_) (fun c6 => ?_)
          · refine bad (isPart_not3 (Bool.eq_false_iff.mpr fun h => c6 ?_))
            exact of_decide_eq_true (List.all_eq_true.mp h ch (List.mem_of_getElem? hch1))
          · refine ⟨_, rfl, rfl, fun k c' hkj hc' => ?_⟩
            rcases Nat.lt_succ_iff_lt_or_eq.mp hkj with h | h
            · exact hk k c' h hc'
            · rw [h, hch1] at hc'
              rw [← Option.some.inj hc']
              exact c6
        · rintro σ H2 ⟨v5', rfl, rfl, hk⟩
          refine ⟨_, _, rfl, s1, fun u hu => ?_⟩
          rw [List.take_add_one, hyi] at hu
          rcases List.mem_append.mp hu with h | h
          · exact hy u h
          · rw [List.mem_singleton.mp h]
            refine fin (List.all_eq_true.mpr fun d hd => decide_eq_true ?_)
            obtain ⟨k, hk2, e⟩ := List.mem_iff_getElem.mp hd
            exact hk k d (by rw [hl] at hk2; exact hk2) (by rw [List.getElem?_eq_getElem hk2, e])
    · rintro σ H' ⟨v3, v5, rfl, s1, hy⟩
      rw [List.length_map, List.take_length] at hy
      have hall : W.all isPart = true := List.all_eq_true.mpr hy
      have hWl : (W.map numOf).length = W.length := List.length_map _
      -- the numbers
      refine ⟨_, rfl, L, rfl, ⟨_, SqL.of (s1 _ _ upd_same)⟩, fun M hM => ?_⟩
      refine lc_map (walk_list (xs := W.map V.str)) hM (by rw [List.length_map]; omega) (fun i => V.int (numOf (W.getD i ""))) (fun H2 s2 => SqL.of (s2 _ _ (s1 _ _ upd_same))) ?_ ?_
      · rintro i x H1 H2 hi s2 ⟨rfl, hx⟩
        obtain ⟨y, hyW, hyi, rfl⟩ := str_at hx
        have ip := isPart_int (hy y hyW)
        refine ⟨Same.refl _, fun Q' q' => ⟨_, rfl, y, _, rfl, ip.1, by omega, ?_⟩⟩
        have e : W.getD i "" = y := by rw [List.getD_eq_getElem?_getD, hyi]; rfl
        have h := q' H2 (Same.refl _)
        rw [e] at h
        exact h
      · intro H2 s2 hM2
        have e : (List.range (W.map V.str).length).map (fun i => V.int (numOf (W.getD i ""))) = (W.map numOf).map V.int := by
          rw [List.length_map, List.map_map]
          exact range_map W _ (fun y => V.int (numOf y)) (fun i x hx => by rw [List.getD_eq_getElem?_getD, hx]; rfl)
        rw [e] at hM2
        have s3 := s0.trans (s1.trans s2)
        refine ⟨_, rfl, M, _, _, rfl, rfl, SqL.of hM2, by decide, by rw [List.length_map, hWl]; omega, fun v hv => ?_⟩
        obtain ⟨n, hn, rfl⟩ := int_at hv
        have hn1 : (W.map numOf)[1]? = some n := hn
        refine ⟨rfl, _, rfl, ?_⟩
        refine int_eq (fun c6 => ?_) (fun c6 => ?_)
        · refine q0 ?_ _ s3
          show readS z c = none
          unfold readS
          rw [hW, if_neg]
          rintro ⟨_, _, h3⟩
          exact h3 (by rw [hn1, c6])
        · refine ⟨_, rfl, M, _, rfl, .inl ⟨SqL.of hM2, fun t ht => ?_⟩⟩
          refine q1 (W.map numOf) ?_ _ t (same_new ht s3) upd_same
          show readS z c = some _
          unfold readS
          rw [hW, if_pos]
          exact ⟨hc, hall, fun h => c6 (Option.some.inj (hn1.symm.trans h))⟩
end
end Kw
set_option Elab.async false
set_option linter.all false
set_option maxRecDepth 100000
set_option maxHeartbeats 4000000
namespace Kw
open PySem PySem.Spec PyProof.Rows L2
/-- what a parse of the written form owes -/
def sp_parse_i (CN : Addr) : Sp := fun vs H Q E => ∃ (x : V) (c : Int), vs = [x, .int c] ∧ Thing H x ∧ 2 ≤ c ∧ c ≤ 4 ∧
  (readV x c = none → ∀ H' : Hp, Same H H' → E (.ref CN) none H') ∧ (∀ ns, readV x c = some ns → ∀ (H' : Hp) (p : Addr), Same H H' → H' p = some (.tup (ns.map V.int)) → Q (.ref p) H')
def sp_parse_1 (CN : Addr) (c : Int) : Sp := fun vs H Q E => ∃ x : V, vs = [x] ∧ sp_parse_i CN [x, .int c] H Q E
theorem numOf_nonneg (y : Str) : 0 ≤ numOf y := Int.natCast_nonneg _
section
variable {P : Program} {w : World} {K : PySem.W.Frag} {mg : Str → Option Value} {base : Heap} {CN : Addr}
theorem ok_parse_i {f : Addr} {fd : FuncData} (F : Fun K "_parse" "_parse" s_parse f fd) (T : TxtX K mg CN) (c_is_part : CalX P w K mg base CX0 1 "_is_part" sp_is_part) : FnOk P w K mg base (L2.CX P w) 2 f fd ["text", "length"] (sp_parse_i CN) := by
  refine F.okX sc_parse (fun vs H Q E h => ?_) (fun cdv A outer s H vs Q E hr h => ?_)
  · obtain ⟨x, c, rfl, _⟩ := h
    rfl
  · obtain ⟨x, c, rfl, hx, hc2, hc4, q0, q1⟩ := h
    refine ⟨_, (pss_cons (ps_if (pt_not (pt_val (pe_callB call_isi (by rfl) T.n_isinstance (by decide +kernel) (pa_cons (pv 0) (pa_cons (pe_bltn (v := .ty "str") (by rfl) T.n_str (by decide +kernel) rfl) pa_nil))))) (pss_one (ps_raise rfl (takes_of rfl rfl rfl rfl) (pmk_own PySem.F.excBase_ValueError T.x_InvalidName T.m_InvalidName T.k_InvalidName (raises_own T.b_InvalidName T.t_InvalidName) rfl))) pss_nil)
        (pss_cons (ps_set (i := 2) sc_parse.nd rfl (Or.inl rfl) (pe_split (pv 0) pe_str))
        (pss_cons (ps_if (pt_cmpR op_ne (pe_callB call_lenL (by rfl) T.n_len (by decide +kernel) (pa_cons (pv 2) pa_nil)) (pv 1) (nomark _)) (pss_one (ps_raise rfl (takes_of rfl rfl rfl rfl) (pmk_ownA PySem.F.excBase_ValueError T.x_InvalidName T.m_InvalidName T.k_InvalidName (raises_own T.b_InvalidName T.t_InvalidName) rfl (pa_cons (pe_joined (.cons pe_str (.cons (pe_fmt (pv 1)) (.cons pe_str PJ.nil)))) pa_nil)))) pss_nil)
        (pss_cons (ps_if (pt_not (pt_val (pe_callB (cr_all rfl) (by rfl) T.n_all (by decide +kernel) (pa_cons (pe_lc (own := [("part", 4)]) (g := gName 4) (by rfl) sc_parse.nd (pi_list (pv 2)) (blkOk_by (own := [("part", 4)]) (N := N_parse) (sc := defScope s_parse) (by decide +kernel)) (fun _ _ _ _ _ => pg_name (i := 4) sc_parse.nd rfl (Or.inl rfl)) (fun _ _ _ _ _ => pts_nil) (fun _ _ _ _ _ => (pe_cx c_is_part (hr.mono (by omega)) (by rfl) pass0 (pa_cons (pv 4) pa_nil)))) pa_nil)))) (pss_one (ps_raise rfl (takes_of rfl rfl rfl rfl) (pmk_own PySem.F.excBase_ValueError T.x_InvalidName T.m_InvalidName T.k_InvalidName (raises_own T.b_InvalidName T.t_InvalidName) rfl))) pss_nil)
        (pss_cons (ps_set (i := 3) sc_parse.nd rfl (Or.inl rfl) (pe_callTy call_tuple_of (by rfl) T.n_tuple (by decide +kernel) (pa_cons (pe_lc (own := [("part", 4)]) (g := gName 4) (by rfl) sc_parse.nd (pi_list (pv 2)) (blkOk_by (own := [("part", 4)]) (N := N_parse) (sc := defScope s_parse) (by decide +kernel)) (fun _ _ _ _ _ => pg_name (i := 4) sc_parse.nd rfl (Or.inl rfl)) (fun _ _ _ _ _ => pts_nil) (fun _ _ _ _ _ => (pe_callTy call_int_str (by rfl) T.n_int (by decide +kernel) (pa_cons (pv 4) pa_nil)))) pa_nil)))
        (pss_cons (ps_if (pt_cmpR op_lt (pe_ix ix_tupA (pv 3) pe_int (fun _ _ => rfl)) pe_int (nomark _)) (pss_one (ps_raise rfl (takes_of rfl rfl rfl rfl) (pmk_own PySem.F.excBase_ValueError T.x_InvalidName T.m_InvalidName T.k_InvalidName (raises_own T.b_InvalidName T.t_InvalidName) rfl))) pss_nil)
        (pss_one (ps_ret (pv 3))))))))), ?_⟩
    rcases hx with ⟨z, rfl, hz⟩ | hx
    case inr =>
      obtain ⟨t, ht, hk⟩ := hx.kit
      refine ⟨_, rfl, x, .ty "str", _, _, false, rfl, .ty _, ht, kit_ty hk, false, rfl, ?_⟩
      refine iteT ?_
      exact q0 (hx.readV c) H (Same.refl H)
    refine ⟨_, rfl, .str z, .ty "str", .type "str", .type "str", true, rfl, .ty _, .base (.str z), kit_ty (by decide +kernel), true, rfl, ?_⟩
    refine iteF ?_
    have sn := split_num z
    refine ⟨_, rfl, ⟨_, rfl⟩, z, _, rfl, rfl, by decide +kernel, sl_ok (by omega), fun L hL => ?_⟩
    have s0 : Same H (upd H L (.lst ((Txt.split z ".").map V.str))) := same_new hL (Same.refl H)
    generalize hW : Txt.split z "." = W at *
    have wl : ∀ y ∈ W, y.length ≤ 1000 := fun y hy => Nat.le_trans (split_len (by rw [hW]; exact hy)) hz
    refine ⟨_, rfl, L, _, rfl, SqL.of upd_same, _, rfl, rfl, _, rfl, ?_⟩
    rw [List.length_map]
    refine ite_not (fun c1 => ?_) (fun c1 => ?_)
    · have h0 : readV (.str z) c = none := by
        show readS z c = none
        unfold readS
        rw [hW, if_neg]
        rintro ⟨h1, _⟩
        exact c1 (by rw [h1])
      have l1 : (Str.ofString (toString c)).length ≤ 1 := PyProof.Rows.toString_length_le (by omega) (by decide) (by omega)
      refine ⟨_, rfl, by decide +kernel, _, rfl, .inr ⟨c, rfl, log_small (by omega) (by omega), _, rfl, ?_, _, rfl, ?_, ?_⟩⟩
      · rw [len_app]
        exact sl_ok (Nat.le_trans (Nat.add_le_add (show _ ≤ 100 by decide +kernel) l1) (by decide))
      · rw [len_app, len_app]
        exact sl_ok (Nat.le_trans (Nat.add_le_add (Nat.add_le_add (show _ ≤ 100 by decide +kernel) l1) (show _ ≤ 100 by decide +kernel)) (by decide))
      · exact ⟨(by show 1 ≤ sizeLine; decide), q0 h0 _ s0⟩
    have hc : (W.length : Int) = c := V.int.inj c1
    have hWl : (W.map numOf).length = W.length := List.length_map _
    refine ⟨_, rfl, L, rfl, ⟨_, SqL.of upd_same⟩, fun M hM => ?_⟩
    refine lc_map (walk_list (xs := W.map V.str)) hM (by rw [List.length_map]; omega) (fun i => V.bl (isPart (W.getD i ""))) (fun H2 s2 => SqL.of (s2 _ _ upd_same)) ?_ ?_
    · rintro i x H1 H2 hi s2 ⟨rfl, hx⟩
      obtain ⟨y, hyW, hyi, rfl⟩ := str_at hx
      have e : W.getD i "" = y := by rw [List.getD_eq_getElem?_getD, hyi]; rfl
      rw [e]
      exact ⟨Same.refl _, fun Q' q' => ⟨_, rfl, y, rfl, wl y hyW, fun H3 s3 => q' H3 s3⟩⟩
    · intro H2 s2 hM2
      have e : (List.range (W.map V.str).length).map (fun i => V.bl (isPart (W.getD i ""))) = (W.map isPart).map V.bl := by
        rw [List.length_map, List.map_map]
        exact range_map W _ (fun y => V.bl (isPart y)) (fun i x hx => by rw [List.getD_eq_getElem?_getD, hx]; rfl)
      rw [e] at hM2
      have s3 := s0.trans s2
      refine ⟨M, _, rfl, SqL.of hM2, _, rfl, ?_⟩
      have e2 : (W.map isPart).all id = W.all isPart := by rw [List.all_map]; rfl
      rw [e2]
      cases hall : W.all isPart with
      | false =>
        refine iteT ?_
        refine q0 ?_ _ s3
        show readS z c = none
        unfold readS
        rw [hW, if_neg]
        rintro ⟨_, h2, _⟩
        rw [hall] at h2
        cases h2
      | true =>
        refine iteF ?_
        have hy : ∀ y ∈ W, isPart y = true := List.all_eq_true.mp hall
        refine ⟨_, rfl, L, rfl, ⟨_, SqL.of (s2 _ _ upd_same)⟩, fun R hR => ?_⟩
        refine lc_map (walk_list (xs := W.map V.str)) hR (by rw [List.length_map]; omega) (fun i => V.int (numOf (W.getD i ""))) (fun H3 s4 => SqL.of (s4 _ _ (s2 _ _ upd_same))) ?_ ?_
        · rintro i x H3 H4 hi s4 ⟨rfl, hx⟩
          obtain ⟨y, hyW, hyi, rfl⟩ := str_at hx
          have ip := isPart_int (hy y hyW)
          have e : W.getD i "" = y := by rw [List.getD_eq_getElem?_getD, hyi]; rfl
          rw [e]
          exact ⟨Same.refl _, fun Q' q' => ⟨_, rfl, y, _, rfl, ip.1, by omega, q' H4 (Same.refl _)⟩⟩
        · intro H3 s4 hR3
          have e3 : (List.range (W.map V.str).length).map (fun i => V.int (numOf (W.getD i ""))) = (W.map numOf).map V.int := by
            rw [List.length_map, List.map_map]
            exact range_map W _ (fun y => V.int (numOf y)) (fun i x hx => by rw [List.getD_eq_getElem?_getD, hx]; rfl)
          rw [e3] at hR3
          have s5 := s3.trans s4
          refine ⟨R, _, rfl, .inl ⟨SqL.of hR3, fun t ht => ?_⟩⟩
          have s6 := same_new (o := .tup ((W.map numOf).map V.int)) ht s5
          refine ⟨_, rfl, t, _, _, rfl, rfl, SqT.of upd_same, by decide, by rw [List.length_map, hWl]; omega, fun v hv => ?_⟩
          obtain ⟨n, hn, rfl⟩ := int_at hv
          have hn1 : (W.map numOf)[1]? = some n := hn
          have n0 : 0 ≤ n := by
            obtain ⟨y, _, e⟩ := List.mem_map.mp (List.mem_of_getElem? hn1)
            rw [← e]
            exact numOf_nonneg y
          refine ⟨_, _, rfl, rfl, _, rfl, ?_⟩
          refine ite_some (fun c6 => ?_) (fun c6 => ?_)
          · refine q0 ?_ _ s6
            show readS z c = none
            unfold readS
            rw [hW, if_neg]
            rintro ⟨_, _, h3⟩
            exact h3 (by rw [hn1, show n = 0 by omega])
          · refine ⟨_, rfl, ?_⟩
            refine q1 (W.map numOf) ?_ _ t s6 upd_same
            show readS z c = some _
            unfold readS
            rw [hW, if_pos]
            exact ⟨hc, hall, fun h => c6 (by have := Option.some.inj (hn1.symm.trans h); omega)⟩
theorem ok_parse_name {f : Addr} {fd : FuncData} (F : Fun K "parse_name" "parse_name" s_parse_name f fd) (c_parse : CalX P w K mg base (L2.CX P w) 2 "_parse" (sp_parse_i CN)) : FnOk P w K mg base (L2.CX P w) 3 f fd ["text"] (sp_parse_1 CN 2) := by
  refine F.okX sc_parse_name (fun vs H Q E h => ?_) (fun cdv A outer s H vs Q E hr h => ?_)
  · obtain ⟨x, rfl, _⟩ := h
    rfl
  · obtain ⟨x, rfl, q⟩ := h
    refine ⟨_, (pss_one (ps_ret (pe_cxS c_parse (hr.mono (by omega)) (by rfl) (fun s => passAt (takes_of rfl rfl rfl rfl) s) (by exact (pa_cons (pv 0) (pa_cons pe_int pa_nil)))))), ?_⟩
    exact ⟨_, rfl, q⟩
theorem ok_parse_spot {f : Addr} {fd : FuncData} (F : Fun K "parse_spot" "parse_spot" s_parse_spot f fd) (c_parse : CalX P w K mg base (L2.CX P w) 2 "_parse" (sp_parse_i CN)) : FnOk P w K mg base (L2.CX P w) 3 f fd ["text"] (sp_parse_1 CN 3) := by
  refine F.okX sc_parse_spot (fun vs H Q E h => ?_) (fun cdv A outer s H vs Q E hr h => ?_)
  · obtain ⟨x, rfl, _⟩ := h
    rfl
  · obtain ⟨x, rfl, q⟩ := h
    refine ⟨_, (pss_one (ps_ret (pe_cxS c_parse (hr.mono (by omega)) (by rfl) (fun s => passAt (takes_of rfl rfl rfl rfl) s) (by exact (pa_cons (pv 0) (pa_cons pe_int pa_nil)))))), ?_⟩
    exact ⟨_, rfl, q⟩
theorem ok_parse_mark {f : Addr} {fd : FuncData} (F : Fun K "parse_mark" "parse_mark" s_parse_mark f fd) (c_parse : CalX P w K mg base (L2.CX P w) 2 "_parse" (sp_parse_i CN)) : FnOk P w K mg base (L2.CX P w) 3 f fd ["text"] (sp_parse_1 CN 4) := by
  refine F.okX sc_parse_mark (fun vs H Q E h => ?_) (fun cdv A outer s H vs Q E hr h => ?_)
  · obtain ⟨x, rfl, _⟩ := h
    rfl
  · obtain ⟨x, rfl, q⟩ := h
    refine ⟨_, (pss_one (ps_ret (pe_cxS c_parse (hr.mono (by omega)) (by rfl) (fun s => passAt (takes_of rfl rfl rfl rfl) s) (by exact (pa_cons (pv 0) (pa_cons pe_int pa_nil)))))), ?_⟩
    exact ⟨_, rfl, q⟩
theorem ok_law_parse {f : Addr} {fd : FuncData} (F : Fun K "_law_parse" "_law_parse" s_law_parse f fd) (c_parse_name : CalX P w K mg base (L2.CX P w) 3 "parse_name" (sp_parse_1 CN 2)) (c_parse_spot : CalX P w K mg base (L2.CX P w) 3 "parse_spot" (sp_parse_1 CN 3))
    (c_parse_mark : CalX P w K mg base (L2.CX P w) 3 "parse_mark" (sp_parse_1 CN 4)) : FnOk P w K mg base (L2.CX P w) 4 f fd ["line", "count"] (sp_parse_i CN) := by
  refine F.okX sc_law_parse (fun vs H Q E h => ?_) (fun cdv A outer s H vs Q E hr h => ?_)
  · obtain ⟨x, c, rfl, _⟩ := h
    rfl
  · obtain ⟨x, c, rfl, h⟩ := h
    refine ⟨_, (pss_cons (ps_if (pt_cmpR op_eq (pv 1) pe_int (nomark _)) (pss_one (ps_ret (pe_cxS c_parse_name (hr.mono (by omega)) (by rfl) (fun s => passAt (takes_of rfl rfl rfl rfl) s) (by exact (pa_cons (pv 0) pa_nil))))) pss_nil)
        (pss_cons (ps_if (pt_cmpR op_eq (pv 1) pe_int (nomark _)) (pss_one (ps_ret (pe_cxS c_parse_spot (hr.mono (by omega)) (by rfl) (fun s => passAt (takes_of rfl rfl rfl rfl) s) (by exact (pa_cons (pv 0) pa_nil))))) pss_nil)
        (pss_one (ps_ret (pe_cxS c_parse_mark (hr.mono (by omega)) (by rfl) (fun s => passAt (takes_of rfl rfl rfl rfl) s) (by exact (pa_cons (pv 0) pa_nil))))))), ?_⟩
    refine ⟨_, rfl, rfl, _, rfl, ?_⟩
    refine int_eq (fun c1 => ?_) (fun c1 => ?_)
    · rw [c1] at h
      exact ⟨_, rfl, x, rfl, x, 2, rfl, h⟩
    refine ⟨_, rfl, rfl, _, rfl, ?_⟩
    refine int_eq (fun c2 => ?_) (fun c2 => ?_)
    · rw [c2] at h
      exact ⟨_, rfl, x, rfl, x, 3, rfl, h⟩
    · have e : c = 4 := by
        have h1 := h.2.1
        have h2 := h.2.2.1
        omega
      rw [e] at h
      exact ⟨_, rfl, x, rfl, x, 4, rfl, h⟩
end
end Kw
set_option Elab.async false
set_option linter.all false
set_option maxRecDepth 100000
set_option maxHeartbeats 4000000
namespace Kw
open PySem PySem.Spec PyProof.Rows L2
/-- the other classes -/
structure TxtY (K : PySem.W.Frag) (mg : Str → Option Value) (CN CK CA CP CQ : Addr) : Prop extends TxtX K mg CN where
  m_KithwholeError : mg "KithwholeError" = some (.ref CK)
  e_Kithwhole : PySem.W.exmOne K (.ref CN) (.ref CK) = some true
  g_QuestionError : ∃ u, mg "QuestionError" = some u ∧ RelV (.ref CQ) u
  g_UnfitPacket : ∃ u, mg "UnfitPacket" = some u ∧ RelV (.ref CP) u
  g_InvalidName : ∃ u, mg "InvalidName" = some u ∧ RelV (.ref CN) u
  g_InvalidArgument : ∃ u, mg "InvalidArgument" = some u ∧ RelV (.ref CA) u
  q_Q : PySem.W.kitOne K (.ref CN) (.ref CQ) = some false
  q_P : PySem.W.kitOne K (.ref CN) (.ref CP) = some false
  q_N : PySem.W.kitOne K (.ref CN) (.ref CN) = some true
  q_A : PySem.W.kitOne K (.ref CN) (.ref CA) = some true
def sp_refuses : Sp := fun vs H Q _ => ∃ (x : V) (c : Int), vs = [x, .int c] ∧ Thing H x ∧ 2 ≤ c ∧ c ≤ 4 ∧ readV x c = none ∧ ∀ H' : Hp, Same H H' → Q (.bl true) H'
def sp_reads : Sp := fun vs H Q _ => ∃ (x : V) (c : Int), vs = [x, .int c] ∧ Thing H x ∧ 2 ≤ c ∧ c ≤ 4 ∧ ∀ H' : Hp, Same H H' → Q (.bl true) H'
def sp_law (K : PySem.W.Frag) : Sp := fun vs H Q _ => ∃ (a : Addr) (ns : List Int), vs = [.ref a] ∧ SqL K H a (ns.map V.int) ∧ ns.length ≤ 63 ∧ ∀ H', Q (.bl true) H'
theorem readV_len {x : V} {c : Int} {ns : List Int} (h : readV x c = some ns) : (ns.length : Int) = c := by
  cases x with
  | str z =>
    have h2 : readS z c = some ns := h
    unfold readS at h2
    split at h2
    · rename_i hh
      rw [← Option.some.inj h2, List.length_map]
      exact hh.1
    · cases h2
  | _ => cases h
theorem atL_ints (H : Hp) : ∀ ns : List Int, AtL H (ns.map D.int) (ns.map V.int)
  | [] => rfl
  | n :: r => ⟨.int n, r.map V.int, rfl, rfl, atL_ints H r⟩
theorem dep_ints : ∀ ns : List Int, depL (ns.map D.int) = 0
  | [] => rfl
  | n :: r => by
    show max (D.int n).dep (depL (r.map D.int)) = 0
    rw [dep_ints r]
    rfl
theorem at_ints {H : Hp} {p : Addr} {ns : List Int} (h : H p = some (.tup (ns.map V.int))) (hl : ns.length ≤ 1000) : At H (.seq false (ns.map D.int)) (.ref p) :=
  ⟨p, ns.map V.int, rfl, h, atL_ints H ns, by rw [List.length_map]; omega⟩
section
variable {P : Program} {w : World} {K : PySem.W.Frag} {mg : Str → Option Value} {base : Heap} {CN CK CA CP CQ : Addr}
theorem ok_refuses {f : Addr} {fd : FuncData} (F : Fun K "_law_refuses" "_law_refuses" s_law_refuses f fd) (T : TxtY K mg CN CK CA CP CQ) (c_law_parse : CalX P w K mg base (L2.CX P w) 4 "_law_parse" (sp_parse_i CN)) : FnOk P w K mg base CX0 5 f fd ["line", "count"] sp_refuses := by
  refine F.ok sc_law_refuses (fun vs H Q E h => ?_) (fun cdv A outer s H vs Q E hr h => ?_)
  · obtain ⟨x, c, rfl, _⟩ := h
    rfl
  · obtain ⟨x, c, rfl, hx, hc2, hc4, hn, q⟩ := h
    refine ⟨_, (pss_cons (ps_try_as (i := 2) rfl rfl sc_law_refuses.nd rfl rfl ⟨rfl, by decide, .inl T.m_KithwholeError⟩ takes0 (fun W pn xe tk _ => (pss_one (ps_expr (pe_cxS c_law_parse (hr.mono (by omega)) (by rfl) (fun s => passAt tk s) (by exact (pa_cons (pv 0) (pa_cons (pv 1) pa_nil))))))) (fun a oe cls d pn hz hf => (pss_cons (ps_if (PW.pt (pw_or (pt_val (pe_callB (call_isE2 T.ec hz hf) (by rfl) T.n_isinstance (by decide +kernel) (pa_cons (pv 2) (pa_cons (C8.pe_gc (by rfl) T.g_QuestionError) pa_nil)))) (pw_or1 (pt_val (pe_callB (call_isE2 T.ec hz hf) (by rfl) T.n_isinstance (by decide +kernel) (pa_cons (pv 2) (pa_cons (C8.pe_gc (by rfl) T.g_UnfitPacket) pa_nil))))))) (pss_one (ps_ret pe_bl)) pss_nil)
        (pss_one (ps_ret (pe_and (pe_callB (call_isE2 T.ec hz hf) (by rfl) T.n_isinstance (by decide +kernel) (pa_cons (pv 2) (pa_cons (C8.pe_gc (by rfl) T.g_InvalidName) pa_nil))) (pe_and (pe_callB (call_isE2 T.ec hz hf) (by rfl) T.n_isinstance (by decide +kernel) (pa_cons (pv 2) (pa_cons (C8.pe_gc (by rfl) T.g_InvalidArgument) pa_nil))) (pe_one (pe_callB (call_isE2 T.ec hz hf) (by rfl) T.n_isinstance (by decide +kernel) (pa_cons (pv 2) (pa_cons (pe_bltn (v := .ty "ValueError") (by rfl) T.n_ValueError (by decide +kernel) rfl) pa_nil)))))))))))
        (pss_one (ps_ret pe_bl))), ?_⟩
    refine ⟨_, rfl, _, rfl, x, c, rfl, hx, hc2, hc4, fun _ H1 s1 => ?_, fun ns h => absurd (hn.symm.trans h) (fun z => by cases z)⟩
    refine ⟨true, T.e_Kithwhole, fun _ a _ => ?_, fun z => by cases z⟩
    refine ⟨_, rfl, rfl, rfl, .ref CQ, .ref CQ, false, rfl, fun u h => h, T.q_Q, false, rfl, ?_⟩
    refine ⟨_, rfl, rfl, rfl, .ref CP, .ref CP, false, rfl, fun u h => h, T.q_P, false, rfl, ?_⟩
    refine ⟨_, rfl, rfl, rfl, .ref CN, .ref CN, true, rfl, fun u h => h, T.q_N, true, rfl, ?_⟩
    refine ⟨_, rfl, rfl, rfl, .ref CA, .ref CA, true, rfl, fun u h => h, T.q_A, true, rfl, ?_⟩
    exact ⟨_, rfl, rfl, rfl, .ty "ValueError", .type "ValueError", true, rfl, fun u h => h, T.q_ValueError, q H1 s1⟩
theorem ok_reads {f : Addr} {fd : FuncData} (F : Fun K "_law_reads" "_law_reads" s_law_reads f fd) (T : TxtY K mg CN CK CA CP CQ) (c_law_parse : CalX P w K mg base (L2.CX P w) 4 "_law_parse" (sp_parse_i CN)) (c_law_read : CalX P w K mg base CX0 1 "_law_read" sp_read)
    (c_law_refuses : CalX P w K mg base CX0 5 "_law_refuses" sp_refuses) (c_law_same : CalX P w K mg base CX0 3 "_law_same" (sp_same 1)) : FnOk P w K mg base CX0 6 f fd ["line", "count"] sp_reads := by
  refine F.ok sc_law_reads (fun vs H Q E h => ?_) (fun cdv A outer s H vs Q E hr h => ?_)
  · obtain ⟨x, c, rfl, _⟩ := h
    rfl
  · obtain ⟨x, c, rfl, hx, hc2, hc4, q⟩ := h
    refine ⟨_, (pss_cons (ps_set (i := 2) sc_law_reads.nd rfl (Or.inl rfl) (pe_cx c_law_read (hr.mono (by omega)) (by rfl) pass0 (pa_cons (pv 0) (pa_cons (pv 1) pa_nil))))
        (pss_cons (ps_if (pt_cmpR op_isN (pv 2) pe_non (nomark _)) (pss_one (ps_ret (pe_cx c_law_refuses (hr.mono (by omega)) (by rfl) pass0 (pa_cons (pv 0) (pa_cons (pv 1) pa_nil))))) pss_nil)
        (pss_cons (ps_set (i := 3) sc_law_reads.nd rfl (Or.inl rfl) pe_non)
        (pss_cons (ps_try_only rfl rfl ⟨rfl, by decide, .inl T.m_InvalidName⟩ takes0 (fun W pn xe tk _ => (pss_one (ps_set (i := 3) sc_law_reads.nd rfl (Or.inl rfl) (pe_cxS c_law_parse (hr.mono (by omega)) (by rfl) (fun s => passAt tk s) (by exact (pa_cons (pv 0) (pa_cons (pv 1) pa_nil))))))) (fun a oe cls d pn hz hf => (pss_one (ps_ret pe_bl))))
        (pss_one (ps_ret (pe_cx c_law_same (hr.mono (by omega)) (by rfl) pass0 (pa_cons (pv 3) (pa_cons (pv 2) pa_nil))))))))), ?_⟩
    refine ⟨_, rfl, _, rfl, x, c, rfl, hx, hc2, fun hn H1 s1 => ?_, fun ns hn H1 p s1 hp => ?_⟩
    · refine ⟨_, rfl, rfl, true, rfl, ?_⟩
      exact ⟨_, rfl, _, rfl, x, c, rfl, hx.same s1, hc2, hc4, hn, fun H2 s2 => q H2 (s1.trans s2)⟩
    · have hl := readV_len hn
      refine ⟨_, rfl, rfl, false, rfl, ?_⟩
      refine ⟨_, rfl, _, rfl, x, c, rfl, hx.same s1, hc2, hc4, fun h => absurd (h.symm.trans hn) (fun z => by cases z), fun ms hm H2 t s2 ht => ?_⟩
      obtain rfl : ms = ns := Option.some.inj (hm.symm.trans hn)
      refine ⟨_, rfl, _, rfl, _, _, .seq false (ms.map D.int), rfl, at_ints ht (by omega), At.same s2 _ _ (at_ints hp (by omega)), ?_, fun H3 s3 => q H3 (s1.trans (s2.trans s3))⟩
      show depL (ms.map D.int) + 1 ≤ 1
      rw [dep_ints]
      exact Nat.le_refl _
theorem ok_law {f : Addr} {fd : FuncData} (F : Fun K "law" "law" s_law f fd) (T : TxtY K mg CN CK CA CP CQ) (c_law_draws : CalX P w K mg base CX0 2 "_law_draws" (sp_draws K)) (c_law_parts : CalX P w K mg base CX0 4 "_law_parts" (sp_parts K))
    (c_law_same : CalX P w K mg base CX0 2 "_law_same" (sp_same 0)) (c_format_name : CalX P w K mg base CX0 1 "format_name" sp_format) (c_law_thing : CalX P w K mg base CX0 3 "_law_thing" (sp_thing K)) (c_law_line : CalX P w K mg base CX0 3 "_law_line" (sp_line K))
    (c_law_reads : CalX P w K mg base CX0 6 "_law_reads" sp_reads) : FnOk P w K mg base CX0 7 f fd ["script"] (sp_law K) := by
  refine F.ok sc_law (fun vs H Q E h => ?_) (fun cdv A outer s H vs Q E hr h => ?_)
  · obtain ⟨a, ns, rfl, _⟩ := h
    rfl
  · obtain ⟨a, ns, rfl, hS, hlen, q⟩ := h
    refine ⟨_, (pss_cons (ps_set (i := 1) sc_law.nd rfl (Or.inl rfl) (pe_cx c_law_draws (hr.mono (by omega)) (by rfl) pass0 (pa_cons (pv 0) pa_nil)))
        (pss_cons (ps_set (i := 2) sc_law.nd rfl (Or.inl rfl) (pe_cx c_law_parts (hr.mono (by omega)) (by rfl) pass0 (pa_cons (pv 1) pa_nil)))
        (pss_cons (ps_set (i := 3) sc_law.nd rfl (Or.inl rfl) (pe_join pe_str (pe_lc (own := [("part", 6)]) (g := gName 6) (by rfl) sc_law.nd (pi_list (pv 2)) (blkOk_by (own := [("part", 6)]) (N := N_law) (sc := defScope s_law) (by decide +kernel)) (fun _ _ _ _ _ => pg_name (i := 6) sc_law.nd rfl (Or.inl rfl)) (fun _ _ _ _ _ => pts_nil) (fun _ _ _ _ _ => (pe_callTy call_str_int (by rfl) T.n_str (by decide +kernel) (pa_cons (pv 6) pa_nil))))))
        (pss_cons (ps_if (pt_not (pt_val (pe_cx c_law_same (hr.mono (by omega)) (by rfl) pass0 (pa_cons (pe_cx c_format_name (hr.mono (by omega)) (by rfl) pass0 (pa_cons (pe_callTy call_tuple_of (by rfl) T.n_tuple (by decide +kernel) (pa_cons (pv 2) pa_nil)) pa_nil)) (pa_cons (pv 3) pa_nil))))) (pss_one (ps_ret pe_bl)) pss_nil)
        (pss_cons (ps_set (i := 4) sc_law.nd rfl (Or.inl rfl) (pe_cx c_law_thing (hr.mono (by omega)) (by rfl) pass0 (pa_cons (pv 1) (pa_cons (pe_cx c_law_line (hr.mono (by omega)) (by rfl) pass0 (pa_cons (pv 1) (pa_cons (pv 2) pa_nil))) pa_nil))))
        (pss_cons (ps_for PassesOwn.never rfl (pi_range2 (by rfl) T.n_range (pa_cons pe_int (pa_cons pe_int pa_nil))) (pg_name (i := 5) sc_law.nd rfl (Or.inl rfl)) (pss_one (ps_if (PW.pt (pw_or (pt_not (pt_val (pe_cx c_law_reads (hr.mono (by omega)) (by rfl) pass0 (pa_cons (pv 4) (pa_cons (pv 5) pa_nil))))) (pw_or1 (pt_not (pt_val (pe_cx c_law_reads (hr.mono (by omega)) (by rfl) pass0 (pa_cons (pv 3) (pa_cons (pv 5) pa_nil)))))))) (pss_one (ps_ret pe_bl)) pss_nil)))
        (pss_one (ps_ret pe_bl)))))))), ?_⟩
    refine ⟨_, rfl, a, ns, rfl, hS, hlen, fun H1 p ds s1 hp hd => ?_⟩
    refine ⟨_, rfl, p, ds, rfl, SqL.of hp, hd, fun H2 b ps s2 hb hps => ?_⟩
    obtain ⟨p2, p4, pp⟩ := id hps
    refine ⟨⟨_, rfl⟩, _, rfl, b, rfl, ⟨_, SqL.of hb⟩, fun D hD => ?_⟩
    refine lc_map (walk_list (xs := ps.map V.int)) hD (by rw [List.length_map]; omega) (fun i => V.str (Str.ofString (toString (ps.getD i 0)))) (fun H3 s3 => SqL.of (s3 _ _ hb)) ?_ ?_
    · rintro i x H3 H4 hi s3 ⟨rfl, hx⟩
      obtain ⟨z, hz, rfl⟩ := int_at hx
      have hz2 := pp z (List.mem_of_getElem? hz)
      have e : ps.getD i 0 = z := by rw [List.getD_eq_getElem?_getD, hz]; rfl
      rw [e]
      exact ⟨Same.refl _, fun Q' q' => ⟨_, rfl, z, rfl, log_small hz2.1 (Int.lt_of_lt_of_le hz2.2 (by decide)), q' _ (Same.refl _)⟩⟩
    · intro H3 s3 hD3
      have e : (List.range (ps.map V.int).length).map (fun i => V.str (Str.ofString (toString (ps.getD i 0)))) = (wordsOf ps).map V.str := by
        rw [List.length_map]
        rw [range_map ps _ (fun p => V.str (Str.ofString (toString p))) (fun i x hx => by rw [List.getD_eq_getElem?_getD, hx]; rfl)]
        show _ = (ps.map _).map _
        rw [List.map_map]
        rfl
      rw [e] at hD3
      have wl : (wordsOf ps).length = ps.length := List.length_map _
      have sm := sum_len (words_len pp)
      have jl := join_len "." (wordsOf ps)
      have dot : Str.length "." = 1 := rfl
      refine ⟨_, D, wordsOf ps, rfl, rfl, .inl (SqL.of hD3), by rw [dot]; omega, ?_⟩
      have w1 : (Txt.join "." (wordsOf ps)).length ≤ 1000 := by
        rw [dot] at jl
        omega
      -- the written form
      refine ⟨_, rfl, b, _, rfl, .inl ⟨SqL.of (s3 _ _ hb), fun t ht => ?_⟩⟩
      have s4 := same_new (o := .tup (ps.map V.int)) ht s3
      refine ⟨t, ps, rfl, upd_same, hps, fun H5 s5 => ?_⟩
      refine ⟨_, rfl, _, _, .str (Txt.join "." (wordsOf ps)), rfl, rfl, rfl, Nat.le_refl _, fun H6 s6 => ⟨true, rfl, ?_⟩⟩
      have sb := s4.trans (s5.trans s6)
      have sp := s2.trans sb
      -- the line
      refine ⟨_, rfl, _, rfl, _, rfl, p, b, ds, ps, rfl, SqL.of (sp _ _ hp), hd, sb _ _ hb, hps, fun H7 z s7 hz => ?_⟩
      have sp7 := sp.trans s7
      refine ⟨p, ds, z, rfl, SqL.of (sp7 _ _ hp), hd, hz, fun H8 x s8 hx => ?_⟩
      refine ⟨_, _, rfl, ⟨by decide, by decide, by decide, by decide⟩, for_range (lo := 2) (n := ((5 : Int) - 2).toNat) (fun i σ H' => ∃ v : Option V, σ = [some (.ref a), some (.ref p), some (.ref b), some (.str (Txt.join "." (wordsOf ps))), some x, v, none] ∧ Same H8 H') ⟨none, rfl, Same.refl _⟩ ?_ ?_⟩
      · rintro i σ H9 hi ⟨v, rfl, s9⟩
        have hi3 : i < 3 := hi
        refine ⟨_, rfl, _, rfl, x, _, rfl, hx.same s9, by omega, by omega, fun H10 s10 => ⟨true, rfl, ?_⟩⟩
        refine ⟨_, rfl, _, rfl, _, _, rfl, .inl ⟨_, rfl, w1⟩, by omega, by omega, fun H11 s11 => ⟨true, rfl, ?_⟩⟩
        exact ⟨_, rfl, s9.trans (s10.trans s11)⟩
      · rintro σ H9 ⟨v, rfl, s9⟩
        exact q H9
end
end Kw
set_option Elab.async false
set_option linter.all false
set_option maxRecDepth 100000
set_option maxHeartbeats 4000000
namespace Kw
open PySem PySem.Spec PyProof.Rows L2
theorem all_mk {P : Program} {w : World} {K : PySem.W.Frag} {h : Heap} {mg : Str → Option Value} {fa : Addr} (X : K.In h) (G : h.Ns mainGlobals mg) (hfa : mg "law" = some (.ref fa))
    {f0 : Addr} {od0 an0 : Option Addr} {sl0 : Array (Option Value)} {oc0 kV0 dc0 pm0 cd0 ct0 : Value}
    {f1 : Addr} {od1 an1 : Option Addr} {sl1 : Array (Option Value)} {oc1 kV1 dc1 pm1 cd1 ct1 : Value}
    {f2 : Addr} {od2 an2 : Option Addr} {sl2 : Array (Option Value)} {oc2 kV2 dc2 pm2 cd2 ct2 : Value}
    {f3 : Addr} {od3 an3 : Option Addr} {sl3 : Array (Option Value)} {oc3 kV3 dc3 pm3 cd3 ct3 : Value}
    {f4 : Addr} {od4 an4 : Option Addr} {sl4 : Array (Option Value)} {oc4 kV4 dc4 pm4 cd4 ct4 : Value}
    {f5 : Addr} {od5 an5 : Option Addr} {sl5 : Array (Option Value)} {oc5 kV5 dc5 pm5 cd5 ct5 : Value}
    {f6 : Addr} {od6 an6 : Option Addr} {sl6 : Array (Option Value)} {oc6 kV6 dc6 pm6 cd6 ct6 : Value}
    {f7 : Addr} {od7 an7 : Option Addr} {sl7 : Array (Option Value)} {oc7 kV7 dc7 pm7 cd7 ct7 : Value}
    {f8 : Addr} {od8 an8 : Option Addr} {sl8 : Array (Option Value)} {oc8 kV8 dc8 pm8 cd8 ct8 : Value}
    {f9 : Addr} {od9 an9 : Option Addr} {sl9 : Array (Option Value)} {oc9 kV9 dc9 pm9 cd9 ct9 : Value}
    {f10 : Addr} {od10 an10 : Option Addr} {sl10 : Array (Option Value)} {oc10 kV10 dc10 pm10 cd10 ct10 : Value}
    {f11 : Addr} {od11 an11 : Option Addr} {sl11 : Array (Option Value)} {oc11 kV11 dc11 pm11 cd11 ct11 : Value}
    {f12 : Addr} {od12 an12 : Option Addr} {sl12 : Array (Option Value)} {oc12 kV12 dc12 pm12 cd12 ct12 : Value}
    {f13 : Addr} {od13 an13 : Option Addr} {sl13 : Array (Option Value)} {oc13 kV13 dc13 pm13 cd13 ct13 : Value}
    {f14 : Addr} {od14 an14 : Option Addr} {sl14 : Array (Option Value)} {oc14 kV14 dc14 pm14 cd14 ct14 : Value}
    {f15 : Addr} {od15 an15 : Option Addr} {sl15 : Array (Option Value)} {oc15 kV15 dc15 pm15 cd15 ct15 : Value}
    {f16 : Addr} {od16 an16 : Option Addr} {sl16 : Array (Option Value)} {oc16 kV16 dc16 pm16 cd16 ct16 : Value}
    {f17 : Addr} {od17 an17 : Option Addr} {sl17 : Array (Option Value)} {oc17 kV17 dc17 pm17 cd17 ct17 : Value}
    {f18 : Addr} {od18 an18 : Option Addr} {sl18 : Array (Option Value)} {oc18 kV18 dc18 pm18 cd18 ct18 : Value}
    {f19 : Addr} {od19 an19 : Option Addr} {sl19 : Array (Option Value)} {oc19 kV19 dc19 pm19 cd19 ct19 : Value}
    {CN CK CA CP CQ : Addr}
    (a0 : PySem.W.nsIn K mainGlobals "format_name" = some (some (.ref f0))) (l0 : K.lookup f0 = some ⟨oc0, od0, .func (PySem.W.fnOf "format_name" "format_name" (defArgs s_format_name) (defBody s_format_name) (defScope s_format_name) .none kV0 dc0 pm0 an0 cd0 ct0), sl0⟩) (c0 : PySem.W.codeIn K cd0 "format_name" = true) (k0 : PySem.W.keepIn K (.ref f0) = true)
    (a1 : PySem.W.nsIn K mainGlobals "parse_name" = some (some (.ref f1))) (l1 : K.lookup f1 = some ⟨oc1, od1, .func (PySem.W.fnOf "parse_name" "parse_name" (defArgs s_parse_name) (defBody s_parse_name) (defScope s_parse_name) .none kV1 dc1 pm1 an1 cd1 ct1), sl1⟩) (c1 : PySem.W.codeIn K cd1 "parse_name" = true) (k1 : PySem.W.keepIn K (.ref f1) = true)
    (a2 : PySem.W.nsIn K mainGlobals "parse_spot" = some (some (.ref f2))) (l2 : K.lookup f2 = some ⟨oc2, od2, .func (PySem.W.fnOf "parse_spot" "parse_spot" (defArgs s_parse_spot) (defBody s_parse_spot) (defScope s_parse_spot) .none kV2 dc2 pm2 an2 cd2 ct2), sl2⟩) (c2 : PySem.W.codeIn K cd2 "parse_spot" = true) (k2 : PySem.W.keepIn K (.ref f2) = true)
    (a3 : PySem.W.nsIn K mainGlobals "parse_mark" = some (some (.ref f3))) (l3 : K.lookup f3 = some ⟨oc3, od3, .func (PySem.W.fnOf "parse_mark" "parse_mark" (defArgs s_parse_mark) (defBody s_parse_mark) (defScope s_parse_mark) .none kV3 dc3 pm3 an3 cd3 ct3), sl3⟩) (c3 : PySem.W.codeIn K cd3 "parse_mark" = true) (k3 : PySem.W.keepIn K (.ref f3) = true)
    (a4 : PySem.W.nsIn K mainGlobals "_parse" = some (some (.ref f4))) (l4 : K.lookup f4 = some ⟨oc4, od4, .func (PySem.W.fnOf "_parse" "_parse" (defArgs s_parse) (defBody s_parse) (defScope s_parse) .none kV4 dc4 pm4 an4 cd4 ct4), sl4⟩) (c4 : PySem.W.codeIn K cd4 "_parse" = true) (k4 : PySem.W.keepIn K (.ref f4) = true)
    (a5 : PySem.W.nsIn K mainGlobals "_is_part" = some (some (.ref f5))) (l5 : K.lookup f5 = some ⟨oc5, od5, .func (PySem.W.fnOf "_is_part" "_is_part" (defArgs s_is_part) (defBody s_is_part) (defScope s_is_part) .none kV5 dc5 pm5 an5 cd5 ct5), sl5⟩) (c5 : PySem.W.codeIn K cd5 "_is_part" = true) (k5 : PySem.W.keepIn K (.ref f5) = true)
    (a6 : PySem.W.nsIn K mainGlobals "_law_mix" = some (some (.ref f6))) (l6 : K.lookup f6 = some ⟨oc6, od6, .func (PySem.W.fnOf "_law_mix" "_law_mix" (defArgs s_law_mix) (defBody s_law_mix) (defScope s_law_mix) .none kV6 dc6 pm6 an6 cd6 ct6), sl6⟩) (c6 : PySem.W.codeIn K cd6 "_law_mix" = true) (k6 : PySem.W.keepIn K (.ref f6) = true)
    (a7 : PySem.W.nsIn K mainGlobals "_law_draws" = some (some (.ref f7))) (l7 : K.lookup f7 = some ⟨oc7, od7, .func (PySem.W.fnOf "_law_draws" "_law_draws" (defArgs s_law_draws) (defBody s_law_draws) (defScope s_law_draws) .none kV7 dc7 pm7 an7 cd7 ct7), sl7⟩) (c7 : PySem.W.codeIn K cd7 "_law_draws" = true) (k7 : PySem.W.keepIn K (.ref f7) = true)
    (a8 : PySem.W.nsIn K mainGlobals "_law_at" = some (some (.ref f8))) (l8 : K.lookup f8 = some ⟨oc8, od8, .func (PySem.W.fnOf "_law_at" "_law_at" (defArgs s_law_at) (defBody s_law_at) (defScope s_law_at) .none kV8 dc8 pm8 an8 cd8 ct8), sl8⟩) (c8 : PySem.W.codeIn K cd8 "_law_at" = true) (k8 : PySem.W.keepIn K (.ref f8) = true)
    (a9 : PySem.W.nsIn K mainGlobals "_law_is_integer" = some (some (.ref f9))) (l9 : K.lookup f9 = some ⟨oc9, od9, .func (PySem.W.fnOf "_law_is_integer" "_law_is_integer" (defArgs s_law_is_integer) (defBody s_law_is_integer) (defScope s_law_is_integer) .none kV9 dc9 pm9 an9 cd9 ct9), sl9⟩) (c9 : PySem.W.codeIn K cd9 "_law_is_integer" = true) (k9 : PySem.W.keepIn K (.ref f9) = true)
    (a10 : PySem.W.nsIn K mainGlobals "_law_same" = some (some (.ref f10))) (l10 : K.lookup f10 = some ⟨oc10, od10, .func (PySem.W.fnOf "_law_same" "_law_same" (defArgs s_law_same) (defBody s_law_same) (defScope s_law_same) .none kV10 dc10 pm10 an10 cd10 ct10), sl10⟩) (c10 : PySem.W.codeIn K cd10 "_law_same" = true) (k10 : PySem.W.keepIn K (.ref f10) = true)
    (a11 : PySem.W.nsIn K mainGlobals "_law_part" = some (some (.ref f11))) (l11 : K.lookup f11 = some ⟨oc11, od11, .func (PySem.W.fnOf "_law_part" "_law_part" (defArgs s_law_part) (defBody s_law_part) (defScope s_law_part) .none kV11 dc11 pm11 an11 cd11 ct11), sl11⟩) (c11 : PySem.W.codeIn K cd11 "_law_part" = true) (k11 : PySem.W.keepIn K (.ref f11) = true)
    (a12 : PySem.W.nsIn K mainGlobals "_law_parts" = some (some (.ref f12))) (l12 : K.lookup f12 = some ⟨oc12, od12, .func (PySem.W.fnOf "_law_parts" "_law_parts" (defArgs s_law_parts) (defBody s_law_parts) (defScope s_law_parts) .none kV12 dc12 pm12 an12 cd12 ct12), sl12⟩) (c12 : PySem.W.codeIn K cd12 "_law_parts" = true) (k12 : PySem.W.keepIn K (.ref f12) = true)
    (a13 : PySem.W.nsIn K mainGlobals "_law_line" = some (some (.ref f13))) (l13 : K.lookup f13 = some ⟨oc13, od13, .func (PySem.W.fnOf "_law_line" "_law_line" (defArgs s_law_line) (defBody s_law_line) (defScope s_law_line) .none kV13 dc13 pm13 an13 cd13 ct13), sl13⟩) (c13 : PySem.W.codeIn K cd13 "_law_line" = true) (k13 : PySem.W.keepIn K (.ref f13) = true)
    (a14 : PySem.W.nsIn K mainGlobals "_law_thing" = some (some (.ref f14))) (l14 : K.lookup f14 = some ⟨oc14, od14, .func (PySem.W.fnOf "_law_thing" "_law_thing" (defArgs s_law_thing) (defBody s_law_thing) (defScope s_law_thing) .none kV14 dc14 pm14 an14 cd14 ct14), sl14⟩) (c14 : PySem.W.codeIn K cd14 "_law_thing" = true) (k14 : PySem.W.keepIn K (.ref f14) = true)
    (a15 : PySem.W.nsIn K mainGlobals "_law_read" = some (some (.ref f15))) (l15 : K.lookup f15 = some ⟨oc15, od15, .func (PySem.W.fnOf "_law_read" "_law_read" (defArgs s_law_read) (defBody s_law_read) (defScope s_law_read) .none kV15 dc15 pm15 an15 cd15 ct15), sl15⟩) (c15 : PySem.W.codeIn K cd15 "_law_read" = true) (k15 : PySem.W.keepIn K (.ref f15) = true)
    (a16 : PySem.W.nsIn K mainGlobals "_law_parse" = some (some (.ref f16))) (l16 : K.lookup f16 = some ⟨oc16, od16, .func (PySem.W.fnOf "_law_parse" "_law_parse" (defArgs s_law_parse) (defBody s_law_parse) (defScope s_law_parse) .none kV16 dc16 pm16 an16 cd16 ct16), sl16⟩) (c16 : PySem.W.codeIn K cd16 "_law_parse" = true) (k16 : PySem.W.keepIn K (.ref f16) = true)
    (a17 : PySem.W.nsIn K mainGlobals "_law_refuses" = some (some (.ref f17))) (l17 : K.lookup f17 = some ⟨oc17, od17, .func (PySem.W.fnOf "_law_refuses" "_law_refuses" (defArgs s_law_refuses) (defBody s_law_refuses) (defScope s_law_refuses) .none kV17 dc17 pm17 an17 cd17 ct17), sl17⟩) (c17 : PySem.W.codeIn K cd17 "_law_refuses" = true) (k17 : PySem.W.keepIn K (.ref f17) = true)
    (a18 : PySem.W.nsIn K mainGlobals "_law_reads" = some (some (.ref f18))) (l18 : K.lookup f18 = some ⟨oc18, od18, .func (PySem.W.fnOf "_law_reads" "_law_reads" (defArgs s_law_reads) (defBody s_law_reads) (defScope s_law_reads) .none kV18 dc18 pm18 an18 cd18 ct18), sl18⟩) (c18 : PySem.W.codeIn K cd18 "_law_reads" = true) (k18 : PySem.W.keepIn K (.ref f18) = true)
    (a19 : PySem.W.nsIn K mainGlobals "law" = some (some (.ref f19))) (l19 : K.lookup f19 = some ⟨oc19, od19, .func (PySem.W.fnOf "law" "law" (defArgs s_law) (defBody s_law) (defScope s_law) .none kV19 dc19 pm19 an19 cd19 ct19), sl19⟩) (c19 : PySem.W.codeIn K cd19 "law" = true) (k19 : PySem.W.keepIn K (.ref f19) = true)
    (z_int : PySem.W.nsIn K mainGlobals "int" = some none)
    (z_str : PySem.W.nsIn K mainGlobals "str" = some none)
    (z_len : PySem.W.nsIn K mainGlobals "len" = some none)
    (z_min : PySem.W.nsIn K mainGlobals "min" = some none)
    (z_max : PySem.W.nsIn K mainGlobals "max" = some none)
    (z_all : PySem.W.nsIn K mainGlobals "all" = some none)
    (z_bool : PySem.W.nsIn K mainGlobals "bool" = some none)
    (z_list : PySem.W.nsIn K mainGlobals "list" = some none)
    (z_tuple : PySem.W.nsIn K mainGlobals "tuple" = some none)
    (z_range : PySem.W.nsIn K mainGlobals "range" = some none)
    (z_isinstance : PySem.W.nsIn K mainGlobals "isinstance" = some none)
    (z_ValueError : PySem.W.nsIn K mainGlobals "ValueError" = some none)
    {t_DIGITS : Tok} (y_DIGITS : PySem.W.nsIn K mainGlobals "DIGITS" = some (some (.str "0123456789" t_DIGITS)))
    {t_MOST_DIGITS : Tok} (y_MOST_DIGITS : PySem.W.nsIn K mainGlobals "MOST_DIGITS" = some (some (.int 15 t_MOST_DIGITS)))
    (aCN : PySem.W.nsIn K mainGlobals "InvalidName" = some (some (.ref CN)))
    (aCK : PySem.W.nsIn K mainGlobals "KithwholeError" = some (some (.ref CK)))
    (aCA : PySem.W.nsIn K mainGlobals "InvalidArgument" = some (some (.ref CA)))
    (aCP : PySem.W.nsIn K mainGlobals "UnfitPacket" = some (some (.ref CP)))
    (aCQ : PySem.W.nsIn K mainGlobals "QuestionError" = some (some (.ref CQ)))
    (xN : PySem.W.excIn K CN [.type "ValueError", .type "Exception", .type "BaseException", .type "object"] "ValueError.__new__" = true)
    (kN : PySem.W.keepIn K (.ref CN) = true)
    (bN : PySem.W.subIn K (.ref CN) (.type "BaseException") = some true)
    (tN : PySem.W.typeIn K (.ref CN) = some (.type "type"))
    (hN : PySem.W.hasDictIn K CN = true)
    (sN : PySem.W.subIn K (.ref CN) (.ref CN) = some true)
    (bK : PySem.W.subIn K (.ref CK) (.type "BaseException") = some true)
    (tK : PySem.W.typeIn K (.ref CK) = some (.type "type"))
    (hK : PySem.W.hasDictIn K CK = true)
    (sK : PySem.W.subIn K (.ref CN) (.ref CK) = some true)
    (e1 : PySem.W.findIn K (.ref CN) "__getattribute__" = some (some (.builtin "BaseException.__getattribute__")))
    (e2 : PySem.W.findIn K (.ref CN) "__getattr__" = some none)
    (e3 : PySem.W.findIn K (.ref CN) "__class__" = some (some (.builtin "object.__class__")))
    (e4 : PySem.W.specialIn K (.builtin "object.__class__") "__get__" = some (some (.builtin "getset_descriptor.__get__")))
    (e5 : PySem.W.takesIn K (.builtin "object.__class__") = some true)
    (e6 : PySem.W.mroIn K CN (.type "object") = some true)
    (qQ : PySem.W.kitOne K (.ref CN) (.ref CQ) = some false)
    (qP : PySem.W.kitOne K (.ref CN) (.ref CP) = some false)
    (qN : PySem.W.kitOne K (.ref CN) (.ref CN) = some true)
    (qA : PySem.W.kitOne K (.ref CN) (.ref CA) = some true)
    (qV : PySem.W.kitOne K (.ref CN) (.type "ValueError") = some true)
    : ∃ fd : FuncData, (∀ (s : Shared) (v : Value), BindsTo s fd ⟨[v], []⟩ [("script", v)]) ∧ ∀ base : Heap, K.In base → base.Ns mainGlobals mg → FnOk P w K mg base CX0 7 fa fd ["script"] (sp_law K) := by
  have e := hfa.symm.trans (PySem.W.mg_of X G a19)
  cases e
  have F_format_name := fun_mk (st := s_format_name) l0 c0 k0
  have N_format_name : Fn K mg "format_name" s_format_name ["name"] f0 _ := ⟨F_format_name, PySem.W.mg_of X G a0, F_format_name.binds (ps := ["name"]) fun _ _ _ _ _ _ us hl => match us, hl with | [_], _ => rfl⟩
  have F_parse_name := fun_mk (st := s_parse_name) l1 c1 k1
  have N_parse_name : Fn K mg "parse_name" s_parse_name ["text"] f1 _ := ⟨F_parse_name, PySem.W.mg_of X G a1, F_parse_name.binds (ps := ["text"]) fun _ _ _ _ _ _ us hl => match us, hl with | [_], _ => rfl⟩
  have F_parse_spot := fun_mk (st := s_parse_spot) l2 c2 k2
  have N_parse_spot : Fn K mg "parse_spot" s_parse_spot ["text"] f2 _ := ⟨F_parse_spot, PySem.W.mg_of X G a2, F_parse_spot.binds (ps := ["text"]) fun _ _ _ _ _ _ us hl => match us, hl with | [_], _ => rfl⟩
  have F_parse_mark := fun_mk (st := s_parse_mark) l3 c3 k3
  have N_parse_mark : Fn K mg "parse_mark" s_parse_mark ["text"] f3 _ := ⟨F_parse_mark, PySem.W.mg_of X G a3, F_parse_mark.binds (ps := ["text"]) fun _ _ _ _ _ _ us hl => match us, hl with | [_], _ => rfl⟩
  have F_parse := fun_mk (st := s_parse) l4 c4 k4
  have N_parse : Fn K mg "_parse" s_parse ["text", "length"] f4 _ := ⟨F_parse, PySem.W.mg_of X G a4, F_parse.binds (ps := ["text", "length"]) fun _ _ _ _ _ _ us hl => match us, hl with | [_, _], _ => rfl⟩
  have F_is_part := fun_mk (st := s_is_part) l5 c5 k5
  have N_is_part : Fn K mg "_is_part" s_is_part ["part"] f5 _ := ⟨F_is_part, PySem.W.mg_of X G a5, F_is_part.binds (ps := ["part"]) fun _ _ _ _ _ _ us hl => match us, hl with | [_], _ => rfl⟩
  have F_law_mix := fun_mk (st := s_law_mix) l6 c6 k6
  have N_law_mix : Fn K mg "_law_mix" s_law_mix ["cell", "k"] f6 _ := ⟨F_law_mix, PySem.W.mg_of X G a6, F_law_mix.binds (ps := ["cell", "k"]) fun _ _ _ _ _ _ us hl => match us, hl with | [_, _], _ => rfl⟩
  have F_law_draws := fun_mk (st := s_law_draws) l7 c7 k7
  have N_law_draws : Fn K mg "_law_draws" s_law_draws ["script"] f7 _ := ⟨F_law_draws, PySem.W.mg_of X G a7, F_law_draws.binds (ps := ["script"]) fun _ _ _ _ _ _ us hl => match us, hl with | [_], _ => rfl⟩
  have F_law_at := fun_mk (st := s_law_at) l8 c8 k8
  have N_law_at : Fn K mg "_law_at" s_law_at ["draws", "index"] f8 _ := ⟨F_law_at, PySem.W.mg_of X G a8, F_law_at.binds (ps := ["draws", "index"]) fun _ _ _ _ _ _ us hl => match us, hl with | [_, _], _ => rfl⟩
  have F_law_is_integer := fun_mk (st := s_law_is_integer) l9 c9 k9
  have N_law_is_integer : Fn K mg "_law_is_integer" s_law_is_integer ["actual"] f9 _ := ⟨F_law_is_integer, PySem.W.mg_of X G a9, F_law_is_integer.binds (ps := ["actual"]) fun _ _ _ _ _ _ us hl => match us, hl with | [_], _ => rfl⟩
  have F_law_same := fun_mk (st := s_law_same) l10 c10 k10
  have N_law_same : Fn K mg "_law_same" s_law_same ["actual", "expected"] f10 _ := ⟨F_law_same, PySem.W.mg_of X G a10, F_law_same.binds (ps := ["actual", "expected"]) fun _ _ _ _ _ _ us hl => match us, hl with | [_, _], _ => rfl⟩
  have F_law_part := fun_mk (st := s_law_part) l11 c11 k11
  have N_law_part : Fn K mg "_law_part" s_law_part ["draws", "index"] f11 _ := ⟨F_law_part, PySem.W.mg_of X G a11, F_law_part.binds (ps := ["draws", "index"]) fun _ _ _ _ _ _ us hl => match us, hl with | [_, _], _ => rfl⟩
  have F_law_parts := fun_mk (st := s_law_parts) l12 c12 k12
  have N_law_parts : Fn K mg "_law_parts" s_law_parts ["draws"] f12 _ := ⟨F_law_parts, PySem.W.mg_of X G a12, F_law_parts.binds (ps := ["draws"]) fun _ _ _ _ _ _ us hl => match us, hl with | [_], _ => rfl⟩
  have F_law_line := fun_mk (st := s_law_line) l13 c13 k13
  have N_law_line : Fn K mg "_law_line" s_law_line ["draws", "parts"] f13 _ := ⟨F_law_line, PySem.W.mg_of X G a13, F_law_line.binds (ps := ["draws", "parts"]) fun _ _ _ _ _ _ us hl => match us, hl with | [_, _], _ => rfl⟩
  have F_law_thing := fun_mk (st := s_law_thing) l14 c14 k14
  have N_law_thing : Fn K mg "_law_thing" s_law_thing ["draws", "line"] f14 _ := ⟨F_law_thing, PySem.W.mg_of X G a14, F_law_thing.binds (ps := ["draws", "line"]) fun _ _ _ _ _ _ us hl => match us, hl with | [_, _], _ => rfl⟩
  have F_law_read := fun_mk (st := s_law_read) l15 c15 k15
  have N_law_read : Fn K mg "_law_read" s_law_read ["line", "count"] f15 _ := ⟨F_law_read, PySem.W.mg_of X G a15, F_law_read.binds (ps := ["line", "count"]) fun _ _ _ _ _ _ us hl => match us, hl with | [_, _], _ => rfl⟩
  have F_law_parse := fun_mk (st := s_law_parse) l16 c16 k16
  have N_law_parse : Fn K mg "_law_parse" s_law_parse ["line", "count"] f16 _ := ⟨F_law_parse, PySem.W.mg_of X G a16, F_law_parse.binds (ps := ["line", "count"]) fun _ _ _ _ _ _ us hl => match us, hl with | [_, _], _ => rfl⟩
  have F_law_refuses := fun_mk (st := s_law_refuses) l17 c17 k17
  have N_law_refuses : Fn K mg "_law_refuses" s_law_refuses ["line", "count"] f17 _ := ⟨F_law_refuses, PySem.W.mg_of X G a17, F_law_refuses.binds (ps := ["line", "count"]) fun _ _ _ _ _ _ us hl => match us, hl with | [_, _], _ => rfl⟩
  have F_law_reads := fun_mk (st := s_law_reads) l18 c18 k18
  have N_law_reads : Fn K mg "_law_reads" s_law_reads ["line", "count"] f18 _ := ⟨F_law_reads, PySem.W.mg_of X G a18, F_law_reads.binds (ps := ["line", "count"]) fun _ _ _ _ _ _ us hl => match us, hl with | [_, _], _ => rfl⟩
  have F_law := fun_mk (st := s_law) l19 c19 k19
  have T : TxtY K mg CN CK CA CP CQ :=
    { n_int := PySem.W.mg_none_of X G z_int, n_str := PySem.W.mg_none_of X G z_str, n_len := PySem.W.mg_none_of X G z_len, n_min := PySem.W.mg_none_of X G z_min, n_max := PySem.W.mg_none_of X G z_max, n_all := PySem.W.mg_none_of X G z_all, n_bool := PySem.W.mg_none_of X G z_bool, n_list := PySem.W.mg_none_of X G z_list, n_tuple := PySem.W.mg_none_of X G z_tuple, n_range := PySem.W.mg_none_of X G z_range, n_isinstance := PySem.W.mg_none_of X G z_isinstance, n_ValueError := PySem.W.mg_none_of X G z_ValueError,
      g_DIGITS := ⟨_, PySem.W.mg_of X G y_DIGITS, _, rfl⟩, g_MOST_DIGITS := ⟨_, PySem.W.mg_of X G y_MOST_DIGITS, _, rfl⟩,
      m_InvalidName := PySem.W.mg_of X G aCN, x_InvalidName := xN, k_InvalidName := kN, b_InvalidName := bN, t_InvalidName := tN, e_InvalidName := PySem.W.exm_ref bN hN tN sN,
      ec := ⟨e1, e2, bN, hN, e3, e4, e5, e6⟩, q_ValueError := qV, m_KithwholeError := PySem.W.mg_of X G aCK, e_Kithwhole := PySem.W.exm_ref bK hK tK sK,
      g_QuestionError := ⟨_, PySem.W.mg_of X G aCQ, rfl⟩, g_UnfitPacket := ⟨_, PySem.W.mg_of X G aCP, rfl⟩, g_InvalidName := ⟨_, PySem.W.mg_of X G aCN, rfl⟩, g_InvalidArgument := ⟨_, PySem.W.mg_of X G aCA, rfl⟩,
      q_Q := qQ, q_P := qP, q_N := qN, q_A := qA }
  refine ⟨PySem.W.fnOf "law" "law" (defArgs s_law) (defBody s_law) (defScope s_law) .none kV19 dc19 pm19 an19 cd19 ct19, fun s v => .of_eq rfl, fun base _ _ => ?_⟩
  have T1 := T.toTxtX
  have T0 := T1.toTxt
  have cmix := N_law_mix.cal (ok_mix (P := P) (w := w) (base := base) F_law_mix T0)
  have cdraws := N_law_draws.cal (ok_draws F_law_draws T0 cmix)
  have cat := N_law_at.cal (ok_at F_law_at T0 cmix)
  have cint := N_law_is_integer.cal (ok_is_integer (P := P) (w := w) (base := base) F_law_is_integer T0)
  have csame := ok_same N_law_same T0 cint
  have cpart := N_law_part.cal (ok_part F_law_part T0 cat)
  have cparts := N_law_parts.cal (ok_parts F_law_parts T0 cat cpart)
  have cline := N_law_line.cal (ok_line F_law_line T0 cat)
  have cthing := N_law_thing.cal (ok_thing F_law_thing T0 cat)
  have cform := N_format_name.cal (ok_format (P := P) (w := w) (base := base) F_format_name T0)
  have cisp := N_is_part.cal (ok_is_part (P := P) (w := w) (base := base) F_is_part T0)
  have cread := N_law_read.cal (ok_read (P := P) (w := w) (base := base) F_law_read T0)
  have cpi := N_parse.cal (ok_parse_i F_parse T1 cisp)
  have cpn := N_parse_name.cal (ok_parse_name F_parse_name cpi)
  have cps := N_parse_spot.cal (ok_parse_spot F_parse_spot cpi)
  have cpm := N_parse_mark.cal (ok_parse_mark F_parse_mark cpi)
  have clp := N_law_parse.cal (ok_law_parse F_law_parse cpn cps cpm)
  have cref := N_law_refuses.cal (ok_refuses F_law_refuses T clp)
  have crds := N_law_reads.cal (ok_reads F_law_reads T clp cread cref (csame 1))
  exact ok_law F_law T cdraws cparts (csame 0) cform cthing cline crds
theorem walk {l : PySem.W.OpenLaw} {q : Program} {loose : List Str} {XP : (Str → Option Value) → Heap → Prop} {YP : World → Heap → Prop} {d : DefRec} {K : Params → PySem.W.Frag} (hn : l.most = some 63) (hdf : d.params.defaults = [])
    (hY : ∀ (w : World) (h : Heap), YP w h → (K w.params).In h)
    (F : ∀ (w : World) (mg : Str → Option Value) (fa : Addr) (h : Heap), (K w.params).In h → h.Ns mainGlobals mg → mg d.name = some (.ref fa) →
      ∃ fd : FuncData, (∀ (s : Shared) (u : Value), BindsTo s fd ⟨[u], []⟩ [("script", u)]) ∧ ∀ base : Heap, (K w.params).In base → base.Ns mainGlobals mg → FnOk l.prog w (K w.params) mg base CX0 7 fa fd ["script"] (sp_law (K w.params))) :
    PySem.W.WalkO q loose XP YP l.row.toRowW d [] (fun f vs => PySem.call f vs) :=
  L2.walk_of (n := 63) (k := 7) (x := "script") (CX := fun _ => CX0) (sp := fun w => sp_law (K w.params)) hn (by decide) hdf ⟨rfl, by decide, by decide⟩ hY F (fun _ _ a ns hl _ hS => ⟨a, ns, rfl, hS, hl, fun _ => rfl⟩) fun _ _ _ _ _ z => z
end Kw
open PySem PySem.W PyProof.Rows
set_option maxRecDepth 100000 in
set_option maxHeartbeats 0 in
theorem PySem.Challenge.cw_kithwhole_k01_names_read_back_holds : PySem.Challenge.rw_kithwhole_k01_names_read_back.Holds := by
  w_on; o_law; k_head; (case hw => w_witness2)
  k_fill
  refine Kw.walk (l := PySem.Challenge.rw_kithwhole_k01_names_read_back) rfl rfl (fun w h Y => PySem.W.kIn_of Y) ?F
  case F =>
    intro w mg fa h KX G hmg
    refine' Kw.all_mk KX G hmg ?a0 ?l0 ?c0 ?k0 ?a1 ?l1 ?c1 ?k1 ?a2 ?l2 ?c2 ?k2 ?a3 ?l3 ?c3 ?k3 ?a4 ?l4 ?c4 ?k4 ?a5 ?l5 ?c5 ?k5 ?a6 ?l6 ?c6 ?k6 ?a7 ?l7 ?c7 ?k7 ?a8 ?l8 ?c8 ?k8 ?a9 ?l9 ?c9 ?k9 ?a10 ?l10 ?c10 ?k10 ?a11 ?l11 ?c11 ?k11 ?a12 ?l12 ?c12 ?k12 ?a13 ?l13 ?c13 ?k13 ?a14 ?l14 ?c14 ?k14 ?a15 ?l15 ?c15 ?k15 ?a16 ?l16 ?c16 ?k16 ?a17 ?l17 ?c17 ?k17 ?a18 ?l18 ?c18 ?k18 ?a19 ?l19 ?c19 ?k19 ?z_int ?z_str ?z_len ?z_min ?z_max ?z_all ?z_bool ?z_list ?z_tuple ?z_range ?z_isinstance ?z_ValueError ?y_DIGITS ?y_MOST_DIGITS ?aCN ?aCK ?aCA ?aCP ?aCQ ?xN ?kN ?bN ?tN ?hN ?sN ?bK ?tK ?hK ?sK ?e1 ?e2 ?e3 ?e4 ?e5 ?e6 ?qQ ?qP ?qN ?qA ?qV
    (case a0 => k_is)
    (case l0 => k_is)
    (case c0 => k_is)
    (case k0 => k_is)
    (case a1 => k_is)
    (case l1 => k_is)
    (case c1 => k_is)
    (case k1 => k_is)
    (case a2 => k_is)
    (case l2 => k_is)
    (case c2 => k_is)
    (case k2 => k_is)
    (case a3 => k_is)
    (case l3 => k_is)
    (case c3 => k_is)
    (case k3 => k_is)
    (case a4 => k_is)
    (case l4 => k_is)
    (case c4 => k_is)
    (case k4 => k_is)
    (case a5 => k_is)
    (case l5 => k_is)
    (case c5 => k_is)
    (case k5 => k_is)
    (case a6 => k_is)
    (case l6 => k_is)
    (case c6 => k_is)
    (case k6 => k_is)
    (case a7 => k_is)
    (case l7 => k_is)
    (case c7 => k_is)
    (case k7 => k_is)
    (case a8 => k_is)
    (case l8 => k_is)
    (case c8 => k_is)
    (case k8 => k_is)
    (case a9 => k_is)
    (case l9 => k_is)
    (case c9 => k_is)
    (case k9 => k_is)
    (case a10 => k_is)
    (case l10 => k_is)
    (case c10 => k_is)
    (case k10 => k_is)
    (case a11 => k_is)
    (case l11 => k_is)
    (case c11 => k_is)
    (case k11 => k_is)
    (case a12 => k_is)
    (case l12 => k_is)
    (case c12 => k_is)
    (case k12 => k_is)
    (case a13 => k_is)
    (case l13 => k_is)
    (case c13 => k_is)
    (case k13 => k_is)
    (case a14 => k_is)
    (case l14 => k_is)
    (case c14 => k_is)
    (case k14 => k_is)
    (case a15 => k_is)
    (case l15 => k_is)
    (case c15 => k_is)
    (case k15 => k_is)
    (case a16 => k_is)
    (case l16 => k_is)
    (case c16 => k_is)
    (case k16 => k_is)
    (case a17 => k_is)
    (case l17 => k_is)
    (case c17 => k_is)
    (case k17 => k_is)
    (case a18 => k_is)
    (case l18 => k_is)
    (case c18 => k_is)
    (case k18 => k_is)
    (case a19 => k_is)
    (case l19 => k_is)
    (case c19 => k_is)
    (case k19 => k_is)
    (case z_int => k_is)
    (case z_str => k_is)
    (case z_len => k_is)
    (case z_min => k_is)
    (case z_max => k_is)
    (case z_all => k_is)
    (case z_bool => k_is)
    (case z_list => k_is)
    (case z_tuple => k_is)
    (case z_range => k_is)
    (case z_isinstance => k_is)
    (case z_ValueError => k_is)
    (case y_DIGITS => k_is)
    (case y_MOST_DIGITS => k_is)
    (case aCN => k_is)
    (case aCK => k_is)
    (case aCA => k_is)
    (case aCP => k_is)
    (case aCQ => k_is)
    (case xN => k_exc)
    (case kN => k_is)
    (case bN => k_is)
    (case tN => k_is)
    (case hN => k_is)
    (case sN => first | rfl | k_is)
    (case bK => k_is)
    (case tK => k_is)
    (case hK => k_is)
    (case sK => k_is)
    (case e1 => k_is)
    (case e2 => k_is)
    (case e3 => k_is)
    (case e4 => k_is)
    (case e5 => k_is)
    (case e6 => k_is)
    (case qQ => kit_is)
    (case qP => kit_is)
    (case qN => kit_is)
    (case qA => kit_is)
    (case qV => kit_is)
#print axioms PySem.Challenge.cw_kithwhole_k01_names_read_back_holds
