import PyProof.Rows.All
import Wide.All
import OpenK.AllK
import Wide.FinOn
import HandS.Base
import HandS.Call
import HandS.List
import HandS.Comp
import HandS.Ends
import HandS.Iter
import HandS.Walk
import HandS.Text
import HandS.Words
import HandS.WordsList
import HandS.Exc
import HandS.TryOnly
import HandS.ExcOwn
import HandS.WordsExc
import HandS.Dict
import HandS.ExcIs
import HandS.FStr
import HandS.Small
import HandS.IsInst
import HandS.More
import HandS.Codes
import KE.SortKeyHeap
import KE.KTupSum
import HandS.SortKw
import HandS.Sort
import KE.SortData
import KE.SortLaws
import KE.RegKIsAll
import PySem.Challenge.RW_kithwhole_k02_order_of_changes
set_option Elab.async false
set_option linter.all false
set_option maxRecDepth 100000
set_option maxHeartbeats 2000000
namespace Kw
open PySem PySem.Spec PyProof.Rows L2
/-! ### calls of a def by what is known of it -/
structure CalX (P : Program) (w : World) (K : PySem.W.Frag) (mg : Str → Option Value) (base : Heap) (CX : CXT) (k : Nat) (x : Str) (sp : Sp) : Prop where
  ex : ∃ (f : Addr) (fd : FuncData) (ps : List Str), FnOk P w K mg base CX k f fd ps sp ∧ mg x = some (.ref f) ∧ PySem.W.keepIn K (.ref f) = true ∧ Binds K fd ps []
section
variable {X : Cx} {CX : CXT} {k j : Nat} {x : Str} {sp : Sp} {E : L2.St → XK} {p pos : Pos} {e : Expr} {es : List Expr} {t : TA}
theorem pe_cx (c : CalX X.prog X.w X.K X.mg X.base CX k x sp) (hr : Room k X.A) (hg : Gl X x) (hx : Passes CX X E0) (ha : PA X (e :: es) t)
    (hdb : (x == ("__debug__" : Str)) = false := by decide) (he : starEach (e :: es) X.env = (false, eval e X.env) :: starEach es X.env := by rfl) (hpl : (backTo pos (starEach es X.env)).any (·.1) = false := by rfl) :
    PE X (.Call (.Name x p) (e :: es) [] pos) (tCall sp [] E0 t) := by
  obtain ⟨f, fd, ps, F, hm, kp, b⟩ := c.ex
  exact pe_call F hr hg hm kp b .nil hx ha hdb he hpl
theorem pe_cxS (c : CalX X.prog X.w X.K X.mg X.base CX k x sp) (hr : Room k X.A) (hg : Gl X x) (hx : ∀ σ, PassesAt CX X σ (E σ)) (ha : PA X (e :: es) t)
    (hdb : (x == ("__debug__" : Str)) = false := by decide) (he : starEach (e :: es) X.env = (false, eval e X.env) :: starEach es X.env := by rfl) (hpl : (backTo pos (starEach es X.env)).any (·.1) = false := by rfl) :
    PE X (.Call (.Name x p) (e :: es) [] pos) (tCallS sp E t) := by
  obtain ⟨f, fd, ps, F, hm, kp, b⟩ := c.ex
  exact pe_callS F hr hg hm kp b hx ha hdb he hpl
end
/-! ### rules in a plainer form -/
section
variable {X : Cx}
theorem CallR.imp {f : Value} {r r' : List V → Hp → VK → Prop} (h : CallR X f r) (i : ∀ xs H Q, r' xs H Q → r xs H Q) : CallR X f r' :=
  fun pins s σ H xs us Q I v q => h pins s σ H xs us Q I v (i _ _ _ q)
theorem call_intI : CallR X (.type "int") (fun xs H Q => ∃ i, xs = [.int i] ∧ Q (.int i) H) :=
  CallR.imp call_int1 fun _ _ _ h => .inl h
theorem call_lenL : CallR X (.builtin "len") (fun xs H Q => ∃ p ys, xs = [.ref p] ∧ SqL X.K H p ys ∧ Q (.int ys.length) H) :=
  CallR.imp call_len_seq fun _ _ _ ⟨p, ys, a, b, c⟩ => ⟨p, ys, a, .inl b, c⟩
theorem call_lenT : CallR X (.builtin "len") (fun xs H Q => ∃ p ys, xs = [.ref p] ∧ SqT X.K H p ys ∧ Q (.int ys.length) H) :=
  CallR.imp call_len_seq fun _ _ _ ⟨p, ys, a, b, c⟩ => ⟨p, ys, a, .inr b, c⟩
/-- a text that is repeated -/
def repS (z : Str) (k : Nat) : Str := ⟨(List.replicate k z.cps).foldl (· ++ ·) #[]⟩
theorem rep_size (z : Array Nat) : ∀ (k : Nat) (a : Array Nat), ((List.replicate k z).foldl (· ++ ·) a).size = a.size + k * z.size
  | 0, a => by simp
  | k + 1, a => by
    rw [List.replicate_succ, List.foldl_cons, rep_size z k, Array.size_append, Nat.succ_mul]
    omega
theorem repS_length (z : Str) (k : Nat) : (repS z k).length = k * z.length := by
  show ((List.replicate k z.cps).foldl (· ++ ·) #[]).size = _
  rw [rep_size]
  show 0 + k * z.cps.size = k * z.cps.size
  omega
theorem op_mul_str : OpR X (binaryOp .Mult) (fun x y H Q => ∃ z k, x = .str z ∧ y = .int k ∧ 0 ≤ k ∧ k ≤ 1000 ∧ z.length ≤ 1000 ∧ ∀ r : Str, r.length = k.toNat * z.length → Q (.str r) H) := by
  intro pins s σ H x y v u Q I rx ry h
  obtain ⟨z, k, rfl, rfl, h0, h1, hz, q⟩ := h
  obtain ⟨t, rfl⟩ := rx
  obtain ⟨t', rfl⟩ := ry
  have hm : z.length * k.toNat ≤ 1000 * 1000 := Nat.mul_le_mul hz (by omega)
  have hs : z.length * k.toNat ≤ sizeLine := Nat.le_trans hm (by rw [sizeLine_eq]; decide)
  refine PySem.P.mul_str ?_ ?_ ?_ ?_
  · have a : ¬ k < -(2 ^ 63 : Int) := by omega
    have b : ¬ k ≥ 2 ^ 63 := by omega
    rw [decide_eq_false a, decide_eq_false b]
    rfl
  · intro hk _
    have hk : (2 ^ 63 - 1 : Int) / k ≥ 1000 := by
      have : (1000 : Int) * k ≤ 2 ^ 63 - 1 := by omega
      exact (Int.le_ediv_iff_mul_le (by omega)).mpr this
    have : (z.length : Int) ≤ 1000 := by omega
    omega
  · intro _ _
    show decide (z.length * k.toNat > sizeLine) = false
    exact decide_eq_false (by omega)
  · by_cases c : k < 1
    · rw [if_pos c]
      exact ⟨by show (0 : Nat) ≤ sizeLine; exact Nat.zero_le _, .str Str.empty, H, I.tok _, ⟨_, rfl⟩, q _ (by
        have : k.toNat = 0 := by omega
        rw [this]
        show (0 : Nat) = _
        omega)⟩
    · rw [if_neg c]
      by_cases d : (k == 1 || z.length == 0) = true
      · rw [if_pos d]
        refine ⟨.str z, H, I.tok _, ⟨_, rfl⟩, q _ ?_⟩
        rw [Bool.or_eq_true, beq_iff_eq, beq_iff_eq] at d
        rcases d with d | d
        · subst d
          show z.length = 1 * z.length
          omega
        · rw [d]
          omega
      · rw [if_neg d]
        refine ⟨?_, .str (repS z k.toNat), H, I.tok _, ⟨_, rfl⟩, q _ (repS_length z _)⟩
        show (repS z k.toNat).length ≤ sizeLine
        rw [repS_length, Nat.mul_comm]
        exact hs
end
/-! ### heaps, lists -/
theorem same_upd {H H' : Hp} {l : Addr} {o : HO} (hl : H l = none) (s : Same H H') : Same H (upd H' l o) := fun b u e => by
  rw [upd_ne (ne_of_none e hl)]
  exact s b u e
theorem same_new {H H' : Hp} {l : Addr} {o : HO} (hl : H' l = none) (s : Same H H') : Same H (upd H' l o) := same_upd (s.free hl) s
theorem int_at {ns : List Int} {i : Nat} {y : V} (h : (ns.map V.int)[i]? = some y) : ∃ z, ns[i]? = some z ∧ y = V.int z := by
  rw [List.getElem?_map] at h
  cases e : ns[i]? with
  | none =>
    rw [e] at h
    cases h
  | some z =>
    rw [e] at h
    exact ⟨z, rfl, (Option.some.inj h).symm⟩
theorem at_int {ns : List Int} {i : Nat} {z : Int} (h : ns[i]? = some z) : (ns.map V.int)[i]? = some (V.int z) := by
  rw [List.getElem?_map, h]
  rfl
theorem some_at {α : Type} {l : List α} {i : Nat} (h : i < l.length) : ∃ x, l[i]? = some x := ⟨l[i], List.getElem?_eq_getElem h⟩
theorem sz_small {n : Nat} (h : n ≤ 16000000) : n ≤ sizeLine := by
  rw [sizeLine_eq]
  omega
theorem lt_small {n : Nat} (h : n ≤ 16000000) : n < sizeLine := by
  rw [sizeLine_eq]
  omega
theorem map_snoc {α β : Type} {f : α → β} {l : List α} {x : α} : l.map f ++ [f x] = (l ++ [x]).map f := by
  rw [List.map_append]
  rfl
theorem all_snoc {α : Type} {p : α → Prop} {l : List α} {x : α} (h : ∀ y ∈ l, p y) (hx : p x) : ∀ y ∈ l ++ [x], p y := fun y hy => by
  rcases List.mem_append.mp hy with h1 | h1
  · exact h y h1
  · rw [List.mem_singleton.mp h1]
    exact hx
theorem ite_some {c : Prop} [Decidable c] {A B : Prop} (h1 : c → A) (h2 : ¬ c → B) : if (decide c) = true then A else B := ite2 (fun h => h1 (of_decide_eq_true h)) fun h => h2 (fun e => h (decide_eq_true e))
theorem ite_not {c : Prop} [Decidable c] {A B : Prop} (h1 : ¬ c → A) (h2 : c → B) : if (!decide c) = true then A else B := by
  by_cases e : c
  · rw [decide_eq_true e]
    exact h2 e
  · rw [decide_eq_false e]
    exact h1 e
theorem int_eq {i j : Int} {A B : Prop} (h1 : i = j → A) (h2 : i ≠ j → B) : if (decide (V.int i = V.int j)) = true then A else B :=
  ite_some (fun e => h1 (V.int.inj e)) fun e => h2 fun q => e (by rw [q])
/-! ### lists and tuples alike -/
def Sq (K : PySem.W.Frag) (H : Hp) (a : Addr) (xs : List V) : Prop := SqL K H a xs ∨ SqT K H a xs
section
variable {X : Cx}
theorem IxR.imp {r r' : R2} (h : IxR X r) (i : ∀ x y H Q, r' x y H Q → r x y H Q) : IxR X r' :=
  fun value slice pins s σ H x y v u Q I rx ry q hs => h value slice pins s σ H x y v u Q I rx ry (i _ _ _ _ q) hs
theorem ix_sq : IxR X (fun x y H Q => ∃ p xs i v, x = .ref p ∧ y = .int i ∧ Sq X.K H p xs ∧ atI xs i = some v ∧ Q v H) :=
  IxR.imp ix_seq fun x y H Q ⟨p, xs, i, v, e1, e2, hs, ha, q⟩ => by
    rcases hs with hs | hs
    · exact .inl ⟨p, xs, i, v, e1, e2, hs, ha, q⟩
    · exact .inr (.inl ⟨p, xs, i, v, e1, e2, hs, ha, q⟩)
theorem some_at0 {α : Type} {l : List α} {i : Nat} (h : i < l.length) : ∃ x, l[i]? = some x := ⟨l[i], List.getElem?_eq_getElem h⟩
theorem atI_pos {α : Type} {xs : List α} {i : Int} {v : α} (h0 : 0 ≤ i) (h : xs[i.toNat]? = some v) : atI xs i = some v := by
  have e : i = ((i.toNat : Nat) : Int) := by omega
  rw [e]
  exact atI_nat h
theorem ix_listA : IxR X (fun x y H Q => ∃ p xs i, x = .ref p ∧ y = .int i ∧ SqL X.K H p xs ∧ 0 ≤ i ∧ i < xs.length ∧ ∀ v, xs[i.toNat]? = some v → Q v H) :=
  IxR.imp ix_list fun x y H Q ⟨p, xs, i, e1, e2, hs, h0, h1, q⟩ => by
    obtain ⟨v, hv⟩ := some_at0 (l := xs) (i := i.toNat) (by omega)
    exact ⟨p, xs, i, v, e1, e2, hs, atI_pos h0 hv, q v hv⟩
theorem ix_tupA : IxR X (fun x y H Q => ∃ p xs i, x = .ref p ∧ y = .int i ∧ SqT X.K H p xs ∧ 0 ≤ i ∧ i < xs.length ∧ ∀ v, xs[i.toNat]? = some v → Q v H) :=
  IxR.imp ix_tup fun x y H Q ⟨p, xs, i, e1, e2, hs, h0, h1, q⟩ => by
    obtain ⟨v, hv⟩ := some_at0 (l := xs) (i := i.toNat) (by omega)
    exact ⟨p, xs, i, v, e1, e2, hs, atI_pos h0 hv, q v hv⟩
theorem ix_strA : IxR X (fun x y H Q => ∃ z i, x = .str z ∧ y = .int i ∧ z.length ≤ sizeLine ∧ 0 ≤ i ∧ i < z.length ∧ ∀ c, z.cps.toList[i.toNat]? = some c → Q (.str ⟨#[c]⟩) H) :=
  IxR.imp ix_str fun x y H Q ⟨z, i, e1, e2, hs, h0, h1, q⟩ => by
    obtain ⟨c, hc⟩ := some_at0 (l := z.cps.toList) (i := i.toNat) (by rw [Array.length_toList]; show i.toNat < z.length; omega)
    exact ⟨z, i, c, e1, e2, hs, atI_pos h0 hc, q c hc⟩
theorem call_lenS : CallR X (.builtin "len") (fun xs H Q => ∃ p ys, xs = [.ref p] ∧ Sq X.K H p ys ∧ Q (.int ys.length) H) := call_len_seq
end
/-! ### data as a whole -/
inductive D where
  | non
  | bl (b : Bool)
  | int (i : Int)
  | str (z : Str)
  | seq (l : Bool) (xs : List D)
def seqO (l : Bool) (xs : List V) : HO := if l = true then .lst xs else .tup xs
mutual
def At (H : Hp) : D → V → Prop
  | .non, v => v = .non
  | .bl b, v => v = .bl b
  | .int i, v => v = .int i
  | .str z, v => v = .str z
  | .seq l ds, v => ∃ (a : Addr) (xs : List V), v = .ref a ∧ H a = some (seqO l xs) ∧ AtL H ds xs ∧ ds.length ≤ 16000000
def AtL (H : Hp) : List D → List V → Prop
  | [], xs => xs = []
  | d :: ds, xs => ∃ (x : V) (ys : List V), xs = x :: ys ∧ At H d x ∧ AtL H ds ys
end
mutual
def D.dep : D → Nat
  | .seq _ ds => depL ds + 1
  | _ => 0
def depL : List D → Nat
  | [] => 0
  | d :: ds => max d.dep (depL ds)
end
mutual
theorem At.same {H H' : Hp} (s : Same H H') : ∀ (d : D) (v : V), At H d v → At H' d v
  | .non, _, h => h
  | .bl _, _, h => h
  | .int _, _, h => h
  | .str _, _, h => h
  | .seq l ds, v, h => by
    obtain ⟨a, xs, e, ha, hl, z⟩ := h
    exact ⟨a, xs, e, s _ _ ha, AtL.same s ds xs hl, z⟩
theorem AtL.same {H H' : Hp} (s : Same H H') : ∀ (ds : List D) (xs : List V), AtL H ds xs → AtL H' ds xs
  | [], _, h => h
  | d :: ds, xs, h => by
    obtain ⟨x, ys, e, h1, h2⟩ := h
    exact ⟨x, ys, e, At.same s d x h1, AtL.same s ds ys h2⟩
end
theorem AtL.length {H : Hp} : ∀ {ds : List D} {xs : List V}, AtL H ds xs → xs.length = ds.length
  | [], xs, h => by
    rw [show xs = [] from h]
    rfl
  | d :: ds, xs, h => by
    obtain ⟨x, ys, e, _, h2⟩ := h
    rw [e, List.length_cons, List.length_cons, AtL.length h2]
theorem AtL.get {H : Hp} : ∀ {ds : List D} {xs : List V} {i : Nat} {d : D}, AtL H ds xs → ds[i]? = some d → ∃ x, xs[i]? = some x ∧ At H d x
  | [], xs, i, d, h, e => by simp at e
  | c :: ds, xs, 0, d, h, e => by
    obtain ⟨x, ys, ex, h1, _⟩ := h
    have q : c = d := by simpa using e
    subst q
    exact ⟨x, by rw [ex]; rfl, h1⟩
  | c :: ds, xs, i + 1, d, h, e => by
    obtain ⟨x, ys, ex, _, h2⟩ := h
    obtain ⟨z, hz, hA⟩ := AtL.get (i := i) (d := d) h2 (by simpa using e)
    exact ⟨z, by rw [ex]; simpa using hz, hA⟩
theorem dep_get : ∀ {ds : List D} {i : Nat} {d : D}, ds[i]? = some d → d.dep ≤ depL ds
  | [], i, d, e => by simp at e
  | c :: ds, 0, d, e => by
    have q : c = d := by simpa using e
    subst q
    show c.dep ≤ max c.dep (depL ds)
    exact Nat.le_max_left _ _
  | c :: ds, i + 1, d, e => by
    have q := dep_get (ds := ds) (i := i) (d := d) (by simpa using e)
    exact Nat.le_trans q (by show depL ds ≤ max c.dep (depL ds); exact Nat.le_max_right _ _)
def D.ty : D → String
  | .non => "NoneType"
  | .bl _ => "bool"
  | .int _ => "int"
  | .str _ => "str"
  | .seq l _ => if l = true then "list" else "tuple"
theorem At.ty {K : PySem.W.Frag} {H : Hp} {v : V} : ∀ {d : D}, At H d v → TyX K H v (.type d.ty)
  | .non, h => by
    rw [show v = .non from h]
    exact .base .non
  | .bl b, h => by
    rw [show v = .bl b from h]
    exact .base (.bl b)
  | .int b, h => by
    rw [show v = .int b from h]
    exact .base (.int b)
  | .str b, h => by
    rw [show v = .str b from h]
    exact .base (.str b)
  | .seq true ds, h => by
    obtain ⟨a, xs, e, ha, _⟩ := h
    rw [e]
    exact .base (.lst ha)
  | .seq false ds, h => by
    obtain ⟨a, xs, e, ha, _⟩ := h
    rw [e]
    exact .base (.tup ha)
theorem sq_of {K : PySem.W.Frag} {H : Hp} {a : Addr} {l : Bool} {xs : List V} (h : H a = some (seqO l xs)) : Sq K H a xs := by
  cases l with
  | true => exact .inl (SqL.of h)
  | false => exact .inr (SqT.of h)
/-- a def by what is known of it -/
structure Fn (K : PySem.W.Frag) (mg : Str → Option Value) (x : Str) (st : Stmt) (ps : List Str) (f : Addr) (fd : FuncData) : Prop where
  fn : Fun K x x st f fd
  mgf : mg x = some (.ref f)
  bd : Binds K fd ps []
theorem Fn.cal {P : Program} {w : World} {K : PySem.W.Frag} {mg : Str → Option Value} {base : Heap} {CX : CXT} {k : Nat} {x : Str} {st : Stmt} {ps : List Str} {f : Addr} {fd : FuncData} {sp : Sp} (F : Fn K mg x st ps f fd)
    (h : FnOk P w K mg base CX k f fd ps sp) : CalX P w K mg base CX k x sp := ⟨f, fd, ps, h, F.mgf, F.fn.kp, F.bd⟩
theorem CalX.mono {P : Program} {w : World} {K : PySem.W.Frag} {mg : Str → Option Value} {base : Heap} {CX : CXT} {j k : Nat} {x : Str} {sp : Sp} (c : CalX P w K mg base CX j x sp) (h : j ≤ k) : CalX P w K mg base CX k x sp := by
  obtain ⟨f, fd, ps, F, a, b, d⟩ := c.ex
  exact ⟨f, fd, ps, F.mono h, a, b, d⟩
theorem CalX.imp {P : Program} {w : World} {K : PySem.W.Frag} {mg : Str → Option Value} {base : Heap} {CX : CXT} {k : Nat} {x : Str} {sp sp' : Sp} (c : CalX P w K mg base CX k x sp) (h : ∀ vs H Q E, sp' vs H Q E → sp vs H Q E) : CalX P w K mg base CX k x sp' := by
  obtain ⟨f, fd, ps, F, a, b, d⟩ := c.ex
  exact ⟨f, fd, ps, F.imp h, a, b, d⟩
theorem ixN_pos {n : Nat} {i : Int} (h0 : 0 ≤ i) (h1 : i < n) : ixN n i = some i.toNat := by
  unfold ixN
  rw [if_pos h0, if_pos h1]
theorem all_set {α : Type} {p : α → Prop} {l : List α} {i : Nat} {x : α} (h : ∀ y ∈ l, p y) (hx : p x) : ∀ y ∈ l.set i x, p y := fun y hy => by
  rcases List.mem_or_eq_of_mem_set hy with h1 | h1
  · exact h y h1
  · rw [h1]
    exact hx
theorem str_at {ns : List Str} {i : Nat} {y : V} (h : (ns.map V.str)[i]? = some y) : ∃ z, z ∈ ns ∧ ns[i]? = some z ∧ y = V.str z := by
  rw [List.getElem?_map] at h
  cases e : ns[i]? with
  | none =>
    rw [e] at h
    cases h
  | some z =>
    rw [e] at h
    exact ⟨z, List.mem_of_getElem? e, rfl, (Option.some.inj h).symm⟩
/-- a comprehension of one for: the new list, if each element's value is told -/
theorem lc_map {J : It} {n : Nat} {G : Hp → Prop} {Y : Nat → Hp → V → Hp → Prop} (w : L2.Walk J n G Y) {j : Nat} {te : TE} {σ : L2.St} {H1 : Hp} {D : Addr} {Qd : Hp → Prop} (hD : H1 D = none) (hn : n ≤ 16000000) (f : Nat → V)
    (hG : ∀ H, Same H1 H → G H)
    (hs : ∀ i x H H', i < n → Same H1 H → Y i H x H' → Same H H' ∧ ∀ Q : VK, (∀ H2, Same H' H2 → Q (f i) H2) → te ((σ.set j none).set j (some x)) H' Q)
    (hd : ∀ H, Same H1 H → H D = some (.lst ((List.range n).map f)) → Qd H) :
    ∃ W : Nat → Nat → Hp → Prop, (∃ m, W 0 m (upd H1 D (.lst []))) ∧ ∀ i m H, W i m H →
      (J.stop i H ∧ Qd H) ∨ (J.go i H ∧ ∃ Nx : Hp → Prop, (∀ H', Nx H' → ∃ m', m' < m ∧ W (i + 1) m' H') ∧ ∀ x H', J.yld i H x H' → gName j x (wipe σ [j]) H' fun σ2 H2 => wipe σ2 [j] = wipe σ [j] ∧ tYes σ2 H2 fun b H3 =>
        if b = true then te σ2 H3 fun y H4 => ∃ acc, H4 D = some (.lst acc) ∧ acc.length < sizeLine ∧ Nx (upd H4 D (.lst (acc ++ [y]))) else Nx H3) := by
  have hn2 : n < sizeLine := by
    rw [sizeLine_eq]
    omega
  refine lc_it w (fun i H => Same H1 H ∧ H D = some (.lst ((List.range i).map f))) ⟨same_new hD (Same.refl _), upd_same⟩ (fun i H _ h => hG H h.1) ?_ (fun H h => hd H h.1 h.2)
  rintro i x H H' hi ⟨s1, hd1⟩ y
  obtain ⟨s2, q⟩ := hs i x H H' hi s1 y
  refine ⟨by show (((σ.set j none).set j (some x)).set j none) = σ.set j none; rw [List.set_set, List.set_set], ?_⟩
  refine iteT (A := te ((σ.set j none).set j (some x)) H' _) (B := Same H1 H' ∧ H' D = some (.lst ((List.range (i + 1)).map f))) ?_
  refine q _ fun H2 s3 => ⟨_, s3 _ _ (s2 _ _ hd1), by rw [List.length_map, List.length_range]; omega, same_upd hD (s1.trans (s2.trans s3)), ?_⟩
  rw [upd_same, List.range_succ, List.map_append]
  rfl
theorem range_map {α : Type} (xs : List α) (f : Nat → V) (g : α → V) (h : ∀ i x, xs[i]? = some x → f i = g x) : (List.range xs.length).map f = xs.map g := by
  apply List.ext_getElem?
  intro i
  rw [List.getElem?_map, List.getElem?_map]
  by_cases hi : i < xs.length
  · rw [List.getElem?_range hi, List.getElem?_eq_getElem hi]
    exact congrArg some (h i _ (List.getElem?_eq_getElem hi))
  · rw [List.getElem?_eq_none (by rw [List.length_range]; omega), List.getElem?_eq_none (by omega)]
    rfl
/-- isinstance of the error that a suite holds: its class is D's -/
theorem call_isE2 {X : Cx} {a D : Addr} {oe : Obj} {cls : Value} {d : Option Addr} {pn : List (Addr × Obj)} (C : ExcC X.K D) (hz : Zc cls d oe) (hf : ∃ vs, oe.data = .fields vs) :
    CallR (X.suite a ((a, oe) :: pn)) (.builtin "isinstance") (fun xs H Q => cls = .ref D ∧ d = none ∧ rIsE X.K D a xs H Q) := by
  intro pins s σ H xs us Q I r h
  obtain ⟨e1, e2, q⟩ := h
  subst e1 e2
  exact call_isE C hz hf pins s σ H xs us Q I r q
/-! ### classes by what is known of them -/
structure MakX (P : Program) (w : World) (K : PySem.W.Frag) (mg : Str → Option Value) (base : Heap) (k : Nat) (x : Str) (C : Addr) (sp : Sp) (dvs : List V) : Prop where
  ex : ∃ (f : Addr) (fd : FuncData) (ps : List Str) (ds : List Value), Mk K C f ∧ FnOk P w K mg base CX0 k f fd ps sp ∧ mg x = some (.ref C) ∧ Binds K fd ps ds ∧ Vals dvs ds
structure MetX (P : Program) (w : World) (K : PySem.W.Frag) (mg : Str → Option Value) (base : Heap) (k : Nat) (C : Addr) (m : Str) (sp : Sp) : Prop where
  ex : ∃ (f : Addr) (fd : FuncData) (ps : List Str), Cls K C ∧ Meth K C m f ∧ FnOk P w K mg base CX0 k f fd ps sp ∧ Binds K fd ps []
section
variable {X : Cx} {k j : Nat} {C : Addr} {x m : Str} {sp : Sp} {dvs : List V} {p pos apos : Pos} {e o : Expr} {es : List Expr} {ta : TE} {t : TA}
theorem pe_mkx (c : MakX X.prog X.w X.K X.mg X.base k x C sp dvs) (hr : Room j X.A) (hk : k + 1 ≤ j) (hg : Gl X x) (ha : PA X (e :: es) t)
    (hdb : (x == ("__debug__" : Str)) = false := by decide) (he : starEach (e :: es) X.env = (false, eval e X.env) :: starEach es X.env := by rfl) (hpl : (backTo pos (starEach es X.env)).any (·.1) = false := by rfl) :
    PE X (.Call (.Name x p) (e :: es) [] pos) (tMake C sp dvs E0 t) := by
  obtain ⟨f, fd, ps, ds, M, F, hm, b, d⟩ := c.ex
  exact pe_make M F (hr.mono hk) hg hm b d pass0 ha hdb he hpl
theorem pe_mtx {pl : Sem Bool} (c : MetX X.prog X.w X.K X.mg X.base k C m sp) (hr : Room j X.A) (hk : k ≤ j) (he : PE X o ta) (ha : PA X (e :: es) t)
    (hst : starEach (e :: es) X.env = (false, eval e X.env) :: starEach es X.env := by rfl) (hpl : (backTo pos (starEach es X.env)).any (·.1) = false := by rfl)
    (ht : eval (.Call (.Attribute o m apos) (e :: es) [] pos) X.env = (do
      let ov ← eval o X.env
      standAt apos.atName
      let (f, first) ← holding [ov] (getMethod ov m pl)
      callWith pos f first (backTo pos (starEach (e :: es) X.env)) (backToKw pos (keywordEach [] X.env))) := by rfl) :
    PE X (.Call (.Attribute o m apos) (e :: es) [] pos) (tMeth C m sp [] E0 ta t) := by
  obtain ⟨f, fd, ps, hc, hm, F, b⟩ := c.ex
  exact pe_meth (pl := pl) he hc hm F (hr.mono hk) b .nil pass0 ha hst hpl ht
theorem pe_mtx0 {pl : Sem Bool} (c : MetX X.prog X.w X.K X.mg X.base k C m sp) (hr : Room j X.A) (hk : k ≤ j) (he : PE X o ta)
    (ht : eval (.Call (.Attribute o m apos) [] [] pos) X.env = (do
      let ov ← eval o X.env
      standAt apos.atName
      let (f, first) ← holding [ov] (getMethod ov m pl)
      callWith pos f first (backTo pos (starEach [] X.env)) (backToKw pos (keywordEach [] X.env))) := by rfl) :
    PE X (.Call (.Attribute o m apos) [] [] pos) (tMeth C m sp [] E0 ta tNil) := by
  obtain ⟨f, fd, ps, hc, hm, F, b⟩ := c.ex
  exact pe_meth0 (pl := pl) he hc hm F (hr.mono hk) b .nil pass0 ht
end
end Kw
set_option Elab.async false
set_option linter.all false
set_option maxRecDepth 100000
set_option maxHeartbeats 4000000
namespace Kw
open PySem PySem.Spec PyProof.Rows L2
open PySem.W (KeyPure ktm_sumG)
section
variable {X : Cx}
/-- sum of a tuple of ints -/
theorem sum_tup_raw {prog : Program} {w : World} {A : Around} {E : Value → Shared → Prop} {s : Shared} {t : Addr} {its : List Value} {ns : List Int} {Q : Value → Shared → Prop} (hh : A.handled = none) (hl : s.heap.IsTuple t its.toArray) (hi : IntsAre its ns)
    (h : ∀ h' tk t', (∀ b o, s.heap.get? b = some o → h'.get? b = some o) → Q (.int ns.sum t') { s with heap := h', toks := tk }) : wpAny (model prog w) A (call (.builtin "sum") [.ref t]) Q E s := by
  obtain ⟨xs, e⟩ := hi.allInts.items
  have hn : numsOf (intItems xs).toList = ns := by rw [← e]; exact hi.numsOf
  rw [nums_intItems] at hn
  rw [e] at hl
  refine ktm_sumG hh hl fun h' tk t' hk => ?_
  have := h h' tk t' hk
  rw [preSum_eq, List.take_of_length_le (by simp), hn]
  exact this
theorem cr_sumT (hc : X.calm = true) : CallR X (.builtin "sum") (fun vs H Q => ∃ (a : Addr) (ns : List Int), vs = [V.ref a] ∧ SqT X.K H a (ns.map V.int) ∧ Q (.int ns.sum) H) := by
  intro pins s σ H vs us Q I r h
  obtain ⟨a, ns, rfl, hs, q⟩ := h
  obtain ⟨its, rv, hl, _⟩ := I.tuple hs
  rw [Vals.ref1 r]
  exact sum_tup_raw (I.ok.hd hc) hl rv.ints fun h' tk t' hk => ⟨.int _, H, I.kept hk, ⟨_, rfl⟩, q⟩
end
section
variable {X : Cx}
theorem cr_range1 : CallR X (.type "range") (fun vs H Q => ∃ j, vs = [V.int j] ∧ ∀ p, H p = none → Q (.ref p) (upd H p (.rng 0 j))) := by
  intro pins s σ H vs us Q I r h
  obtain ⟨j, rfl, q⟩ := h
  obtain ⟨u1, rfl, t, rfl⟩ := vals1 r
  refine call_range_1 ⟨.ref s.heap.objs.size, upd H s.heap.objs.size (.rng 0 j), I.laid (t' := s.toks + 1 + 1) (fun b o e => Heap.get?_push_of_some _ e) (Nat.le_refl _) ?_, rfl, q _ (I.hok.fresh (Nat.le_refl _))⟩
  exact ⟨s.toks, t, s.toks + 1, Heap.get?_push_size _ rfl⟩
theorem op_notin_rng : OpR X (compareOp .NotIn) (fun x y H Q => ∃ i a lo hi, x = V.int i ∧ y = V.ref a ∧ H a = some (.rng lo hi) ∧ Q (.bl (!decide (lo ≤ i ∧ i < hi))) H) := by
  intro pins s σ H x y v u Q I rx ry h
  obtain ⟨i, a, lo, hi, rfl, rfl, ha, q⟩ := h
  obtain ⟨k, rfl⟩ := rx
  obtain rfl : u = Value.ref a := ry
  obtain ⟨t1, t2, t3, ho⟩ := I.hok a _ ha
  show wpAny _ _ (do return Value.bool (!(← contains (Value.ref a) (Value.int i k)))) _ _ s
  refine wpAny_bind (wpAny_contains_slot (T := "range") ⟨_, ho, rfl⟩ PySem.F.slot_range_contains (call_meets PySem.F.slot_range_contains ⟨_, ho, rfl⟩ PySem.F.entry_range_contains (PySem.F.args_range_contains_2 _ _) (q_contains a lo hi i t1 t2 t3 k)
    ⟨ho, wpAny_truthy_bool (wpAny_pure ⟨.bl _, H, I, rfl, ?_⟩)⟩))
  rw [place1]
  exact q
end
/-- what a change's key is read from -/
structure KeyAt (h : Heap) (K : PySem.W.Frag) (c : Addr) (tot au nu : Int) : Prop where
  ex : ∃ (dx C t : Addr) (mA : Str → Option Value) (its : List Value) (hs : List Int) (ta tn : Tok), ObjM h c dx C mA ∧ Cls K C ∧ NoAttr K C "author" ∧ NoAttr K C "number" ∧ NoAttr K C "heard" ∧
    mA "author" = some (.int au ta) ∧ mA "number" = some (.int nu tn) ∧ mA "heard" = some (.ref t) ∧ h.IsTuple t its.toArray ∧ IntsAre its hs ∧ hs.sum = tot
theorem KeyAt.keeps {h h' : Heap} {K : PySem.W.Frag} {c : Addr} {tot au nu : Int} (x : KeyAt h K c tot au nu) (k : ∀ b o, h.get? b = some o → h'.get? b = some o) : KeyAt h' K c tot au nu := by
  obtain ⟨dx, C, t, mA, its, hs, ta, tn, O, cl, a, b, d, e1, e2, e3, ⟨o, ho, hr⟩, hi, es⟩ := x.ex
  exact ⟨dx, C, t, mA, its, hs, ta, tn, ⟨k _ _ O.obj, O.ns.at (fun o e => k _ o e), O.ne⟩, cl, a, b, d, e1, e2, e3, ⟨o, k _ _ ho, hr⟩, hi, es⟩
/-- the key function's text -/
structure KeyDef (K : PySem.W.Frag) (st : Stmt) (f : Addr) (fd : FuncData) : Prop where
  fn : Fun K "order_key" "order_key" st f fd
  bd : Binds K fd ["change"] []
  sc : FnScope ["change"] ["change"] (defScope st)
  loc : (defScope st).names.lookup ("change" : Str) = some NameKind.local
  glo : (defScope st).names.lookup ("sum" : Str) = some NameKind.globalImplicit
  body : ∃ (p1 p2 p3 p4 p5 p6 p7 p8 p9 p10 : Pos) (x1 : Nat), defBody st = [.Return (some (.Tuple [.Call (.Name "sum" p1) [.Attribute (.Name "change" p2) "heard" p3] [] p4, .Attribute (.Name "change" p5) "author" p6, .Attribute (.Name "change" p7) "number" p8] x1 p9)) p10]
theorem key_call {prog : Program} {w : World} {A : Around} {E : Value → Shared → Prop} {s : Shared} {K : PySem.W.Frag} {mg : Str → Option Value} {base : Heap} {st : Stmt} {f c : Addr} {fd : FuncData} {tot au nu : Int}
    (F : KeyDef K st f fd) (M : Mod K mg base) (kb : ∀ b o, base.get? b = some o → s.heap.get? b = some o) (hsum : mg "sum" = none) (hr : Room 1 A) (x : KeyAt s.heap K c tot au nu) :
    wpAny (model prog w) A (call (.ref f) [.ref c]) (KeyPure (.tuple [.int tot, .int au, .int nu]) s) E s := by
  obtain ⟨oc, od, kV, doc, pm, an, cdv, ct, osl, rfl, lk, hcd⟩ := F.fn.ex
  have KX : K.In s.heap := M.kin.keeps kb
  obtain ⟨p1, p2, p3, p4, p5, p6, p7, p8, p9, p10, x1, hb⟩ := F.body
  obtain ⟨mb, hmb1, hmb2⟩ := M.blt
  refine wpAny_call (_root_.Att.call_fn (binds := [("change", .ref c)]) KX (M.nolimit.keeps kb) lk hcd hr.depth (F.bd s [.ref c] KX rfl) (by
    show ((_ == _ || _) && true) = true
    rw [F.loc]
    decide) (fun s1 IC => ?_) F.sc.co F.sc.gen F.sc.kind)
  rw [hb]
  obtain ⟨h1, tk1, rfl⟩ := IC.toInCall.same
  have k1 := IC.toInCall.keep
  have hn := IC.toInCall.ns
  have hc : ∀ (h2 : Heap) (tk2 : Nat) (p : Pos) {Q : Value → Shared → Prop} {E : Value → Shared → Prop} {A : Around}, h2.Ns s.heap.objs.size (bindL (envOfC "order_key" (defScope st) s.heap.objs.size f cdv).kindOf [("change", Value.ref c)] fun _ => none) →
      Q (.ref c) { s with heap := h2, toks := tk2 } → wpAny (model prog w) A (eval (.Name "change" p) (envOfC "order_key" (defScope st) s.heap.objs.size f cdv)) Q E { s with heap := h2, toks := tk2 } := fun h2 tk2 p Q E A hn2 q =>
    wpAny_Name (wpAny_loadName_local F.sc.kind F.loc hn2 (bindL_get (P := ["change"]) (vs := [Value.ref c]) (i := 0) (by decide) rfl rfl F.loc) q) (by decide)
  have hsumN : ∀ (h2 : Heap) (tk2 : Nat) (p : Pos) {Q : Value → Shared → Prop} {E : Value → Shared → Prop} {A : Around}, (∀ b o, s.heap.get? b = some o → h2.get? b = some o) →
      Q (.builtin "sum") { s with heap := h2, toks := tk2 } → wpAny (model prog w) A (eval (.Name "sum" p) (envOfC "order_key" (defScope st) s.heap.objs.size f cdv)) Q E { s with heap := h2, toks := tk2 } := fun h2 tk2 p Q E A k2 q =>
    Calls.Name_function_global F.sc.kind F.glo (Calls.loadGlobal_builtin (M.glob.keeps fun b o e => k2 b o (kb b o e)) hsum (hmb1.keeps fun b o e => k2 b o (kb b o e)) ((hmb2 "sum" (by decide)).trans (by decide +kernel)) q) (by decide)
  have hh : (A.deeper (envOfC "order_key" (defScope st) s.heap.objs.size f cdv)).handled = none := hr.hd
  refine wpAny_execs_cons (wpAny_Return_some (wpAny_Tuple_spliced ?_))
  show wpAny _ _ (spliced ((false, eval _ _) :: (false, eval _ _) :: (false, eval _ _) :: [])) _ _ _
  refine Calls.spliced_cons ?_
  -- the sum
  refine wpAny_Call_Name_kw (hsumN h1 tk1 p1 k1 ?_)
  refine PyProof.Rows.callWith_builtin1 ?_ (by rfl) (by rfl)
  show wpAny _ _ (spliced ((false, eval _ _) :: [])) _ _ _
  refine Calls.spliced_cons ?_
  obtain ⟨dx, C, t, mA, its, hs, ta, tn, O, cl, nA, nN, nH, eA, eN, eH, hT, hI, es⟩ := (x.keeps k1).ex
  refine attr_of (by rfl) (hc h1 tk1 p2 hn ?_)
  refine get_map (KX.keeps k1) O (cl.get _) cl.hd nH eH (by rfl) ?_
  refine Calls.spliced_nil ?_
  refine sum_tup_raw hh hT hI fun h2 tk2 t2 k2 => ?_
  refine Calls.spliced_cons ?_
  have k12 : ∀ b o, s.heap.get? b = some o → h2.get? b = some o := fun b o e => k2 b o (k1 b o e)
  have x2 := x.keeps k12
  have hn2 := hn.keeps k2
  -- the author
  obtain ⟨dx2, C2, t2', mA2, its2, hs2, ta2, tn2, O2, cl2, nA2, nN2, nH2, eA2, eN2, eH2, _⟩ := x2.ex
  refine attr_of (by rfl) (hc h2 tk2 p5 hn2 ?_)
  refine get_map (KX.keeps k12) O2 (cl2.get _) cl2.hd nA2 eA2 (by rfl) ?_
  refine Calls.spliced_cons ?_
  -- the number
  refine attr_of (by rfl) (hc h2 (tk2 + 1) p7 hn2 ?_)
  refine get_map (KX.keeps k12) O2 (cl2.get _) cl2.hd nN2 eN2 (by rfl) ?_
  refine Calls.spliced_nil ?_
  subst es
  refine ⟨by show 3 ≤ sizeLine; decide, ?_⟩
  refine ⟨_, _, rfl, fun b o e => Heap.get?_push_of_some _ (k12 b o e), ?_⟩
  exact .tuple (Heap.get?_push_size _ rfl) rfl rfl (.cons (.int _ _) (.cons (.int _ _) (.cons (.int _ _) .nil)))
/-! ### sorted(changes, key=order_key) -/
structure Chg where
  a : Addr
  tot : Int
  au : Int
  nu : Int
def Chg.key (b : Chg) : PyData := .tuple [.int b.tot, .int b.au, .int b.nu]
def sortC (bs : List Chg) : List Chg := bs.mergeSort (PySem.W.dataLe false Chg.key)
def refs (bs : List Chg) : List V := bs.map fun b => V.ref b.a
def ChgAt (K : PySem.W.Frag) (H : Hp) (b : Chg) : Prop := ∃ (C dx t : Addr) (fs : List (Str × V)) (hs : List Int), H b.a = some (.ins C dx fs) ∧ Cls K C ∧ NoAttr K C "author" ∧ NoAttr K C "number" ∧ NoAttr K C "heard" ∧
  fs.lookup ("author" : Str) = some (V.int b.au) ∧ fs.lookup ("number" : Str) = some (V.int b.nu) ∧ fs.lookup ("heard" : Str) = some (V.ref t) ∧ SqT K H t (hs.map V.int) ∧ hs.sum = b.tot
theorem ChgAt.key {X : Cx} {pins : List (Addr × Obj)} {σ : L2.St} {H : Hp} {s : Shared} {b : Chg} (I : Inv X pins σ H s) (h : ChgAt X.K H b) : KeyAt s.heap X.K b.a b.tot b.au b.nu := by
  obtain ⟨C, dx, t, fs, hs, e, cl, nA, nN, nH, eA, eN, eH, hT, es⟩ := h
  obtain ⟨mA, O, r, _, _, _⟩ := ins_get I.hok e
  obtain ⟨u1, hu1, t1, rfl⟩ := RelO.some_of (v := .int b.au) (o := mA "author") (by rw [← eA]; exact r "author")
  obtain ⟨u2, hu2, t2, rfl⟩ := RelO.some_of (v := .int b.nu) (o := mA "number") (by rw [← eN]; exact r "number")
  obtain ⟨u3, hu3, r3⟩ := RelO.some_of (v := .ref t) (o := mA "heard") (by rw [← eH]; exact r "heard")
  obtain rfl : u3 = Value.ref t := r3
  obtain ⟨its, rv, hl, _⟩ := I.tuple hT
  exact ⟨dx, C, t, mA, its, hs, t1, t2, O, cl, nA, nN, nH, hu1, hu2, hu3, hl, rv.ints, es⟩
theorem each_refs : ∀ {bs : List Chg} {vs : List Value}, Vals (refs bs) vs → PySem.W.EachIs (fun v b => v = Value.ref b.a) vs bs
  | [], vs, h => by
    cases (show Vals [] vs from h)
    exact .nil
  | b :: bs, vs, h => by
    cases (show Vals (V.ref b.a :: refs bs) vs from h) with
    | cons r t => exact .cons r (each_refs t)
theorem vals_each : ∀ {bs : List Chg} {vs : List Value}, PySem.W.EachIs (fun v b => v = Value.ref b.a) vs bs → Vals (refs bs) vs
  | _, _, .nil => .nil
  | _, _, .cons h t => .cons h (vals_each t)
theorem sortC_length (bs : List Chg) : (sortC bs).length = bs.length := List.length_mergeSort _
theorem cr_sortedBy {X : Cx} {st : Stmt} {f : Addr} {fd : FuncData} {k : Nat} (F : KeyDef X.K st f fd) (hsum : X.mg "sum" = none) (hr : Room k X.A) (hk : 3 ≤ k) :
    CallRK X (.builtin "sorted") [Str.ofString "key"] (fun vs zs H Q => ∃ (a : Addr) (bs : List Chg), vs = [V.ref a] ∧ zs = [V.ref f] ∧ SqL X.K H a (refs bs) ∧ (∀ b ∈ bs, ChgAt X.K H b) ∧ ∀ p, H p = none → Q (.ref p) (upd H p (.lst (refs (sortC bs))))) := by
  intro pins s σ H vs zs us ws Q I r rz h
  obtain ⟨a, bs, rfl, rfl, hs, hall, q⟩ := h
  obtain rfl := Vals.ref1 r
  obtain rfl := Vals.ref1 rz
  obtain ⟨its, rv, hl, hz⟩ := I.list hs
  have hz2 : bs.length ≤ sizeLine := by
    have e : (refs bs).length = bs.length := List.length_map _
    rw [← e]
    exact hz
  show wpAny _ _ (call (.builtin "sorted") [.ref a] [(Str.ofString "key", Value.ref f)]) _ _ _
  refine PySem.W.sorted_key_data (b := false) Chg.key hl.isList (each_refs rv) (PySem.W.AllAlike.of fun _ _ => by simp [PySem.W.alike, PySem.W.alikeAll, Chg.key]) (PySem.W.Sortable.tuples fun _ => ⟨_, _, rfl⟩) hz2 (fun p _ => ?_) (PyProof.Rows.ksk_s1 _ _) (fun _ => PyProof.Rows.ksk_l1 _ _) (fun _ => PyProof.Rows.ksk_t1 _ _)
    (fun v b hv hb h tk kp => ?_) fun out c h' tk kp fresh hD hlen eo => ?_
  · have hd : (Chg.key p).depth = 1 := by simp [Chg.key, PyData.depth, PyData.depthAll]
    have := hr.un
    omega
  · subst hv
    have hr2 : Room 1 X.A.in1.in1 := ((hr.mono (by omega : 3 ≤ k)).in1).in1
    exact key_call (s := { s with heap := h, toks := tk }) F I.mod (fun b o e => kp b o (I.bk b o e)) hsum hr2 ((hall b hb).key I |>.keeps kp)
  · refine ⟨.ref (s.heap.objs.size + 1), _, I.laid (a := s.heap.objs.size + 1) (o := .lst (refs (sortC bs))) (t' := tk) kp (Nat.le_succ _) ⟨?_, out, c, vals_each eo, hD⟩, rfl, q _ (I.hok.fresh (Nat.le_succ _))⟩
    show (refs (sortC bs)).length ≤ sizeLine
    rw [show (refs (sortC bs)).length = (sortC bs).length from List.length_map _, sortC_length]
    exact hz2
end Kw
set_option Elab.async false
set_option linter.all false
set_option maxRecDepth 100000
set_option maxHeartbeats 4000000
namespace Kw
open PySem PySem.Spec PyProof.Rows L2
/-! ### a list that an expression does not touch is put aside while it is evaluated -/
def hide (D : Addr) (H : Hp) : Hp := fun b => if b = D then none else H b
theorem hide_self {D : Addr} {H : Hp} : hide D H D = none := by unfold hide; rw [if_pos rfl]
theorem hide_ne {D b : Addr} {H : Hp} (h : b ≠ D) : hide D H b = H b := by unfold hide; rw [if_neg h]
theorem hide_some {D b : Addr} {H : Hp} {o : HO} (h : hide D H b = some o) : H b = some o ∧ b ≠ D := by
  by_cases e : b = D
  · rw [e, hide_self] at h
    cases h
  · exact ⟨by rw [hide_ne e] at h; exact h, e⟩
theorem hide_upd {D : Addr} {F : Hp} {o : HO} (h : F D = none) : hide D (upd F D o) = F := by
  funext b
  by_cases e : b = D
  · rw [e, hide_self, h]
  · rw [hide_ne e, upd_ne e]
/-- what stands of the heap without D -/
theorem HOk.hide {P : Program} {w : World} {H : Hp} {h : Heap} {D : Addr} {xs : List V} (ok : HOk P w H h) (hD : H D = some (.lst xs)) : HOk P w (hide D H) h := fun b o e => by
  obtain ⟨e1, _⟩ := hide_some e
  refine (ok b o e1).stay (fun _ _ _ q => q) (fun c q => ?_) fun c ys q => ?_
  · rw [hide_ne (fun z => by rw [z, hD] at q; cases q)]
    exact q
  · rw [hide_ne (fun z => by rw [z, hD] at q; cases q)]
    exact q
theorem Inv.hide {X : Cx} {pins : List (Addr × Obj)} {σ : L2.St} {H : Hp} {s : Shared} {D : Addr} {xs : List V} (I : Inv X pins σ H s) (hD : H D = some (.lst xs)) : Inv X pins σ (hide D H) s := by
  have none_of : ∀ b, H b = none → Kw.hide D H b = none := fun b e => by
    by_cases z : b = D
    · rw [z]
      exact hide_self
    · rw [hide_ne z]
      exact e
  have keep : ∀ b o, H b = some o → (∀ xs, o ≠ .lst xs) → Kw.hide D H b = some o := fun b o e n => by
    rw [hide_ne (fun z => by rw [z, hD] at e; exact n _ (Option.some.inj e).symm)]
    exact e
  refine ⟨I.ok, I.os, I.bare, ⟨I.base.keep, I.base.slot, fun b o e n hx => none_of b (I.base.free b o e n hx), I.base.there, fun b ys q => keep b _ (I.base.tups b ys q) (fun _ z => nomatch z), fun b o u q => keep b _ (I.base.frzs b o u q) (fun _ z => nomatch z), fun b ps q => ?_⟩, I.loc, I.cell, none_of _ I.free, fun x c e => none_of c (I.freeC x c e),
    fun p hp => ?_, Kw.HOk.hide I.hok hD, I.len⟩
  · obtain ⟨m, e⟩ := I.base.tbls b ps q
    exact ⟨m, keep b _ e (fun _ z => nomatch z)⟩
  · obtain ⟨a, b, c⟩ := I.pin p hp
    exact ⟨a, none_of _ b, c⟩
/-- the frame rule -/
def tFr (t : TE) : TE := fun σ H Q => ∃ D xs, H D = some (.lst xs) ∧ t σ (hide D H) fun v H2 => H2 D = none → Q v (upd H2 D (.lst xs))
theorem pe_fr {X : Cx} {e : Expr} {t : TE} (h : PE X e t) : PE X e (tFr t) := by
  refine ⟨fun pins s σ H Q I q => ?_⟩
  obtain ⟨D, xs, hD, q⟩ := q
  obtain ⟨hz, its, n, rv, hobj⟩ := (show ObjOk X.prog X.w H s.heap D (.lst xs) from I.hok D _ hD)
  have nloc : D ≠ X.env.locals := fun z => by
    have f := I.free
    rw [← z, hD] at f
    cases f
  have nfs : D ∉ X.fs := fun hb => by
    obtain ⟨_, o, ho, _⟩ := I.ok.funs.mem hb
    have := I.base.free D o ho (I.ok.frf D hb) (fun z => I.ok.exfs D z hb)
    rw [hD] at this
    cases this
  have J : Inv X (pins ++ [(D, { cls := .type "list", data := .seq its.toArray n })]) σ (hide D H) s := by
    refine (Inv.hide I hD).pins_of fun p hp => ?_
    rcases List.mem_append.mp hp with hp | hp
    · obtain ⟨a, b, c⟩ := (Inv.hide I hD).pin p (List.mem_append_right _ hp)
      exact ⟨a, b, c⟩
    · rw [List.mem_singleton.mp hp]
      exact ⟨hobj, hide_self, nloc, nfs, fun v z => by cases z⟩
  refine thn (h.run _ s σ (hide D H) _ J q) fun v s1 hh => ?_
  obtain ⟨x, H2, I2, rx, q2⟩ := hh
  obtain ⟨hget, hn, _⟩ := I2.pin (D, { cls := .type "list", data := .seq its.toArray n }) (List.mem_append_right _ (List.mem_append_right _ (List.mem_singleton.mpr rfl)))
  refine ⟨x, upd H2 D (.lst xs), ?_, rx, q2 hn⟩
  have hn' : H2 D = none := hn
  have nD : ∀ b o, H2 b = some o → b ≠ D := fun b o e z => by rw [z, hn'] at e; cases e
  have ND : ∀ b, H b = none → b ≠ D := fun b e z => by rw [z, hD] at e; cases e
  refine ⟨I2.ok, I2.os, I2.bare, ⟨I2.base.keep, I2.base.slot, fun b o e n hx => ?_, I2.base.there, fun b ys q => ?_, fun b o u q => ?_, fun b ps q => ?_⟩, I2.loc, I2.cell, ?_, fun x c e => ?_, fun p hp => ?_, fun b o e => ?_, I2.len⟩
  · rw [upd_ne (ND b (I.base.free b o e n hx))]
    exact I2.base.free b o e n hx
  · have := I2.base.tups b ys q
    rw [upd_ne (nD b _ this)]
    exact this
  · have := I2.base.frzs b o u q
    rw [upd_ne (nD b _ this)]
    exact this
  · obtain ⟨m, this⟩ := I2.base.tbls b ps q
    refine ⟨m, ?_⟩
    rw [upd_ne (nD b _ this)]
    exact this
  · rw [upd_ne (ND _ I.free)]
    exact I2.free
  · rw [upd_ne (ND _ (I.freeC x c e))]
    exact I2.freeC x c e
  · obtain ⟨a, b, c⟩ := I2.pin p (by
      rcases List.mem_append.mp hp with z | z
      · exact List.mem_append_left _ z
      · exact List.mem_append_right _ (List.mem_append_left _ z))
    refine ⟨a, ?_, c⟩
    rw [upd_ne (ND _ (I.pin p hp).2.1)]
    exact b
  · by_cases z : b = D
    · subst z
      rw [upd, if_pos rfl] at e
      cases e
      exact ⟨hz, its, n, rv, hget⟩
    · rw [upd_ne z] at e
      refine (I2.hok b o e).stay (fun _ _ _ q => q) (fun c q => ?_) fun c ys q => ?_
      · rw [upd_ne (nD c _ q)]
        exact q
      · rw [upd_ne (nD c _ q)]
        exact q
end Kw
set_option Elab.async false
set_option linter.all false
set_option maxRecDepth 100000
set_option maxHeartbeats 4000000
namespace Kw
open PySem PySem.Spec PyProof.Rows L2
/-! ### what is put aside -/
theorem Same.hid {H H' : Hp} (D : Addr) (s : Same H H') : Same (hide D H) (hide D H') := fun b o e => by
  obtain ⟨e1, n⟩ := hide_some e
  rw [hide_ne n]
  exact s b o e1
theorem Same.unhid {D : Addr} {H : Hp} : Same (hide D H) H := fun b o e => (hide_some e).1
theorem hide_upd_self {D : Addr} {F : Hp} {o : HO} : hide D (upd F D o) = hide D F := by
  funext b
  by_cases e : b = D
  · rw [e, hide_self, hide_self]
  · rw [hide_ne e, hide_ne e, upd_ne e]
theorem hide_upd_ne {D p : Addr} {F : Hp} {o : HO} (h : p ≠ D) : hide D (upd F p o) = upd (hide D F) p o := by
  funext b
  by_cases e : b = D
  · rw [e, hide_self, upd_ne (fun z => h z.symm), hide_self]
  · rw [hide_ne e]
    by_cases z : b = p
    · rw [z, upd_same, upd_same]
    · rw [upd_ne z, upd_ne z, hide_ne e]
theorem hide_free {D : Addr} {H : Hp} {b : Addr} (h : H b = none) : hide D H b = none := by
  by_cases e : b = D
  · rw [e, hide_self]
  · rw [hide_ne e, h]
theorem hide_comm {D E : Addr} {H : Hp} : hide D (hide E H) = hide E (hide D H) := by
  funext b
  by_cases e : b = D
  · rw [e, hide_self]
    exact (hide_free hide_self).symm
  · rw [hide_ne e]
    by_cases z : b = E
    · rw [z, hide_self, hide_self]
    · rw [hide_ne z, hide_ne z, hide_ne e]
theorem Same.new {H : Hp} {l : Addr} {o : HO} (hl : H l = none) : Same H (upd H l o) := same_new hl (Same.refl H)
/-! ### lists of data -/
theorem AtL.nil {H : Hp} : AtL H [] [] := rfl
theorem AtL.cons {H : Hp} {d : D} {ds : List D} {x : V} {xs : List V} (h : At H d x) (t : AtL H ds xs) : AtL H (d :: ds) (x :: xs) := ⟨x, xs, rfl, h, t⟩
theorem AtL.append {H : Hp} : ∀ {ds es : List D} {xs ys : List V}, AtL H ds xs → AtL H es ys → AtL H (ds ++ es) (xs ++ ys)
  | [], _, xs, _, h, g => by
    rw [show xs = [] from h]
    exact g
  | d :: ds, _, xs, _, h, g => by
    obtain ⟨x, ys, rfl, h1, h2⟩ := h
    exact ⟨x, _, rfl, h1, AtL.append h2 g⟩
theorem AtL.one {H : Hp} {d : D} {x : V} (h : At H d x) : AtL H [d] [x] := AtL.cons h AtL.nil
theorem AtL.take {H : Hp} : ∀ (n : Nat) {ds : List D} {xs : List V}, AtL H ds xs → AtL H (ds.take n) (xs.take n)
  | 0, ds, xs, h => by
    rw [List.take_zero, List.take_zero]
    exact AtL.nil
  | n + 1, [], xs, h => by
    rw [show xs = [] from h]
    exact AtL.nil
  | n + 1, d :: ds, xs, h => by
    obtain ⟨x, ys, rfl, h1, h2⟩ := h
    exact ⟨x, _, rfl, h1, AtL.take n h2⟩
theorem AtL.drop {H : Hp} : ∀ (n : Nat) {ds : List D} {xs : List V}, AtL H ds xs → AtL H (ds.drop n) (xs.drop n)
  | 0, ds, xs, h => h
  | n + 1, [], xs, h => by
    rw [show xs = [] from h]
    exact AtL.nil
  | n + 1, d :: ds, xs, h => by
    obtain ⟨x, ys, rfl, h1, h2⟩ := h
    exact AtL.drop n h2
def cutD (ds : List D) (lo hi : Option Int) : List D := List.take (HT.sIx ds.length ds.length hi - HT.sIx ds.length 0 lo) (List.drop (HT.sIx ds.length 0 lo) ds)
theorem AtL.cut {H : Hp} {ds : List D} {xs : List V} (h : AtL H ds xs) (lo hi : Option Int) : AtL H (cutD ds lo hi) (cutV xs lo hi) := by
  show AtL H (List.take _ (List.drop _ ds)) (List.take _ (List.drop _ xs))
  rw [h.length]
  exact (h.drop _).take _
theorem cutD_mem {ds : List D} {lo hi : Option Int} {d : D} (h : d ∈ cutD ds lo hi) : d ∈ ds := List.mem_of_mem_drop (List.mem_of_mem_take h)
theorem cutD_len {ds : List D} {lo hi : Option Int} : (cutD ds lo hi).length ≤ ds.length := by
  show (List.take _ (List.drop _ ds)).length ≤ _
  rw [List.length_take, List.length_drop]
  omega
theorem AtL.of {H : Hp} : ∀ {ds : List D} {xs : List V}, xs.length = ds.length → (∀ (i : Nat) d v, ds[i]? = some d → xs[i]? = some v → At H d v) → AtL H ds xs
  | [], [], _, _ => AtL.nil
  | d :: ds, x :: xs, e, h => ⟨x, xs, rfl, h 0 d x rfl rfl, AtL.of (by simpa using e) fun i d v h1 h2 => h (i + 1) d v (by simpa using h1) (by simpa using h2)⟩
theorem AtL.at {H : Hp} {ds : List D} {xs : List V} {i : Nat} {v : V} (h : AtL H ds xs) (e : xs[i]? = some v) : ∃ d, ds[i]? = some d ∧ At H d v := by
  obtain ⟨d, hd⟩ := some_at (l := ds) (i := i) (by rw [← h.length]; exact (List.getElem?_eq_some_iff.mp e).1)
  obtain ⟨x, hx, ha⟩ := h.get hd
  rw [hx] at e
  cases e
  exact ⟨d, hd, ha⟩
theorem AtL.ints {H : Hp} : ∀ {ns : List Int} {xs : List V}, AtL H (ns.map D.int) xs → xs = ns.map V.int
  | [], xs, h => h
  | n :: ns, xs, h => by
    obtain ⟨x, ys, rfl, h1, h2⟩ := h
    rw [show x = V.int n from h1, AtL.ints h2]
    rfl
theorem AtL.ofInts {H : Hp} : ∀ {ns : List Int}, AtL H (ns.map D.int) (ns.map V.int)
  | [] => AtL.nil
  | n :: ns => ⟨_, _, rfl, rfl, AtL.ofInts⟩
theorem depL_le {n : Nat} : ∀ {ds : List D}, (∀ d ∈ ds, d.dep ≤ n) → depL ds ≤ n
  | [], _ => Nat.zero_le _
  | d :: ds, h => by
    show max d.dep (depL ds) ≤ n
    exact Nat.max_le.mpr ⟨h d (List.mem_cons_self ..), depL_le fun e he => h e (List.mem_cons_of_mem _ he)⟩
theorem dep_mem {ds : List D} {d : D} (h : d ∈ ds) : d.dep ≤ depL ds := by
  obtain ⟨i, hi⟩ := List.getElem?_of_mem h
  exact dep_get hi
theorem depL_ints : ∀ (ns : List Int), depL (ns.map D.int) = 0
  | [] => rfl
  | n :: ns => by
    show max 0 (depL (ns.map D.int)) = 0
    rw [depL_ints ns]
    rfl
/-- values that are ints -/
theorem ints_of {P : Int → Prop} : ∀ {zs : List V}, (∀ (i : Nat) v, zs[i]? = some v → ∃ z, v = V.int z ∧ P z) → ∃ hs : List Int, zs = hs.map V.int ∧ hs.length = zs.length ∧ ∀ z ∈ hs, P z
  | [], _ => ⟨[], rfl, rfl, fun z h => by cases h⟩
  | v :: vs, h => by
    obtain ⟨z, rfl, hz⟩ := h 0 v rfl
    obtain ⟨hs, e, el, hp⟩ := ints_of (zs := vs) fun i v hv => h (i + 1) v (by simpa using hv)
    exact ⟨z :: hs, by rw [e]; rfl, by simp [el], fun y hy => by
      rcases List.mem_cons.mp hy with q | q
      · rw [q]; exact hz
      · exact hp y q⟩
/-! ### rules that read data; the addresses of S are put aside -/
def hidS (S : List Addr) (H : Hp) : Hp := S.foldr hide H
theorem Same.hidS {H H' : Hp} : ∀ (S : List Addr), Same H H' → Same (hidS S H) (hidS S H')
  | [], s => s
  | x :: S, s => Same.hid x (Same.hidS S s)
theorem hidS_some : ∀ {S : List Addr} {H : Hp} {b : Addr} {o : HO}, hidS S H b = some o → H b = some o ∧ b ∉ S
  | [], H, b, o, h => ⟨h, by simp⟩
  | x :: S, H, b, o, h => by
    obtain ⟨h1, n⟩ := hide_some (show hide x (hidS S H) b = some o from h)
    obtain ⟨h2, n2⟩ := hidS_some h1
    exact ⟨h2, by simp [n, n2]⟩
theorem hidS_upd {p : Addr} {o : HO} : ∀ {S : List Addr} {H : Hp}, p ∉ S → hidS S (upd H p o) = upd (hidS S H) p o
  | [], _, _ => rfl
  | x :: S, H, h => by
    show hide x (hidS S (upd H p o)) = upd (hide x (hidS S H)) p o
    rw [hidS_upd (fun z => h (List.mem_cons_of_mem _ z)), hide_upd_ne (fun z => h (by rw [z]; exact List.mem_cons_self ..))]
theorem not_in_S {S : List Addr} {H : Hp} {p : Addr} (hS : ∀ x ∈ S, H x ≠ none) (hp : H p = none) : p ∉ S := fun z => hS p z hp
theorem At.out {S : List Addr} {H : Hp} {d : D} {v : V} (h : At (hidS S H) d v) : At H d v := At.same (fun _ _ e => (hidS_some e).1) d v h
section
variable {X : Cx}
theorem call_tuD : CallR X (.type "tuple") (fun vs H Q => ∃ (S : List Addr) (l : Bool) (ds : List D) (v : V), vs = [v] ∧ (∀ x ∈ S, H x ≠ none) ∧ At (hidS S H) (.seq l ds) v ∧ ∀ H' v', Same H H' → At (hidS S H') (.seq false ds) v' → Q v' H') :=
  CallR.imp call_tuple_of fun vs H Q h => by
    obtain ⟨S, l, ds, v, rfl, hS, ⟨a, xs, rfl, ha, hx, hz⟩, q⟩ := h
    refine ⟨a, xs, rfl, ?_⟩
    cases l with
    | true =>
      refine .inl ⟨SqL.of (hidS_some ha).1, fun p hp => q _ _ (Same.new hp) ⟨p, xs, rfl, ?_, AtL.same (Same.hidS S (Same.new hp)) _ _ hx, hz⟩⟩
      rw [hidS_upd (not_in_S hS hp)]
      exact upd_same
    | false => exact .inr ⟨SqT.of (hidS_some ha).1, q _ _ (Same.refl _) ⟨a, xs, rfl, ha, hx, hz⟩⟩
theorem call_liD : CallR X (.type "list") (fun vs H Q => ∃ (l : Bool) (a : Addr) (xs : List V), vs = [.ref a] ∧ H a = some (seqO l xs) ∧ ∀ p, H p = none → Q (.ref p) (upd H p (.lst xs))) :=
  CallR.imp call_list_of fun vs H Q h => by
    obtain ⟨l, a, xs, rfl, ha, q⟩ := h
    refine ⟨a, xs, rfl, ?_, q⟩
    cases l with
    | true => exact .inl (SqL.of ha)
    | false => exact .inr (SqT.of ha)
theorem call_lenD : CallR X (.builtin "len") (fun vs H Q => ∃ (S : List Addr) (l : Bool) (ds : List D) (v : V), vs = [v] ∧ At (hidS S H) (.seq l ds) v ∧ Q (.int ds.length) H) :=
  CallR.imp call_lenS fun vs H Q h => by
    obtain ⟨S, l, ds, v, rfl, ⟨a, xs, rfl, ha, hx, hz⟩, q⟩ := h
    rw [← hx.length] at q
    exact ⟨a, xs, rfl, sq_of (hidS_some ha).1, q⟩
theorem ix_D : IxR X (fun x y H Q => ∃ (S : List Addr) (l : Bool) (ds : List D) (i : Int), y = .int i ∧ At (hidS S H) (.seq l ds) x ∧ 0 ≤ i ∧ i < ds.length ∧ ∀ d u, ds[i.toNat]? = some d → At (hidS S H) d u → Q u H) :=
  IxR.imp ix_sq fun x y H Q h => by
    obtain ⟨S, l, ds, i, rfl, ⟨a, xs, rfl, ha, hx, hz⟩, h0, h1, q⟩ := h
    have e := hx.length
    obtain ⟨d, hd⟩ := some_at0 (l := ds) (i := i.toNat) (by omega)
    obtain ⟨u, hu, hA⟩ := hx.get hd
    exact ⟨a, xs, i, u, rfl, rfl, sq_of (hidS_some ha).1, atI_pos h0 hu, q d u hd hA⟩
theorem cr_sumD (hc : X.calm = true) : CallR X (.builtin "sum") (fun vs H Q => ∃ (S : List Addr) (l : Bool) (ns : List Int) (v : V), vs = [v] ∧ At (hidS S H) (.seq l (ns.map D.int)) v ∧ Q (.int ns.sum) H) := by
  intro pins s σ H vs us Q I r h
  obtain ⟨S, l, ns, v, rfl, ⟨a, xs, rfl, ha, hx, hz⟩, q⟩ := h
  have e := AtL.ints hx
  subst e
  cases l with
  | true => exact cr_sum hc pins s σ H _ us Q I r ⟨a, ns, rfl, SqL.of (hidS_some ha).1, q⟩
  | false => exact cr_sumT hc pins s σ H _ us Q I r ⟨a, ns, rfl, SqT.of (hidS_some ha).1, q⟩
end
/-! ### sequences whose items alone avoid S -/
theorem hidS_eq : ∀ (S : List Addr) (H : Hp) (b : Addr), hidS S H b = if b ∈ S then none else H b
  | [], H, b => by simp [hidS]
  | x :: S, H, b => by
    show hide x (hidS S H) b = _
    by_cases e : b = x
    · rw [e, hide_self, if_pos (List.mem_cons_self ..)]
    · rw [hide_ne e, hidS_eq S H b]
      by_cases c : b ∈ S
      · rw [if_pos c, if_pos (List.mem_cons_of_mem _ c)]
      · rw [if_neg c, if_neg (by simp [e, c])]
theorem hidS_upd_in {S : List Addr} {H : Hp} {x : Addr} {o : HO} (h : x ∈ S) : hidS S (upd H x o) = hidS S H := by
  funext b
  rw [hidS_eq, hidS_eq]
  by_cases c : b ∈ S
  · rw [if_pos c, if_pos c]
  · rw [if_neg c, if_neg c, upd_ne (fun z => c (by rw [z]; exact h))]
theorem hidS_swap {S : List Addr} {H : Hp} {x : Addr} : hidS (x :: S) H = hidS S (hide x H) := by
  funext b
  rw [hidS_eq, hidS_eq]
  by_cases c : b ∈ S
  · rw [if_pos c, if_pos (List.mem_cons_of_mem _ c)]
  · rw [if_neg c]
    by_cases e : b = x
    · rw [if_pos (by rw [e]; exact List.mem_cons_self ..), e, hide_self]
    · rw [if_neg (by simp [e, c]), hide_ne e]
theorem Same.hidIn {S : List Addr} {H H' : Hp} (s : Same H H') (f : ∀ x ∈ S, H x = none) : Same H (Kw.hidS S H') := fun b o e => by
  rw [hidS_eq, if_neg (fun z => by rw [f b z] at e; cases e)]
  exact s b o e
def AtTop (S : List Addr) (H : Hp) (l : Bool) (ds : List D) (v : V) : Prop := ∃ (a : Addr) (xs : List V), v = .ref a ∧ H a = some (seqO l xs) ∧ AtL (hidS S H) ds xs ∧ ds.length ≤ 16000000
theorem At.top {S : List Addr} {H : Hp} {l : Bool} {ds : List D} {v : V} (h : At (hidS S H) (.seq l ds) v) : AtTop S H l ds v := by
  obtain ⟨a, xs, rfl, ha, hx, hz⟩ := h
  exact ⟨a, xs, rfl, (hidS_some ha).1, hx, hz⟩
theorem call_tuT {X : Cx} : CallR X (.type "tuple") (fun vs H Q => ∃ (S : List Addr) (l : Bool) (ds : List D) (v : V), vs = [v] ∧ (∀ x ∈ S, H x ≠ none ∧ ∀ xs, H x ≠ some (.tup xs)) ∧ AtTop S H l ds v ∧ ∀ H' v', Same H H' → At (hidS S H') (.seq false ds) v' → Q v' H') :=
  CallR.imp call_tuple_of fun vs H Q h => by
    obtain ⟨S, l, ds, v, rfl, hS, ⟨a, xs, rfl, ha, hx, hz⟩, q⟩ := h
    refine ⟨a, xs, rfl, ?_⟩
    cases l with
    | true =>
      refine .inl ⟨SqL.of ha, fun p hp => q _ _ (Same.new hp) ⟨p, xs, rfl, ?_, AtL.same (Same.hidS S (Same.new hp)) _ _ hx, hz⟩⟩
      rw [hidS_upd (not_in_S (fun x hx => (hS x hx).1) hp)]
      exact upd_same
    | false =>
      refine .inr ⟨SqT.of ha, q _ _ (Same.refl _) ⟨a, xs, rfl, ?_, hx, hz⟩⟩
      rw [hidS_eq, if_neg (fun z => (hS a z).2 xs ha)]
      exact ha
/-- the items: None, or a sequence -/
def AtTop2 (S : List Addr) (H : Hp) (ps : List D) (xs : List V) : Prop := xs.length = ps.length ∧ ∀ (i : Nat) d x, ps[i]? = some d → xs[i]? = some x → (d = .non ∧ x = .non) ∨ ∃ l ds, d = .seq l ds ∧ AtTop S H l ds x
/-! ### comprehensions -/
/-- each element's value is known by what it stands for; the list that is made is put aside meanwhile -/
theorem lc_rel {J : It} {n : Nat} {G : Hp → Prop} {Y : Nat → Hp → V → Hp → Prop} (w : L2.Walk J n G Y) {j : Nat} {te : TE} {σ : L2.St} {H1 : Hp} {D : Addr} {Qd : Hp → Prop} (hD : H1 D = none) (hn : n ≤ 16000000) (R : Nat → Hp → V → Prop)
    (hR : ∀ i F F' v, Same F F' → R i F v → R i F' v)
    (hG : ∀ H, Same H1 H → G H)
    (hs : ∀ i x F zs H', i < n → Same H1 F → F D = none → Y i (upd F D (.lst zs)) x H' → H' = upd F D (.lst zs) ∧ ∀ Q : VK, (∀ F2 v, Same F F2 → R i F2 v → Q v F2) → te ((σ.set j none).set j (some x)) F Q)
    (hd : ∀ F zs, Same H1 F → F D = none → zs.length = n → (∀ i v, zs[i]? = some v → R i F v) → Qd (upd F D (.lst zs))) :
    ∃ W : Nat → Nat → Hp → Prop, (∃ m, W 0 m (upd H1 D (.lst []))) ∧ ∀ i m H, W i m H →
      (J.stop i H ∧ Qd H) ∨ (J.go i H ∧ ∃ Nx : Hp → Prop, (∀ H', Nx H' → ∃ m', m' < m ∧ W (i + 1) m' H') ∧ ∀ x H', J.yld i H x H' → gName j x (wipe σ [j]) H' fun σ2 H2 => wipe σ2 [j] = wipe σ [j] ∧ tYes σ2 H2 fun b H3 =>
        if b = true then tFr te σ2 H3 fun y H4 => ∃ acc, H4 D = some (.lst acc) ∧ acc.length < sizeLine ∧ Nx (upd H4 D (.lst (acc ++ [y]))) else Nx H3) := by
  have hn2 : n < sizeLine := by
    rw [sizeLine_eq]
    omega
  refine lc_it w (fun i H => ∃ F zs, H = upd F D (.lst zs) ∧ Same H1 F ∧ F D = none ∧ zs.length = i ∧ ∀ j v, zs[j]? = some v → R j F v) ⟨H1, [], rfl, Same.refl _, hD, rfl, fun j v h => by simp at h⟩ (fun i H _ h => ?_) ?_ (fun H h => ?_)
  · obtain ⟨F, zs, rfl, s, hF, _⟩ := h
    exact hG _ (s.trans (Same.new hF))
  · rintro i x H H' hi ⟨F, zs, rfl, s, hF, hz, hr⟩ y
    obtain ⟨rfl, q⟩ := hs i x F zs H' hi s hF y
    refine ⟨by show (((σ.set j none).set j (some x)).set j none) = σ.set j none; rw [List.set_set, List.set_set], ?_⟩
    refine iteT (B := ∃ F2 zs2, upd F D (.lst zs) = upd F2 D (.lst zs2) ∧ Same H1 F2 ∧ F2 D = none ∧ zs2.length = i + 1 ∧ ∀ j v, zs2[j]? = some v → R j F2 v) ?_
    refine ⟨D, zs, upd_same, ?_⟩
    rw [hide_upd hF]
    refine q _ fun F2 v s2 rv hF2 => ⟨zs, upd_same, by omega, F2, zs ++ [v], upd_upd, s.trans s2, hF2, by rw [List.length_append, hz]; rfl, fun k u hu => ?_⟩
    by_cases c : k < zs.length
    · rw [List.getElem?_append_left c] at hu
      exact hR _ _ _ _ s2 (hr k u hu)
    · have : k = zs.length := by
        have := (List.getElem?_eq_some_iff.mp hu).1
        rw [List.length_append, List.length_singleton] at this
        omega
      rw [this, List.getElem?_append_right (Nat.le_refl _), Nat.sub_self] at hu
      have e : v = u := by simpa using hu
      rw [this, hz, ← e]
      exact rv
  · obtain ⟨F, zs, rfl, s, hF, hz, hr⟩ := h
    exact hd F zs s hF hz hr
/-- some of the items, by a test that is told -/
theorem lc_filt {J : It} {n : Nat} {G : Hp → Prop} {Y : Nat → Hp → V → Hp → Prop} (w : L2.Walk J n G Y) {j : Nat} {tt : TT} {te : TE} {σ : L2.St} {H1 : Hp} {D : Addr} {Qd : Hp → Prop} (hD : H1 D = none) (hn : n ≤ 16000000) (p : Nat → Bool) (f : Nat → V)
    (hG : ∀ H, Same H1 H → G H)
    (hs : ∀ i x H H', i < n → Same H1 H → Y i H x H' → Same H H' ∧ ∀ Q : Bool → Hp → Prop, (∀ H2, Same H' H2 → Q (p i) H2) → tt ((σ.set j none).set j (some x)) H' fun b H2 => Q b H2)
    (he : ∀ i x H H' H2, i < n → Same H1 H → Y i H x H' → Same H1 H2 → ∀ Q : VK, Q (f i) H2 → te ((σ.set j none).set j (some x)) H2 Q)
    (hd : ∀ H, Same H1 H → H D = some (.lst (((List.range n).filter p).map f)) → Qd H) :
    ∃ W : Nat → Nat → Hp → Prop, (∃ m, W 0 m (upd H1 D (.lst []))) ∧ ∀ i m H, W i m H →
      (J.stop i H ∧ Qd H) ∨ (J.go i H ∧ ∃ Nx : Hp → Prop, (∀ H', Nx H' → ∃ m', m' < m ∧ W (i + 1) m' H') ∧ ∀ x H', J.yld i H x H' → gName j x (wipe σ [j]) H' fun σ2 H2 => wipe σ2 [j] = wipe σ [j] ∧ tt σ2 H2 fun b H3 =>
        if b = true then te σ2 H3 fun y H4 => ∃ acc, H4 D = some (.lst acc) ∧ acc.length < sizeLine ∧ Nx (upd H4 D (.lst (acc ++ [y]))) else Nx H3) := by
  have hn2 : n < sizeLine := by
    rw [sizeLine_eq]
    omega
  refine lc_it w (fun i H => Same H1 H ∧ H D = some (.lst (((List.range i).filter p).map f))) ⟨same_new hD (Same.refl _), upd_same⟩ (fun i H _ h => hG H h.1) ?_ (fun H h => hd H h.1 h.2)
  rintro i x H H' hi ⟨s1, hd1⟩ y
  obtain ⟨s2, q⟩ := hs i x H H' hi s1 y
  refine ⟨by show (((σ.set j none).set j (some x)).set j none) = σ.set j none; rw [List.set_set, List.set_set], ?_⟩
  refine q _ fun H2 s3 => ?_
  have sA := s1.trans (s2.trans s3)
  cases hp : p i with
  | true =>
    rw [if_pos rfl]
    refine he i x H H' H2 hi s1 y sA _ ⟨_, s3 _ _ (s2 _ _ hd1), ?_, same_upd hD sA, ?_⟩
    · have := List.length_filter_le p (List.range i)
      rw [List.length_map]
      rw [List.length_range] at this
      omega
    · rw [upd_same, List.range_succ, List.filter_append, List.filter_cons, if_pos hp, List.filter_nil, List.map_append]
      rfl
  | false =>
    rw [if_neg (by decide)]
    refine ⟨sA, ?_⟩
    rw [s3 _ _ (s2 _ _ hd1), List.range_succ, List.filter_append, List.filter_cons, if_neg (by rw [hp]; decide), List.filter_nil, List.append_nil]
/-! ### rules within a comprehension -/
section
variable {X : Cx} {K : PySem.W.Frag}
theorem call_tuple_ofK (h : X.K = K) : CallR X (.type "tuple") (fun xs H Q => ∃ p ys, xs = [V.ref p] ∧ ((SqL K H p ys ∧ ∀ l, H l = none → Q (V.ref l) (upd H l (HO.tup ys))) ∨ SqT K H p ys ∧ Q (V.ref p) H)) := by
  subst h
  exact call_tuple_of
theorem ix_listAK (h : X.K = K) : IxR X (fun x y H Q => ∃ p xs i, x = .ref p ∧ y = .int i ∧ SqL K H p xs ∧ 0 ≤ i ∧ i < xs.length ∧ ∀ v, xs[i.toNat]? = some v → Q v H) := by
  subst h
  exact ix_listA
theorem op_eqDK (h : X.K = K) (hu : X.A.units + 64 < cLine) : OpR X (compareOp .Eq) (rEqD K) := by
  subst h
  exact op_eqD hu
end
/-! ### for x in xs, xs a list or a tuple -/
def iSqV (K : PySem.W.Frag) (i : Nat) : TI := fun σ H R => ∃ a J, σ[i]? = some (some (.ref a)) ∧ ((J = Itl K a ∧ ∃ xs, SqL K H a xs) ∨ (J = Itt K a ∧ ∃ xs, SqT K H a xs)) ∧ R J H
theorem pi_sqv {X : Cx} {tg : Expr} (i : Nat) {x : Str} {pos : Pos} (hN : X.N[i]? = some x := by rfl) (hv : Vis X.env.scope x := by first | exact Or.inl rfl | exact Or.inr (Or.inl rfl) | exact Or.inr (Or.inr rfl)) (h1 : (x == Str.ofString "__debug__") = false := by decide) (h2 : (x == Str.ofString "__classdict__") = false := by decide) :
    PI X tg (.Name x pos) (iSqV X.K i) := by
  refine ⟨fun pins s σ H R I q => ?_⟩
  obtain ⟨a, J, e, h, q⟩ := q
  rcases h with ⟨rfl, hs⟩ | ⟨rfl, hs⟩
  · exact (pi_list (pv i hN hv h1 h2)).run pins s σ H R I ⟨_, e, a, rfl, hs, q⟩
  · exact (pi_tup (pv i hN hv h1 h2)).run pins s σ H R I ⟨_, e, a, rfl, hs, q⟩
theorem sq_walk (K : PySem.W.Frag) {H : Hp} {a : Addr} {l : Bool} {xs : List V} (h : H a = some (seqO l xs)) :
    ∃ J, ((J = Itl K a ∧ ∃ xs, SqL K H a xs) ∨ (J = Itt K a ∧ ∃ xs, SqT K H a xs)) ∧ L2.Walk J xs.length (fun H' => H' a = some (seqO l xs)) (YAt xs) := by
  cases l with
  | true =>
    have w := walk_list (K := K) (a := a) (xs := xs)
    exact ⟨_, .inl ⟨rfl, xs, SqL.of h⟩, ⟨fun i H g z => w.goes i H g (SqL.of z), fun H z => w.stops H (SqL.of z), fun i H x H' g z => w.yields i H x H' g (SqL.of z)⟩⟩
  | false =>
    have w := walk_tup (K := K) (a := a) (xs := xs)
    exact ⟨_, .inr ⟨rfl, xs, SqT.of h⟩, ⟨fun i H g z => w.goes i H g (SqT.of z), fun H z => w.stops H (SqT.of z), fun i H x H' g z => w.yields i H x H' g (SqT.of z)⟩⟩
end Kw
set_option Elab.async false
set_option linter.all false
set_option maxRecDepth 100000
set_option maxHeartbeats 2000000
namespace Kw
open PySem PySem.Spec PyProof.Rows L2
def top (i : Nat) : Stmt := PySem.Challenge.pw_kithwhole_k02_order_of_changes.main.body.getD i (.Pass ⟨0, 0, 0, 0⟩)
abbrev s_in_past : Stmt := top 2
abbrev N_in_past : List Str := ["name", "change", "author", "number"]
theorem sc_in_past : FnScope N_in_past ["name", "change"] (defScope s_in_past) := ⟨rfl, rfl, rfl, by decide +kernel, rfl, by decide +kernel, by decide +kernel⟩
abbrev s_order_key : Stmt := top 3
abbrev N_order_key : List Str := ["change"]
theorem sc_order_key : FnScope N_order_key ["change"] (defScope s_order_key) := ⟨rfl, rfl, rfl, by decide +kernel, rfl, by decide +kernel, by decide +kernel⟩
abbrev s_in_order : Stmt := top 4
abbrev N_in_order : List Str := ["changes"]
theorem sc_in_order : FnScope N_in_order ["changes"] (defScope s_in_order) := ⟨rfl, rfl, rfl, by decide +kernel, rfl, by decide +kernel, by decide +kernel⟩
abbrev s_law_mix : Stmt := top 6
abbrev N_law_mix : List Str := ["cell", "k", "value"]
theorem sc_law_mix : FnScope N_law_mix ["cell", "k"] (defScope s_law_mix) := ⟨rfl, rfl, rfl, by decide +kernel, rfl, by decide +kernel, by decide +kernel⟩
abbrev s_law_draws : Stmt := top 7
abbrev N_law_draws : List Str := ["script", "draws", "k", "cell", "place"]
theorem sc_law_draws : FnScope N_law_draws ["script"] (defScope s_law_draws) := ⟨rfl, rfl, rfl, by decide +kernel, rfl, by decide +kernel, by decide +kernel⟩
abbrev s_law_at : Stmt := top 8
abbrev N_law_at : List Str := ["draws", "index"]
theorem sc_law_at : FnScope N_law_at ["draws", "index"] (defScope s_law_at) := ⟨rfl, rfl, rfl, by decide +kernel, rfl, by decide +kernel, by decide +kernel⟩
abbrev s_law_is_integer : Stmt := top 9
abbrev N_law_is_integer : List Str := ["actual"]
theorem sc_law_is_integer : FnScope N_law_is_integer ["actual"] (defScope s_law_is_integer) := ⟨rfl, rfl, rfl, by decide +kernel, rfl, by decide +kernel, by decide +kernel⟩
abbrev s_law_same : Stmt := top 10
abbrev N_law_same : List Str := ["actual", "expected", "k"]
theorem sc_law_same : FnScope N_law_same ["actual", "expected"] (defScope s_law_same) := ⟨rfl, rfl, rfl, by decide +kernel, rfl, by decide +kernel, by decide +kernel⟩
abbrev s_law_rows : Stmt := top 11
abbrev N_law_rows : List Str := ["draws", "count", "size", "limit", "rows", "numbers", "k", "author", "heard", "capability", "pick", "grant", "publics", "parts", "j"]
theorem sc_law_rows : FnScope N_law_rows ["draws"] (defScope s_law_rows) := ⟨rfl, rfl, rfl, by decide +kernel, rfl, by decide +kernel, by decide +kernel⟩
abbrev s_law_part_lists : Stmt := top 12
abbrev N_law_part_lists : List Str := ["parts", "lists", "part"]
theorem sc_law_part_lists : FnScope N_law_part_lists ["parts"] (defScope s_law_part_lists) := ⟨rfl, rfl, rfl, by decide +kernel, rfl, by decide +kernel, by decide +kernel⟩
abbrev s_law_change : Stmt := top 13
abbrev N_law_change : List Str := ["row", "as_lists", "heard", "publics", "parts", "change", "given", "part"]
theorem sc_law_change : FnScope N_law_change ["row", "as_lists"] (defScope s_law_change) := ⟨rfl, rfl, rfl, by decide +kernel, rfl, by decide +kernel, by decide +kernel⟩
abbrev s_law_is_kept : Stmt := top 14
abbrev N_law_is_kept : List Str := ["change", "row", "header", "other"]
theorem sc_law_is_kept : FnScope N_law_is_kept ["change", "row"] (defScope s_law_is_kept) := ⟨rfl, rfl, rfl, by decide +kernel, rfl, by decide +kernel, by decide +kernel⟩
abbrev s_law_comes_first : Stmt := top 15
abbrev N_law_comes_first : List Str := ["row", "other"]
theorem sc_law_comes_first : FnScope N_law_comes_first ["row", "other"] (defScope s_law_comes_first) := ⟨rfl, rfl, rfl, by decide +kernel, rfl, by decide +kernel, by decide +kernel⟩
abbrev s_law_is_past : Stmt := top 16
abbrev N_law_is_past : List Str := ["name", "row"]
theorem sc_law_is_past : FnScope N_law_is_past ["name", "row"] (defScope s_law_is_past) := ⟨rfl, rfl, rfl, by decide +kernel, rfl, by decide +kernel, by decide +kernel⟩
abbrev s_law_asks_past : Stmt := top 17
abbrev N_law_asks_past : List Str := ["draws", "rows", "changes", "k", "author", "number", "actual"]
theorem sc_law_asks_past : FnScope N_law_asks_past ["draws", "rows", "changes"] (defScope s_law_asks_past) := ⟨rfl, rfl, rfl, by decide +kernel, rfl, by decide +kernel, by decide +kernel⟩
abbrev s_law : Stmt := top 18
abbrev N_law : List Str := ["script", "draws", "rows", "changes", "k", "passed", "actual", "names", "places", "name", "found", "change", "row"]
theorem sc_law : FnScope N_law ["script"] (defScope s_law) := ⟨rfl, rfl, rfl, by decide +kernel, rfl, by decide +kernel, by decide +kernel⟩
abbrev s_Change_init : Stmt := inClass (top 1) 0
abbrev N_Change_init : List Str := ["self", "author", "number", "heard", "capability", "publics", "parts", "part"]
theorem sc_Change_init : FnScope N_Change_init ["self", "author", "number", "heard", "capability", "publics", "parts"] (defScope s_Change_init) := ⟨rfl, rfl, rfl, by decide +kernel, rfl, by decide +kernel, by decide +kernel⟩
abbrev s_Change_name : Stmt := inClass (top 1) 1
abbrev N_Change_name : List Str := ["self"]
theorem sc_Change_name : FnScope N_Change_name ["self"] (defScope s_Change_name) := ⟨rfl, rfl, rfl, by decide +kernel, rfl, by decide +kernel, by decide +kernel⟩
abbrev s_Change_header : Stmt := inClass (top 1) 2
abbrev N_Change_header : List Str := ["self"]
theorem sc_Change_header : FnScope N_Change_header ["self"] (defScope s_Change_header) := ⟨rfl, rfl, rfl, by decide +kernel, rfl, by decide +kernel, by decide +kernel⟩
abbrev s_Change_with_parts : Stmt := inClass (top 1) 3
abbrev N_Change_with_parts : List Str := ["self", "parts"]
theorem sc_Change_with_parts : FnScope N_Change_with_parts ["self", "parts"] (defScope s_Change_with_parts) := ⟨rfl, rfl, rfl, by decide +kernel, rfl, by decide +kernel, by decide +kernel⟩
/-- what the top leaves -/
structure Txt (K : PySem.W.Frag) (mg : Str → Option Value) : Prop where
  n_int : mg "int" = none
  n_str : mg "str" = none
  n_len : mg "len" = none
  n_min : mg "min" = none
  n_max : mg "max" = none
  n_sum : mg "sum" = none
  n_bool : mg "bool" = none
  n_list : mg "list" = none
  n_tuple : mg "tuple" = none
  n_range : mg "range" = none
  n_sorted : mg "sorted" = none
  n_isinstance : mg "isinstance" = none
/-- draws: few, each from 0 to 9972 -/
def Dr (ns : List Int) : Prop := ns.length ≤ 3780 ∧ ∀ n ∈ ns, 0 ≤ n ∧ n < 9973
def sp_mix : Sp := fun vs H Q _ => ∃ c k : Int, vs = [.int c, .int k] ∧ ∀ v : Int, 0 ≤ v → v < 9973 → Q (.int v) H
def sp_draws (K : PySem.W.Frag) : Sp := fun vs H Q _ => ∃ (a : Addr) (ns : List Int), vs = [.ref a] ∧ SqL K H a (ns.map V.int) ∧ ns.length ≤ 63 ∧
  ∀ (H' : Hp) (p : Addr) (ds : List Int), Same H H' → H' p = some (.lst (ds.map V.int)) → Dr ds → Q (.ref p) H'
def sp_at (K : PySem.W.Frag) : Sp := fun vs H Q _ => ∃ (a : Addr) (ds : List Int) (i : Int), vs = [.ref a, .int i] ∧ SqL K H a (ds.map V.int) ∧ Dr ds ∧ 0 ≤ i ∧
  ∀ v : Int, 0 ≤ v → v < 9973 → Q (.int v) H
section
variable {P : Program} {w : World} {K : PySem.W.Frag} {mg : Str → Option Value} {base : Heap}
theorem ok_mix {f : Addr} {fd : FuncData} (F : Fun K "_law_mix" "_law_mix" s_law_mix f fd) (T : Txt K mg) : FnOk P w K mg base CX0 1 f fd ["cell", "k"] sp_mix := by
  refine F.ok sc_law_mix (fun vs H Q E h => ?_) (fun cdv A outer s H vs Q E hr h => ?_)
  · obtain ⟨c, k, rfl, _⟩ := h
    rfl
  · obtain ⟨c, k, rfl, q⟩ := h
    refine ⟨_, (pss_cons (ps_set (i := 2) sc_law_mix.nd rfl (Or.inl rfl) (pe_op op_mod (pe_callTy call_intI (by rfl) T.n_int (by decide +kernel) (pa_cons (pe_op op_add (pe_op op_add (pe_op op_mul (pe_callTy call_intI (by rfl) T.n_int (by decide +kernel) (pa_cons (pv 0) pa_nil)) pe_int) (pe_op op_mul (pv 1) pe_int)) pe_int) pa_nil)) pe_int))
        (pss_cons (ps_set (i := 2) sc_law_mix.nd rfl (Or.inl rfl) (pe_op op_mod (pe_callTy call_intI (by rfl) T.n_int (by decide +kernel) (pa_cons (pe_op op_add (pe_op op_add (pe_op op_mul (pv 2) (pv 2)) (pe_op op_mul (pv 1) pe_int)) pe_int) pa_nil)) pe_int))
        (pss_one (ps_ret (pe_op op_mod (pe_op op_fdiv (pv 2) pe_int) pe_int))))), ?_⟩
    refine ⟨_, rfl, _, rfl, _, _, rfl, rfl, .inr ⟨by decide, by decide⟩, _, rfl, _, _, rfl, rfl, .inr ⟨by decide, by decide⟩, _, _, rfl, rfl, _, _, rfl, rfl, _, rfl, _, _, rfl, rfl, (by show (0 : Int) < 2147483647; decide), ?_⟩
    generalize hx : ((c * 48271 + k * 69621 + 12345) % 2147483647 : Int) = x
    have x0 : 0 ≤ x := by omega
    have x1 : x < 2147483647 := by omega
    refine ⟨_, rfl, _, rfl, _, _, rfl, rfl, .inl ⟨by omega, by omega⟩, _, rfl, _, _, rfl, rfl, .inr ⟨by decide, by decide⟩, _, _, rfl, rfl, _, _, rfl, rfl, _, rfl, _, _, rfl, rfl, (by show (0 : Int) < 2147483399; decide), ?_⟩
    refine ⟨_, rfl, _, _, rfl, rfl, ⟨by decide, by decide⟩, _, _, rfl, rfl, (by show (0 : Int) < 9973; decide), ?_⟩
    exact q _ (Int.emod_nonneg _ (by decide)) (Int.emod_lt_of_pos _ (by decide))
theorem ok_draws {f : Addr} {fd : FuncData} (F : Fun K "_law_draws" "_law_draws" s_law_draws f fd) (T : Txt K mg) (c_law_mix : CalX P w K mg base CX0 1 "_law_mix" sp_mix) : FnOk P w K mg base CX0 2 f fd ["script"] (sp_draws K) := by
  refine F.ok sc_law_draws (fun vs H Q E h => ?_) (fun cdv A outer s H vs Q E hr h => ?_)
  · obtain ⟨a, ns, rfl, _⟩ := h
    rfl
  · obtain ⟨a, ns, rfl, hS, hlen, q⟩ := h
    refine ⟨_, (pss_cons (ps_set (i := 1) sc_law_draws.nd rfl (Or.inl rfl) (pe_lst pa_nil))
        (pss_cons (ps_for PassesOwn.never rfl (pi_range1 (by rfl) T.n_range (pa_cons (pe_callB (call_min2 rfl) (by rfl) T.n_min (by decide +kernel) (pa_cons pe_int (pa_cons (pe_callB call_lenL (by rfl) T.n_len (by decide +kernel) (pa_cons (pv 0) pa_nil)) pa_nil))) pa_nil)) (pg_name (i := 2) sc_law_draws.nd rfl (Or.inl rfl)) (pss_cons (ps_set (i := 3) sc_law_draws.nd rfl (Or.inl rfl) (pe_callTy call_intI (by rfl) T.n_int (by decide +kernel) (pa_cons (pe_ix ix_list (pv 0) (pv 2) (fun _ _ => rfl)) pa_nil)))
        (pss_one (ps_if (pt_cmpR op_lt (pv 3) (pe_op op_pow pe_int pe_int) (nomark _)) (pss_one (ps_expr (pe_bm PySem.F.plainAttrs_list PySem.F.slot_list_append PySem.F.type_list_append mt_append (pv 1) (pa_cons (pe_cx c_law_mix (hr.mono (by omega)) (by rfl) pass0 (pa_cons (pv 3) (pa_cons (pv 2) pa_nil))) pa_nil)))) (pss_one (ps_for PassesOwn.never rfl (pi_range1 (by rfl) T.n_range (pa_cons pe_int pa_nil)) (pg_name (i := 4) sc_law_draws.nd rfl (Or.inl rfl)) (pss_one (ps_if (pt_cmpR op_gt (pv 3) pe_int (nomark _)) (pss_cons (ps_expr (pe_bm PySem.F.plainAttrs_list PySem.F.slot_list_append PySem.F.type_list_append mt_append (pv 1) (pa_cons (pe_op op_mod (pe_callTy call_intI (by rfl) T.n_int (by decide +kernel) (pa_cons (pv 3) pa_nil)) pe_int) pa_nil)))
        (pss_one (ps_set (i := 3) sc_law_draws.nd rfl (Or.inl rfl) (pe_op op_fdiv (pv 3) pe_int)))) pss_nil))))))))
        (pss_one (ps_ret (pv 1))))), ?_⟩
    refine ⟨Nat.zero_le _, fun l hl => ?_⟩
    have s0 : Same H (upd H l (.lst [])) := same_new hl (Same.refl H)
    refine ⟨_, rfl, a, _, rfl, s0.seq hS, _, _, rfl, _, rfl, ?_⟩
    rw [List.length_map]
    generalize hn : (if (ns.length : Int) < 63 then (ns.length : Int) else 63) = n
    have n0 : 0 ≤ n ∧ n ≤ 63 ∧ n ≤ ns.length := by
      by_cases c : (ns.length : Int) < 63
      · rw [if_pos c] at hn
        omega
      · rw [if_neg c] at hn
        omega
    refine ⟨by omega, by omega, for_range (lo := 0) (n := n.toNat) (fun i σ H' => ∃ (ds : List Int) (v2 v3 v4 : Option V), σ = [some (.ref a), some (.ref l), v2, v3, v4] ∧ Same H H' ∧ H' l = some (.lst (ds.map V.int)) ∧ ds.length ≤ 60 * i ∧ ∀ d ∈ ds, 0 ≤ d ∧ d < 9973)
      ⟨[], none, none, none, rfl, s0, upd_same, Nat.zero_le _, fun d hd => by cases hd⟩ ?_ ?_⟩
    · rintro i σ H' hi ⟨ds, v2, v3, v4, rfl, s1, hd, hz, hb⟩
      have hi2 : i < ns.length := by omega
      obtain ⟨c, hc⟩ := some_at hi2
      refine ⟨_, rfl, _, rfl, a, _, _, _, rfl, rfl, s1.seq hS, at_of (by omega) (at_int hc), _, rfl, ?_⟩
      refine ⟨_, rfl, _, _, rfl, rfl, ⟨by decide, by decide, by decide⟩, _, _, rfl, rfl, _, rfl, ?_⟩
      refine ite_some (fun c1 => ?_) (fun c1 => ?_)
      · refine ⟨_, rfl, .inl ⟨rfl, _, SqL.of hd⟩, _, rfl, _, rfl, _, _, rfl, fun v w0 w1 => ?_⟩
        refine ⟨l, _, _, rfl, rfl, hd, lt_small (by rw [List.length_map]; omega), ?_⟩
        refine ⟨ds ++ [v], _, _, _, rfl, same_upd hl s1, by rw [map_snoc]; exact upd_same, by rw [List.length_append, List.length_singleton]; omega, all_snoc hb ⟨w0, w1⟩⟩
      · refine ⟨_, rfl, by decide, by decide, for_range (lo := 0) (n := 60) (fun j σ H2 => ∃ (es : List Int) (c2 : Int) (v4 : Option V), σ = [some (.ref a), some (.ref l), some (.int (0 + (i : Int))), some (.int c2), v4] ∧ Same H H2 ∧ H2 l = some (.lst (es.map V.int)) ∧ es.length ≤ 60 * i + j ∧ ∀ d ∈ es, 0 ≤ d ∧ d < 9973)
          ⟨ds, c, v4, rfl, s1, hd, hz, hb⟩ ?_ ?_⟩
        · rintro j σ H2 hj ⟨es, c2, v4', rfl, s2, he, hze, hbe⟩
          refine ⟨_, rfl, _, _, rfl, rfl, _, rfl, ?_⟩
          refine ite_some (fun c3 => ?_) (fun c3 => ?_)
          · refine ⟨_, rfl, .inl ⟨rfl, _, SqL.of he⟩, _, rfl, _, rfl, _, _, rfl, rfl, (by show (0 : Int) < 9973; decide), ?_⟩
            refine ⟨l, _, _, rfl, rfl, he, lt_small (by rw [List.length_map]; omega), ?_⟩
            refine ⟨_, rfl, _, _, rfl, rfl, ⟨by decide, by decide⟩, ?_⟩
            refine ⟨es ++ [c2 % 9973], _, _, rfl, same_upd hl s2, by rw [map_snoc]; exact upd_same, by rw [List.length_append, List.length_singleton]; omega, all_snoc hbe ⟨by omega, by omega⟩⟩
          · exact ⟨es, c2, _, rfl, s2, he, by omega, hbe⟩
        · rintro σ H2 ⟨es, c2, v4', rfl, s2, he, hze, hbe⟩
          exact ⟨es, _, _, _, rfl, s2, he, by omega, hbe⟩
    · rintro σ H' ⟨ds, v2, v3, v4, rfl, s1, hd, hz, hb⟩
      exact ⟨_, rfl, q H' l ds s1 hd ⟨by omega, hb⟩⟩
theorem ok_at {f : Addr} {fd : FuncData} (F : Fun K "_law_at" "_law_at" s_law_at f fd) (T : Txt K mg) (c_law_mix : CalX P w K mg base CX0 1 "_law_mix" sp_mix) : FnOk P w K mg base CX0 2 f fd ["draws", "index"] (sp_at K) := by
  refine F.ok sc_law_at (fun vs H Q E h => ?_) (fun cdv A outer s H vs Q E hr h => ?_)
  · obtain ⟨a, ds, i, rfl, _⟩ := h
    rfl
  · obtain ⟨a, ds, i, rfl, hS, ⟨hl, hd⟩, h0, q⟩ := h
    refine ⟨_, (pss_cons (ps_if (pt_cmpR op_lt (pv 1) (pe_callB call_lenL (by rfl) T.n_len (by decide +kernel) (pa_cons (pv 0) pa_nil)) (nomark _)) (pss_one (ps_ret (pe_ix ix_list (pv 0) (pv 1) (fun _ _ => rfl)))) pss_nil)
        (pss_cons (ps_if (pt_cmpR op_eq (pe_callB call_lenL (by rfl) T.n_len (by decide +kernel) (pa_cons (pv 0) pa_nil)) pe_int (nomark _)) (pss_one (ps_ret (pe_cx c_law_mix (hr.mono (by omega)) (by rfl) pass0 (pa_cons (pv 1) (pa_cons pe_int pa_nil))))) pss_nil)
        (pss_one (ps_ret (pe_cx c_law_mix (hr.mono (by omega)) (by rfl) pass0 (pa_cons (pe_op op_add (pe_ix ix_list (pv 0) (pe_op op_mod (pe_callTy call_intI (by rfl) T.n_int (by decide +kernel) (pa_cons (pv 1) pa_nil)) (pe_callB call_lenL (by rfl) T.n_len (by decide +kernel) (pa_cons (pv 0) pa_nil))) (fun _ _ => rfl)) (pe_op op_mul (pv 1) pe_int)) (pa_cons (pv 1) pa_nil))))))), ?_⟩
    refine ⟨_, rfl, _, rfl, a, _, rfl, hS, _, _, rfl, rfl, _, rfl, ?_⟩
    rw [List.length_map]
    refine ite_some (fun c => ?_) (fun c => ?_)
    · obtain ⟨v, hv⟩ := some_at (l := ds) (i := i.toNat) (by omega)
      refine ⟨_, rfl, _, rfl, a, _, _, _, rfl, rfl, hS, at_of (by omega) (at_int hv), ?_⟩
      have b := hd v (List.mem_of_getElem? hv)
      exact q v b.1 b.2
    · refine ⟨_, rfl, a, _, rfl, hS, rfl, _, rfl, ?_⟩
      rw [List.length_map]
      refine int_eq (fun c2 => ?_) (fun c2 => ?_)
      · exact ⟨_, rfl, _, _, rfl, q⟩
      · have hp : 0 < ds.length := by omega
        have m0 : 0 ≤ i % (ds.length : Int) := Int.emod_nonneg _ (by omega)
        have m1 : i % (ds.length : Int) < ds.length := Int.emod_lt_of_pos _ (by omega)
        obtain ⟨v, hv⟩ := some_at (l := ds) (i := (i % (ds.length : Int)).toNat) (by omega)
        refine ⟨_, rfl, _, rfl, _, rfl, _, rfl, a, _, rfl, hS, _, _, rfl, rfl, by rw [List.length_map]; show (0 : Int) < _; omega, a, _, _, _, rfl, rfl, hS, at_of (j := (i % (ds.length : Int)).toNat) (by rw [List.length_map]; omega) (at_int hv), _, rfl, _, _, rfl, rfl, .inr ⟨by decide, by decide⟩, _, _, rfl, rfl, _, rfl, _, _, rfl, q⟩
def sp_is_integer : Sp := fun vs H Q _ => ∃ i : Int, vs = [.int i] ∧ Q (.bl true) H
theorem ok_is_integer {f : Addr} {fd : FuncData} (F : Fun K "_law_is_integer" "_law_is_integer" s_law_is_integer f fd) (T : Txt K mg) : FnOk P w K mg base CX0 1 f fd ["actual"] sp_is_integer := by
  refine F.ok sc_law_is_integer (fun vs H Q E h => ?_) (fun cdv A outer s H vs Q E hr h => ?_)
  · obtain ⟨i, rfl, _⟩ := h
    rfl
  · obtain ⟨i, rfl, q⟩ := h
    refine ⟨_, (pss_one (ps_ret (pe_and (pe_callB call_isi (by rfl) T.n_isinstance (by decide +kernel) (pa_cons (pv 0) (pa_cons (pe_bltn (v := .ty "int") (by rfl) T.n_int (by decide +kernel) rfl) pa_nil))) (pe_one (pe_not (pe_callB call_isi (by rfl) T.n_isinstance (by decide +kernel) (pa_cons (pv 0) (pa_cons (pe_bltn (v := .ty "bool") (by rfl) T.n_bool (by decide +kernel) rfl) pa_nil)))))))), ?_⟩
    refine ⟨_, rfl, .int i, .ty "int", .type "int", .type "int", true, rfl, .ty _, .base (.int i), kit_ty (by decide +kernel), true, rfl, ?_⟩
    refine iteT ?_
    exact ⟨_, rfl, .int i, .ty "bool", .type "int", .type "bool", false, rfl, .ty _, .base (.int i), kit_ty (by decide +kernel), false, rfl, q⟩
/-- the same data on both sides -/
def sp_same (n : Nat) : Sp := fun vs H Q _ => ∃ (x y : V) (d : D), vs = [x, y] ∧ At H d x ∧ At H d y ∧ d.dep ≤ n ∧ ∀ H' : Hp, Same H H' → Q (.bl true) H'
theorem kit_list (l : Bool) (ds : List D) : kitB (D.seq l ds).ty "list" = some l := by
  cases l with
  | true => exact (by decide +kernel : kitB "list" "list" = some true)
  | false => exact (by decide +kernel : kitB "tuple" "list" = some false)
theorem kit_tuple (l : Bool) (ds : List D) : kitB (D.seq l ds).ty "tuple" = some (!l) := by
  cases l with
  | true => exact (by decide +kernel : kitB "list" "tuple" = some false)
  | false => exact (by decide +kernel : kitB "tuple" "tuple" = some true)
theorem kit_both {K : PySem.W.Frag} (l : Bool) (ds : List D) : PySem.W.kitAny K (.type (D.seq l ds).ty) [.type "list", .type "tuple"] = some true := by
  cases l with
  | true => exact kitAny_cons (kit_ty (kit_list true ds)) (fun z => by cases z) fun _ => rfl
  | false => exact kitAny_cons (kit_ty (kit_list false ds)) (fun _ => kitAny_cons (kit_ty (kit_tuple false ds)) (fun z => by cases z) fun _ => rfl) fun z => by cases z
theorem kit_none {K : PySem.W.Frag} {t : String} (h1 : kitB t "list" = some false) (h2 : kitB t "tuple" = some false) : PySem.W.kitAny K (.type t) [.type "list", .type "tuple"] = some false :=
  kitAny_cons (kit_ty h1) (fun _ => kitAny_cons (kit_ty h2) (fun _ => kitAny_nil) fun z => by cases z) fun z => by cases z
theorem cls_both : Paired ClsV [V.ty "list", V.ty "tuple"] [.type "list", .type "tuple"] := .cons (.ty _) (.cons (.ty _) .nil)
theorem ok_same {f : Addr} {fd : FuncData} (F : Fn K mg "_law_same" s_law_same ["actual", "expected"] f fd) (T : Txt K mg) (c_law_is_integer : CalX P w K mg base CX0 1 "_law_is_integer" sp_is_integer) :
    ∀ n : Nat, CalX P w K mg base CX0 (n + 2) "_law_same" (sp_same n)
  | n => by
    -- the calls of its own: there are none at depth 0
    have own : ∃ c : CalX P w K mg base CX0 (n + 1) "_law_same" (fun vs H Q E => ∃ m, m < n ∧ sp_same m vs H Q E), True := by
      cases n with
      | zero =>
        refine ⟨?_, trivial⟩
        obtain ⟨f', fd', ps', ok', a, b, d⟩ := (F.cal (k := 1) (P := P) (w := w) (base := base) (CX := CX0) (sp := fun _ _ _ _ => False) ⟨fun _ _ _ _ h => h.elim, fun _ _ _ _ _ _ _ _ _ _ _ _ _ h => h.elim⟩).ex
        exact ⟨f', fd', ps', ok'.imp fun _ _ _ _ ⟨m, hm, _⟩ => absurd hm (Nat.not_lt_zero _), a, b, d⟩
      | succ n =>
        exact ⟨(ok_same F T c_law_is_integer n).imp fun vs H Q E ⟨m, hm, x, y, d, e, h1, h2, h3, q⟩ => ⟨x, y, d, e, h1, h2, by omega, q⟩, trivial⟩
    obtain ⟨c_law_same, _⟩ := own
    refine F.cal (F.fn.ok sc_law_same (fun vs H Q E h => ?_) (fun cdv A outer s H vs Q E hr h => ?_))
    · obtain ⟨x, y, d, rfl, _⟩ := h
      rfl
    · obtain ⟨x, y, d, rfl, hx, hy, hn, q⟩ := h
      have hr1 : Room 1 _ := hr.mono (by omega)
      refine ⟨_, (pss_cons (ps_if (pt_val (pe_callB call_isiT (by rfl) T.n_isinstance (by decide +kernel) (pa_cons (pv 1) (pa_cons (pe_tup (pa_cons (pe_bltn (v := .ty "list") (by rfl) T.n_list (by decide +kernel) rfl) (pa_cons (pe_bltn (v := .ty "tuple") (by rfl) T.n_tuple (by decide +kernel) rfl) pa_nil))) pa_nil)))) (pss_cons (ps_if (PW.pt (pw_or (pt_cmpR op_ne (pe_callB call_isi (by rfl) T.n_isinstance (by decide +kernel) (pa_cons (pv 1) (pa_cons (pe_bltn (v := .ty "list") (by rfl) T.n_list (by decide +kernel) rfl) pa_nil))) (pe_callB call_isi (by rfl) T.n_isinstance (by decide +kernel) (pa_cons (pv 0) (pa_cons (pe_bltn (v := .ty "list") (by rfl) T.n_list (by decide +kernel) rfl) pa_nil))) (nomark _)) (pw_or1 (pt_cmpR op_ne (pe_callB call_isi (by rfl) T.n_isinstance (by decide +kernel) (pa_cons (pv 1) (pa_cons (pe_bltn (v := .ty "tuple") (by rfl) T.n_tuple (by decide +kernel) rfl) pa_nil))) (pe_callB call_isi (by rfl) T.n_isinstance (by decide +kernel) (pa_cons (pv 0) (pa_cons (pe_bltn (v := .ty "tuple") (by rfl) T.n_tuple (by decide +kernel) rfl) pa_nil))) (nomark _))))) (pss_one (ps_ret pe_bl)) pss_nil)
        (pss_cons (ps_if (pt_cmpR op_ne (pe_callB call_lenS (by rfl) T.n_len (by decide +kernel) (pa_cons (pv 0) pa_nil)) (pe_callB call_lenS (by rfl) T.n_len (by decide +kernel) (pa_cons (pv 1) pa_nil)) (nomark _)) (pss_one (ps_ret pe_bl)) pss_nil)
        (pss_cons (ps_for PassesOwn.never rfl (pi_range1 (by rfl) T.n_range (pa_cons (pe_callB call_lenS (by rfl) T.n_len (by decide +kernel) (pa_cons (pv 1) pa_nil)) pa_nil)) (pg_name (i := 2) sc_law_same.nd rfl (Or.inl rfl)) (pss_one (ps_if (pt_not (pt_val (pe_cx c_law_same (hr.mono (by omega)) (by rfl) pass0 (pa_cons (pe_ix ix_sq (pv 0) (pv 2) (fun _ _ => rfl)) (pa_cons (pe_ix ix_sq (pv 1) (pv 2) (fun _ _ => rfl)) pa_nil))))) (pss_one (ps_ret pe_bl)) pss_nil)))
        (pss_one (ps_ret pe_bl))))) pss_nil)
        (pss_cons (ps_if (pt_cmpR op_isN (pv 1) pe_non (nomark _)) (pss_one (ps_ret (pe_cmpR op_isN (pv 0) pe_non (nomark _)))) pss_nil)
        (pss_cons (ps_if (pt_val (pe_callB call_isi (by rfl) T.n_isinstance (by decide +kernel) (pa_cons (pv 1) (pa_cons (pe_bltn (v := .ty "bool") (by rfl) T.n_bool (by decide +kernel) rfl) pa_nil)))) (pss_one (ps_ret (pe_and (pe_callB call_isi (by rfl) T.n_isinstance (by decide +kernel) (pa_cons (pv 0) (pa_cons (pe_bltn (v := .ty "bool") (by rfl) T.n_bool (by decide +kernel) rfl) pa_nil))) (pe_one (pe_cmpR op_eq (pv 0) (pv 1) (nomark _)))))) pss_nil)
        (pss_cons (ps_if (pt_val (pe_callB call_isi (by rfl) T.n_isinstance (by decide +kernel) (pa_cons (pv 1) (pa_cons (pe_bltn (v := .ty "int") (by rfl) T.n_int (by decide +kernel) rfl) pa_nil)))) (pss_one (ps_ret (pe_and (pe_cx c_law_is_integer (hr.mono (by omega)) (by rfl) pass0 (pa_cons (pv 0) pa_nil)) (pe_one (pe_cmpR op_eq (pv 0) (pv 1) (nomark _)))))) pss_nil)
        (pss_one (ps_ret (pe_and (pe_callB call_isi (by rfl) T.n_isinstance (by decide +kernel) (pa_cons (pv 0) (pa_cons (pe_bltn (v := .ty "str") (by rfl) T.n_str (by decide +kernel) rfl) pa_nil))) (pe_one (pe_cmpR op_eq (pv 0) (pv 1) (nomark _)))))))))), ?_⟩
      refine ⟨_, rfl, (by show 2 ≤ sizeLine; decide), fun p hp => ?_⟩
      have s0 : Same H (upd H p (.tup [.ty "list", .ty "tuple"])) := same_new hp (Same.refl H)
      have hx0 := At.same s0 d x hx
      have hy0 := At.same s0 d y hy
      have q0 : ∀ H', Same (upd H p (.tup [.ty "list", .ty "tuple"])) H' → Q (.bl true) H' := fun H' z => q H' (s0.trans z)
      generalize hH : upd H p (.tup [.ty "list", .ty "tuple"]) = H0 at hx0 hy0 q0
      have hp0 : H0 p = some (.tup [.ty "list", .ty "tuple"]) := by rw [← hH]; exact upd_same
      cases d with
      | seq l ds =>
        refine ⟨y, p, _, _, _, true, rfl, hp0, cls_both, At.ty hy0, kit_both l ds, true, rfl, iteT ?_⟩
        refine ⟨_, rfl, y, .ty "list", _, _, _, rfl, .ty _, At.ty hy0, kit_ty (kit_list l ds), _, rfl, x, .ty "list", _, _, _, rfl, .ty _, At.ty hx0, kit_ty (kit_list l ds), rfl, _, rfl, ?_⟩
        refine iteNS rfl ?_
        refine ⟨_, rfl, y, .ty "tuple", _, _, _, rfl, .ty _, At.ty hy0, kit_ty (kit_tuple l ds), _, rfl, x, .ty "tuple", _, _, _, rfl, .ty _, At.ty hx0, kit_ty (kit_tuple l ds), rfl, _, rfl, ?_⟩
        refine iteNS rfl ?_
        obtain ⟨a, xs, rfl, ha, hxs, hz⟩ := hx0
        obtain ⟨b, ys, rfl, hb, hys, _⟩ := hy0
        refine ⟨_, rfl, a, xs, rfl, sq_of ha, _, rfl, b, ys, rfl, sq_of hb, rfl, _, rfl, ?_⟩
        refine iteNS (by rw [AtL.length hxs, AtL.length hys]) ?_
        have sz := AtL.length hys
        refine ⟨_, rfl, b, ys, rfl, sq_of hb, _, rfl, by omega, by omega, for_range (lo := 0) (n := ((ys.length : Nat) : Int).toNat) (fun i σ H' => ∃ v : Option V, σ = [some (.ref a), some (.ref b), v] ∧ Same H0 H')
          ⟨none, rfl, Same.refl _⟩ ?_ ?_⟩
        · rintro i σ H' hi ⟨v, rfl, s1⟩
          have hi2 : i < ds.length := by
            have := AtL.length hys
            omega
          obtain ⟨d, hd⟩ := some_at hi2
          obtain ⟨u, hu, hAu⟩ := AtL.get hxs hd
          obtain ⟨z, hz, hAz⟩ := AtL.get hys hd
          have dd : d.dep + 1 ≤ n := Nat.le_trans (Nat.succ_le_succ (dep_get hd)) hn
          refine ⟨_, rfl, _, rfl, a, xs, _, u, rfl, rfl, sq_of (s1 _ _ ha), at_of (by omega) hu, _, rfl, _, rfl, b, ys, _, z, rfl, rfl, sq_of (s1 _ _ hb), at_of (by omega) hz,
            d.dep, dd, u, z, d, rfl, At.same s1 d u hAu, At.same s1 d z hAz, Nat.le_refl _, fun H2 s2 => ⟨true, rfl, ?_⟩⟩
          refine iteF ?_
          exact ⟨_, rfl, s1.trans s2⟩
        · rintro σ H' ⟨v, rfl, s1⟩
          exact q0 _ s1
      | non =>
        obtain rfl : x = .non := hx0
        obtain rfl : y = .non := hy0
        refine ⟨.non, p, _, _, _, false, rfl, hp0, cls_both, .base .non, kit_none (by decide +kernel) (by decide +kernel), false, rfl, iteF ?_⟩
        refine ⟨_, rfl, rfl, true, rfl, iteT ?_⟩
        exact ⟨_, rfl, rfl, q0 _ (Same.refl _)⟩
      | bl b =>
        obtain rfl : x = .bl b := hx0
        obtain rfl : y = .bl b := hy0
        refine ⟨.bl b, p, _, _, _, false, rfl, hp0, cls_both, .base (.bl b), kit_none (by decide +kernel) (by decide +kernel), false, rfl, iteF ?_⟩
        refine ⟨_, rfl, rfl, false, rfl, iteF ?_⟩
        refine ⟨_, rfl, .bl b, .ty "bool", .type "bool", _, true, rfl, .ty _, .base (.bl b), kit_ty (by decide +kernel), _, rfl, iteT ?_⟩
        refine ⟨_, rfl, .bl b, .ty "bool", .type "bool", _, true, rfl, .ty _, .base (.bl b), kit_ty (by decide +kernel), true, rfl, iteT ?_⟩
        refine ⟨_, rfl, _, rfl, rfl, ?_⟩
        rw [decide_eq_true rfl]
        exact q0 _ (Same.refl _)
      | int i =>
        obtain rfl : x = .int i := hx0
        obtain rfl : y = .int i := hy0
        refine ⟨.int i, p, _, _, _, false, rfl, hp0, cls_both, .base (.int i), kit_none (by decide +kernel) (by decide +kernel), false, rfl, iteF ?_⟩
        refine ⟨_, rfl, rfl, false, rfl, iteF ?_⟩
        refine ⟨_, rfl, .int i, .ty "bool", .type "int", _, false, rfl, .ty _, .base (.int i), kit_ty (by decide +kernel), _, rfl, iteF ?_⟩
        refine ⟨_, rfl, .int i, .ty "int", .type "int", _, true, rfl, .ty _, .base (.int i), kit_ty (by decide +kernel), _, rfl, iteT ?_⟩
        refine ⟨_, rfl, i, rfl, true, rfl, iteT ?_⟩
        refine ⟨_, rfl, _, rfl, rfl, ?_⟩
        rw [decide_eq_true rfl]
        exact q0 _ (Same.refl _)
      | str z =>
        obtain rfl : x = .str z := hx0
        obtain rfl : y = .str z := hy0
        refine ⟨.str z, p, _, _, _, false, rfl, hp0, cls_both, .base (.str z), kit_none (by decide +kernel) (by decide +kernel), false, rfl, iteF ?_⟩
        refine ⟨_, rfl, rfl, false, rfl, iteF ?_⟩
        refine ⟨_, rfl, .str z, .ty "bool", .type "str", _, false, rfl, .ty _, .base (.str z), kit_ty (by decide +kernel), _, rfl, iteF ?_⟩
        refine ⟨_, rfl, .str z, .ty "int", .type "str", _, false, rfl, .ty _, .base (.str z), kit_ty (by decide +kernel), _, rfl, iteF ?_⟩
        refine ⟨_, rfl, .str z, .ty "str", .type "str", _, true, rfl, .ty _, .base (.str z), kit_ty (by decide +kernel), true, rfl, iteT ?_⟩
        refine ⟨_, rfl, _, rfl, rfl, ?_⟩
        rw [decide_eq_true rfl]
        exact q0 _ (Same.refl _)
end
end Kw
set_option Elab.async false
set_option linter.all false
set_option maxRecDepth 100000
set_option maxHeartbeats 4000000
namespace Kw
open PySem PySem.Spec PyProof.Rows L2
/-! ### changes as objects -/
structure ChgC (K : PySem.W.Frag) (C : Addr) : Prop where
  cl : Cls K C
  nA : NoAttr K C "author"
  nN : NoAttr K C "number"
  nH : NoAttr K C "heard"
  nC : NoAttr K C "capability"
  nP : NoAttr K C "publics"
  nQ : NoAttr K C "parts"
/-- what a change is made of -/
structure Row where
  au : Int
  nu : Int
  hs : List Int
  cap : D
  pub : List D
  parts : List D
def fsOf (au nu : Int) (vh vc vp vq : V) : List (Str × V) := putF "parts" vq (putF "publics" vp (putF "capability" vc (putF "heard" vh (putF "number" (.int nu) (putF "author" (.int au) [])))))
def hsD (hs : List Int) : D := .seq false (hs.map D.int)
/-- the object of a change -/
def CA (C : Addr) (H : Hp) (c : Addr) (r : Row) : Prop := ∃ (dx : Addr) (vh vc vp vq : V), H c = some (.ins C dx (fsOf r.au r.nu vh vc vp vq)) ∧ At H (hsD r.hs) vh ∧ At H r.cap vc ∧ At H (.seq false r.pub) vp ∧ At H (.seq false r.parts) vq
theorem CA.same {C : Addr} {H H' : Hp} {c : Addr} {r : Row} (s : Same H H') (h : CA C H c r) : CA C H' c r := by
  obtain ⟨dx, vh, vc, vp, vq, e, a, b, d, g⟩ := h
  exact ⟨dx, vh, vc, vp, vq, s _ _ e, At.same s _ _ a, At.same s _ _ b, At.same s _ _ d, At.same s _ _ g⟩
/-- a part: None, or a sequence -/
def PartD : D → Prop
  | .non => True
  | .seq _ _ => True
  | _ => False
def toT : D → D
  | .seq _ ds => .seq false ds
  | d => d
theorem hs_ints {H : Hp} {hs : List Int} {v : V} (h : At H (hsD hs) v) : ∃ a, v = .ref a ∧ H a = some (.tup (hs.map V.int)) ∧ hs.length ≤ 16000000 := by
  obtain ⟨a, xs, rfl, ha, hl, hz⟩ := h
  rw [AtL.ints hl] at ha
  rw [List.length_map] at hz
  exact ⟨a, rfl, ha, hz⟩
theorem hs_dep (hs : List Int) : (hsD hs).dep = 1 := by
  show depL (hs.map D.int) + 1 = 1
  rw [depL_ints]
/-- __init__: the new object x apart; what is read may lie in S, its items don't -/
def sp_init (C : Addr) : Sp := fun vs H Q _ => ∃ (x dx : Addr) (S : List Addr) (au nu : Int) (vh vc vp : V) (a : Addr) (xs : List V) (lh lp lq : Bool) (hs : List Int) (cap : D) (pub ps : List D), vs = [.ref x, .int au, .int nu, vh, vc, vp, .ref a] ∧ H x = some (.ins C dx []) ∧
  (∀ s ∈ S, ∃ ys, H s = some (.lst ys)) ∧
  AtTop (x :: S) H lh (hs.map D.int) vh ∧ At (hidS (x :: S) H) cap vc ∧ AtTop (x :: S) H lp pub vp ∧ H a = some (seqO lq xs) ∧ AtTop2 (x :: S) H ps xs ∧ ps.length ≤ 16000000 ∧
  ∀ H' vh' vp' vq', Same (hide x H) (hide x H') → H' x = some (.ins C dx (fsOf au nu vh' vc vp' vq')) → At (hidS (x :: S) H') (hsD hs) vh' → At (hidS (x :: S) H') (.seq false pub) vp' → At (hidS (x :: S) H') (.seq false (ps.map toT)) vq' → Q .non H'
section
variable {x : Addr} {S : List Addr} {H H' : Hp}
theorem at_up {d : D} {v : V} (s : Same (hide x H) (hide x H')) (h : At (hidS (x :: S) H) d v) : At (hidS (x :: S) H') d v := by
  rw [hidS_swap] at h ⊢
  exact At.same (Same.hidS S s) d v h
theorem hd_up {C dx : Addr} {fs : List (Str × V)} {b : Addr} {o : HO} (s : Same (hide x H) (hide x H')) (hx : H x = some (.ins C dx fs)) (h : H b = some o) (n : ∀ C dx fs, o ≠ .ins C dx fs) : H' b = some o := by
  have ne : b ≠ x := fun z => by
    rw [z, hx] at h
    exact n _ _ _ (Option.some.inj h).symm
  have := s b o (by rw [hide_ne ne]; exact h)
  exact (hide_some this).1
theorem seqO_ins {l : Bool} {xs : List V} (C dx : Addr) (fs : List (Str × V)) : seqO l xs ≠ .ins C dx fs := by
  cases l
  · exact fun z => by cases z
  · exact fun z => by cases z
theorem top_up {C dx : Addr} {fs : List (Str × V)} {l : Bool} {ds : List D} {v : V} (s : Same (hide x H) (hide x H')) (hx : H x = some (.ins C dx fs)) (h : AtTop (x :: S) H l ds v) : AtTop (x :: S) H' l ds v := by
  obtain ⟨a, xs, rfl, ha, hl, hz⟩ := h
  refine ⟨a, xs, rfl, hd_up s hx ha seqO_ins, ?_, hz⟩
  rw [hidS_swap] at hl ⊢
  exact AtL.same (Same.hidS S s) _ _ hl
end
section
variable {P : Program} {w : World} {K : PySem.W.Frag} {mg : Str → Option Value} {base : Heap}
theorem ok_init {f C : Addr} {fd : FuncData} (F : Fun K "__init__" "Change.__init__" s_Change_init f fd) (T : Txt K mg) (cc : ChgC K C) : FnOk P w K mg base CX0 1 f fd ["self", "author", "number", "heard", "capability", "publics", "parts"] (sp_init C) := by
  refine F.ok sc_Change_init (fun vs H Q E h => ?_) (fun cdv A outer s H vs Q E hr h => ?_)
  · obtain ⟨x, dx, S, au, nu, vh, vc, vp, a, xs, lh, lp, lq, hs, cap, pub, ps, rfl, _⟩ := h
    rfl
  · obtain ⟨x, dx, S, au, nu, vh, vc, vp, a, xs, lh, lp, lq, hs, cap, pub, ps, rfl, hx, hS, ah, ac, ap, ha, hl, hz, q⟩ := h
    refine ⟨_, (pss_cons (ps_fld (pv 0) (pv 1) rfl)
        (pss_cons (ps_fld (pv 0) (pv 2) rfl)
        (pss_cons (ps_fld (pv 0) (pe_callTy call_tuT (by rfl) T.n_tuple (by decide +kernel) (pa_cons (pv 3) pa_nil)) rfl)
        (pss_cons (ps_fld (pv 0) (pv 4) rfl)
        (pss_cons (ps_fld (pv 0) (pe_callTy call_tuT (by rfl) T.n_tuple (by decide +kernel) (pa_cons (pv 5) pa_nil)) rfl)
        (pss_one (ps_fld (pv 0) (pe_callTy call_tuT (by rfl) T.n_tuple (by decide +kernel) (pa_cons (pe_lc (own := [("part", 7)]) (g := gName 7) (te := tFr _) (by rfl) sc_Change_init.nd (pi_sqv 6) (blkOk_by (own := [("part", 7)]) (N := N_Change_init) (sc := defScope s_Change_init) (by decide +kernel)) (fun _ _ _ _ _ => pg_name (i := 7) sc_Change_init.nd rfl (Or.inl rfl)) (fun _ _ _ _ _ => pts_nil) (fun _ _ _ _ _ => (pe_fr (pe_ifExp (pt_cmpR op_isN (pv 7) pe_non (nomark _)) pe_non (pe_callTy call_tuT (by rfl) T.n_tuple (by decide +kernel) (pa_cons (pv 7) pa_nil)))))) pa_nil)) rfl))))))), ?_⟩
    refine ⟨_, rfl, _, rfl, x, C, dx, _, rfl, hx, cc.cl, cc.nA, (by show 0 < 1000; decide), ?_⟩
    refine ⟨_, rfl, _, rfl, x, C, dx, _, rfl, upd_same, cc.cl, cc.nN, (by show 1 < 1000; decide), ?_⟩
    rw [upd_upd]
    have inS : ∀ {H' : Hp} {fs : List (Str × V)}, Same (hide x H) (hide x H') → H' x = some (.ins C dx fs) → ∀ y ∈ x :: S, H' y ≠ none ∧ ∀ xs, H' y ≠ some (.tup xs) := fun s h y hy => by
      rcases List.mem_cons.mp hy with z | z
      · rw [z, h]
        exact ⟨fun e => (by cases e), fun _ e => (by cases e)⟩
      · obtain ⟨ys, e⟩ := hS y z
        rw [hd_up s hx e (fun _ _ _ => fun u => by cases u)]
        exact ⟨fun e => (by cases e), fun _ e => (by cases e)⟩
    generalize hH1 : upd H x _ = H1
    have s1 : Same (hide x H) (hide x H1) := by
      rw [← hH1, hide_upd_self]
      exact Same.refl _
    have hx1 : H1 x = some (.ins C dx (putF "number" (.int nu) (putF "author" (.int au) []))) := by rw [← hH1]; exact upd_same
    clear hH1
    refine ⟨_, rfl, x :: S, lh, _, _, rfl, inS s1 hx1, top_up s1 hx ah, fun H2 vh' s2 ah' => ?_⟩
    have hx2 := s2 _ _ hx1
    refine ⟨_, rfl, x, C, dx, _, rfl, hx2, cc.cl, cc.nH, (by show 2 < 1000; decide), ?_⟩
    have s2' : Same (hide x H) (hide x H2) := s1.trans (Same.hid x s2)
    refine ⟨_, rfl, _, rfl, x, C, dx, _, rfl, upd_same, cc.cl, cc.nC, (by show 3 < 1000; decide), ?_⟩
    rw [upd_upd]
    generalize hH3 : upd H2 x _ = H3
    have e3 : Same (hide x H2) (hide x H3) := by
      rw [← hH3, hide_upd_self]
      exact Same.refl _
    have hx3 : H3 x = some (.ins C dx (putF "capability" vc (putF "heard" vh' (putF "number" (.int nu) (putF "author" (.int au) []))))) := by rw [← hH3]; exact upd_same
    clear hH3
    have s3 := s2'.trans e3
    refine ⟨_, rfl, x :: S, lp, _, _, rfl, inS s3 hx3, top_up s3 hx ap, fun H4 vp' s4 ap' => ?_⟩
    have hx4 := s4 _ _ hx3
    refine ⟨_, rfl, x, C, dx, _, rfl, hx4, cc.cl, cc.nP, (by show 4 < 1000; decide), ?_⟩
    have s4' : Same (hide x H) (hide x H4) := s3.trans (Same.hid x s4)
    generalize hH5 : upd H4 x _ = H5
    have e5 : Same (hide x H4) (hide x H5) := by
      rw [← hH5, hide_upd_self]
      exact Same.refl _
    have hx5 : H5 x = some (.ins C dx (putF "publics" vp' (putF "capability" vc (putF "heard" vh' (putF "number" (.int nu) (putF "author" (.int au) [])))))) := by rw [← hH5]; exact upd_same
    clear hH5
    have s5 := s4'.trans e5
    have ah5 : At (hidS (x :: S) H5) (hsD hs) vh' := at_up ((e3.trans (Same.hid x s4)).trans e5) ah'
    have ap5 : At (hidS (x :: S) H5) (.seq false pub) vp' := at_up e5 ap'
    -- the parts
    have ha5 := hd_up s5 hx ha seqO_ins
    have len := hl.1
    have cl : ∀ (i : Nat) d, ps[i]? = some d → (ps.map toT)[i]? = some (toT d) := fun i d h => by
      rw [List.getElem?_map, h]
      rfl
    let R : Nat → Hp → V → Prop := fun i F v => ∃ d, (ps.map toT)[i]? = some d ∧ At (hidS (x :: S) F) d v
    have hR : ∀ i F F' v, Same F F' → R i F v → R i F' v := fun i F F' v s ⟨d, hd, hA⟩ => ⟨d, hd, At.same (Same.hidS _ s) d v hA⟩
    have fin : ∀ (E : Addr) (F : Hp) (zs : List V), Same H5 F → F E = none → zs.length = xs.length → (∀ i v, zs[i]? = some v → R i F v) → Same H5 (upd F E (.lst zs)) ∧ At (hidS (x :: S) (upd F E (.lst zs))) (.seq true (ps.map toT)) (.ref E) := fun E F zs sF hF ez hr => by
      have sg : Same F (upd F E (.lst zs)) := Same.new hF
      have hx6 := sF _ _ hx5
      have px : E ∉ x :: S := not_in_S (fun y hy => (inS (s5.trans (Same.hid x sF)) hx6 y hy).1) hF
      refine ⟨sF.trans sg, E, zs, rfl, ?_, AtL.same (Same.hidS _ sg) _ _ (AtL.of (by rw [ez, List.length_map, len]) fun i d v hd hv => ?_), by rw [List.length_map]; exact hz⟩
      · rw [hidS_upd px]
        exact upd_same
      · obtain ⟨d2, hd2, h2⟩ := hr i v hv
        rw [hd] at hd2
        cases hd2
        exact h2
    obtain ⟨J, hJ, w⟩ := sq_walk K ha5
    refine ⟨a, J, rfl, hJ, fun E hD => ?_⟩
    refine lc_rel w hD (by omega) R hR (fun H' s => s _ _ ha5) (fun i y F zs H' hi sF hF hy => ⟨hy.1, fun Q k => ?_⟩) fun F zs sF hF ez hr => ?_
    · obtain ⟨d, hd⟩ := some_at (l := ps) (i := i) (by omega)
      have sx := s5.trans (Same.hid x sF)
      rcases hl.2 i d y hd hy.2 with ⟨rfl, rfl⟩ | ⟨l, ds, rfl, hA⟩
      · refine ⟨_, rfl, rfl, true, rfl, iteT ?_⟩
        exact k _ _ (Same.refl _) ⟨.non, cl i _ hd, rfl⟩
      · have hA2 := top_up sx hx hA
        obtain ⟨b, ys, rfl, hb, _⟩ := hA
        refine ⟨_, rfl, rfl, false, rfl, iteF ?_⟩
        refine ⟨_, rfl, x :: S, l, ds, _, rfl, inS sx (sF _ _ hx5), hA2, fun F2 v s2 hv => k F2 v s2 ⟨_, cl i _ hd, hv⟩⟩
    · obtain ⟨s6, at6⟩ := fin E F zs sF hF ez hr
      refine ⟨x :: S, true, _, _, rfl, inS (s5.trans (Same.hid x s6)) (s6 _ _ hx5), at6.top, fun H7 vq' s7 aq' => ?_⟩
      have s57 := s6.trans s7
      refine ⟨_, rfl, x, C, dx, _, rfl, s57 _ _ hx5, cc.cl, cc.nQ, (by show 5 < 1000; decide), ?_⟩
      have e8 : hide x (upd H7 x (.ins C dx (putF "parts" vq' (putF "publics" vp' (putF "capability" vc (putF "heard" vh' (putF "number" (.int nu) (putF "author" (.int au) [])))))))) = hide x H7 := hide_upd_self
      have e9 : hidS (x :: S) (upd H7 x (.ins C dx (putF "parts" vq' (putF "publics" vp' (putF "capability" vc (putF "heard" vh' (putF "number" (.int nu) (putF "author" (.int au) [])))))))) = hidS (x :: S) H7 := hidS_upd_in (List.mem_cons_self ..)
      refine q _ vh' vp' vq' ?_ upd_same ?_ ?_ ?_
      · rw [e8]
        exact s5.trans (Same.hid x s57)
      · rw [e9]
        exact At.same (Same.hidS _ s57) _ _ ah5
      · rw [e9]
        exact At.same (Same.hidS _ s57) _ _ ap5
      · rw [e9]
        exact aq'
/-! ### the methods -/
def sp_name (C : Addr) : Sp := fun vs H Q _ => ∃ (c : Addr) (r : Row), vs = [.ref c] ∧ CA C H c r ∧ ∀ H' v, Same H H' → At H' (.seq false [.int r.au, .int r.nu]) v → Q v H'
def headD (r : Row) : D := .seq false [.int r.au, .int r.nu, hsD r.hs, r.cap, .seq false r.pub]
def sp_header (C : Addr) : Sp := fun vs H Q _ => ∃ (c : Addr) (r : Row), vs = [.ref c] ∧ CA C H c r ∧ ∀ H' v, Same H H' → At H' (headD r) v → Q v H'
def sp_with (C : Addr) : Sp := fun vs H Q _ => ∃ (c : Addr) (r : Row) (l : Bool) (ps : List D) (v : V), vs = [.ref c, v] ∧ CA C H c r ∧ At H (.seq l ps) v ∧ (∀ p ∈ ps, PartD p) ∧ ∀ H' c', Same H H' → CA C H' c' { r with parts := ps.map toT } → Q (.ref c') H'
/-- a new change; what it is made of may lie in S -/
theorem make_chg {C : Addr} {H : Hp} {Q : VK} {E : XK} {vh vc vp : V} {lh lp lq : Bool} {r : Row} {ps : List D} {a : Addr} {xs : List V} (S : List Addr) (hS : ∀ s ∈ S, ∃ ys, H s = some (.lst ys))
    (ah : AtTop S H lh (r.hs.map D.int) vh) (ac : At (hidS S H) r.cap vc) (ap : AtTop S H lp r.pub vp) (ha : H a = some (seqO lq xs)) (aq : AtTop2 S H ps xs) (hz : ps.length ≤ 16000000)
    (x dx : Addr) (hx : H x = none) (hd : H dx = none) (ne : dx ≠ x) (q : ∀ H', Same H H' → CA C (hidS S H') x { r with parts := ps.map toT } → Q .non H') :
    sp_init C (V.ref x :: ([.int r.au, .int r.nu, vh, vc, vp, .ref a] ++ [])) (upd (upd H dx (.own x)) x (.ins C dx [])) Q E := by
  have f0 : (upd H dx (.own x)) x = none := by
    rw [upd_ne ne.symm]
    exact hx
  have s0 : Same H (upd H dx (.own x)) := Same.new hd
  have s1 : Same H (upd (upd H dx (.own x)) x (.ins C dx [])) := s0.trans (Same.new f0)
  have e : hidS (x :: S) (upd (upd H dx (.own x)) x (.ins C dx [])) = hidS S (upd H dx (.own x)) := by
    rw [hidS_swap, hide_upd f0]
  have u1 : ∀ d v, At (hidS S H) d v → At (hidS (x :: S) (upd (upd H dx (.own x)) x (.ins C dx []))) d v := fun d v h => by
    rw [e]
    exact At.same (Same.hidS S s0) d v h
  have u2 : ∀ l ds v, AtTop S H l ds v → AtTop (x :: S) (upd (upd H dx (.own x)) x (.ins C dx [])) l ds v := fun l ds v ⟨a, xs, e1, h1, h2, h3⟩ => ⟨a, xs, e1, s1 _ _ h1, by
    rw [e]
    exact AtL.same (Same.hidS S s0) _ _ h2, h3⟩
  refine ⟨x, dx, S, r.au, r.nu, vh, vc, vp, a, xs, lh, lp, lq, r.hs, r.cap, r.pub, ps, rfl, upd_same, fun s hs => ?_, u2 _ _ _ ah, u1 _ _ ac, u2 _ _ _ ap, s1 _ _ ha, ⟨aq.1, fun i d y h1 h2 => ?_⟩, hz, fun H' vh' vp' vq' s e' b1 b2 b3 => ?_⟩
  · obtain ⟨ys, h⟩ := hS s hs
    exact ⟨ys, s1 _ _ h⟩
  · rcases aq.2 i d y h1 h2 with h | ⟨l, ds, h, g⟩
    · exact .inl h
    · exact .inr ⟨l, ds, h, u2 _ _ _ g⟩
  · rw [hide_upd f0] at s
    have s2 : Same H (hide x H') := s0.trans s
    have xS : x ∉ S := fun z => by
      obtain ⟨ys, h⟩ := hS x z
      rw [hx] at h
      cases h
    have lower : ∀ d v, At (hidS (x :: S) H') d v → At (hidS S H') d v := fun d v h => At.same (fun b o e => by
      have e : hide x (hidS S H') b = some o := e
      exact (hide_some e).1) d v h
    refine q H' (s2.trans Same.unhid) ⟨dx, vh', vc, vp', vq', ?_, lower _ _ b1, ?_, lower _ _ b2, lower _ _ b3⟩
    · rw [hidS_eq, if_neg xS]
      exact e'
    · exact At.same (Same.hidS S (s2.trans Same.unhid)) _ _ ac
theorem top2_of {H : Hp} {ps : List D} {xs : List V} (h : AtL H ps xs) (hp : ∀ p ∈ ps, PartD p) : AtTop2 [] H ps xs := ⟨h.length, fun i d x hd hx => by
  obtain ⟨y, hy, hA⟩ := h.get hd
  rw [hx] at hy
  cases hy
  have := hp d (List.mem_of_getElem? hd)
  cases d with
  | non => exact Or.inl ⟨rfl, hA⟩
  | seq l ds => exact .inr ⟨l, ds, rfl, At.top hA⟩
  | bl b => exact this.elim
  | int b => exact this.elim
  | str b => exact this.elim⟩
theorem ok_name {f C : Addr} {fd : FuncData} (F : Fun K "name" "Change.name" s_Change_name f fd) (T : Txt K mg) (cc : ChgC K C) : FnOk P w K mg base CX0 1 f fd ["self"] (sp_name C) := by
  refine F.ok sc_Change_name (fun vs H Q E h => ?_) (fun cdv A outer s H vs Q E hr h => ?_)
  · obtain ⟨c, r, rfl, _⟩ := h
    rfl
  · obtain ⟨c, r, rfl, ⟨dx, vh, vc, vp, vq, e, ah, ac, ap, aq⟩, q⟩ := h
    refine ⟨_, (pss_one (ps_ret (pe_tup (pa_cons (pe_fld (pv 0) rfl) (pa_cons (pe_fld (pv 0) rfl) pa_nil))))), ?_⟩
    refine ⟨_, rfl, c, C, dx, _, _, rfl, e, cc.cl, cc.nA, rfl, _, rfl, c, C, dx, _, _, rfl, e, cc.cl, cc.nN, rfl, (by show 2 ≤ sizeLine; decide), fun p hp => ?_⟩
    exact q _ _ (Same.new hp) ⟨p, _, rfl, upd_same, ⟨_, _, rfl, rfl, _, _, rfl, rfl, rfl⟩, (by show 2 ≤ 16000000; decide)⟩
theorem ok_header {f C : Addr} {fd : FuncData} (F : Fun K "header" "Change.header" s_Change_header f fd) (T : Txt K mg) (cc : ChgC K C) : FnOk P w K mg base CX0 1 f fd ["self"] (sp_header C) := by
  refine F.ok sc_Change_header (fun vs H Q E h => ?_) (fun cdv A outer s H vs Q E hr h => ?_)
  · obtain ⟨c, r, rfl, _⟩ := h
    rfl
  · obtain ⟨c, r, rfl, ⟨dx, vh, vc, vp, vq, e, ah, ac, ap, aq⟩, q⟩ := h
    refine ⟨_, (pss_one (ps_ret (pe_tup (pa_cons (pe_fld (pv 0) rfl) (pa_cons (pe_fld (pv 0) rfl) (pa_cons (pe_fld (pv 0) rfl) (pa_cons (pe_fld (pv 0) rfl) (pa_cons (pe_fld (pv 0) rfl) pa_nil)))))))), ?_⟩
    refine ⟨_, rfl, c, C, dx, _, _, rfl, e, cc.cl, cc.nA, rfl, _, rfl, c, C, dx, _, _, rfl, e, cc.cl, cc.nN, rfl, _, rfl, c, C, dx, _, _, rfl, e, cc.cl, cc.nH, rfl, _, rfl, c, C, dx, _, _, rfl, e, cc.cl, cc.nC, rfl, _, rfl, c, C, dx, _, _, rfl, e, cc.cl, cc.nP, rfl, (by show 5 ≤ sizeLine; decide), fun p hp => ?_⟩
    have s := Same.new (o := .tup [.int r.au, .int r.nu, vh, vc, vp]) hp
    exact q _ _ s ⟨p, _, rfl, upd_same, ⟨_, _, rfl, rfl, _, _, rfl, rfl, _, _, rfl, At.same s _ _ ah, _, _, rfl, At.same s _ _ ac, _, _, rfl, At.same s _ _ ap, rfl⟩, (by show 5 ≤ 16000000; decide)⟩
theorem ok_with {f C : Addr} {fd : FuncData} (F : Fun K "with_parts" "Change.with_parts" s_Change_with_parts f fd) (T : Txt K mg) (cc : ChgC K C) (c_Change : MakX P w K mg base 1 "Change" C (sp_init C) []) : FnOk P w K mg base CX0 3 f fd ["self", "parts"] (sp_with C) := by
  refine F.ok sc_Change_with_parts (fun vs H Q E h => ?_) (fun cdv A outer s H vs Q E hr h => ?_)
  · obtain ⟨c, r, l, ps, v, rfl, _⟩ := h
    rfl
  · obtain ⟨c, r, l, ps, v, rfl, ⟨dx, vh, vc, vp, vq, e, ah, ac, ap, aq⟩, av, hps, q⟩ := h
    refine ⟨_, (pss_one (ps_ret (pe_mkx c_Change hr (by omega) (by rfl) (pa_cons (pe_fld (pv 0) rfl) (pa_cons (pe_fld (pv 0) rfl) (pa_cons (pe_fld (pv 0) rfl) (pa_cons (pe_fld (pv 0) rfl) (pa_cons (pe_fld (pv 0) rfl) (pa_cons (pv 1) pa_nil))))))))), ?_⟩
    refine ⟨_, rfl, c, C, dx, _, _, rfl, e, cc.cl, cc.nA, rfl, _, rfl, c, C, dx, _, _, rfl, e, cc.cl, cc.nN, rfl, _, rfl, c, C, dx, _, _, rfl, e, cc.cl, cc.nH, rfl, _, rfl, c, C, dx, _, _, rfl, e, cc.cl, cc.nC, rfl, _, rfl, c, C, dx, _, _, rfl, e, cc.cl, cc.nP, rfl, _, rfl, ?_⟩
    obtain ⟨pa, pxs, rfl, hpa, hpl, hpz⟩ := av
    exact fun x dx' hx hd ne => make_chg (r := r) (lh := false) (lp := false) (lq := l) [] (fun s h => by cases h) (At.top (S := []) ah) ac (At.top (S := []) ap) hpa (top2_of hpl hps) hpz x dx' hx hd ne fun H' s h => ⟨rfl, q H' x s h⟩
/-! ### the order, the past -/
def sp_key (C : Addr) : Sp := fun vs H Q _ => ∃ (c : Addr) (r : Row), vs = [.ref c] ∧ CA C H c r ∧ ∀ H' v, Same H H' → At H' (.seq false [.int r.hs.sum, .int r.au, .int r.nu]) v → Q v H'
theorem ok_key {f C : Addr} {fd : FuncData} (F : Fun K "order_key" "order_key" s_order_key f fd) (T : Txt K mg) (cc : ChgC K C) : FnOk P w K mg base CX0 1 f fd ["change"] (sp_key C) := by
  refine F.ok sc_order_key (fun vs H Q E h => ?_) (fun cdv A outer s H vs Q E hr h => ?_)
  · obtain ⟨c, r, rfl, _⟩ := h
    rfl
  · obtain ⟨c, r, rfl, ⟨dx, vh, vc, vp, vq, e, ah, ac, ap, aq⟩, q⟩ := h
    refine ⟨_, (pss_one (ps_ret (pe_tup (pa_cons (pe_callB (cr_sumD rfl) (by rfl) T.n_sum (by decide +kernel) (pa_cons (pe_fld (pv 0) rfl) pa_nil)) (pa_cons (pe_fld (pv 0) rfl) (pa_cons (pe_fld (pv 0) rfl) pa_nil)))))), ?_⟩
    refine ⟨_, rfl, c, C, dx, _, _, rfl, e, cc.cl, cc.nH, rfl, [], false, r.hs, _, rfl, ah, _, rfl, c, C, dx, _, _, rfl, e, cc.cl, cc.nA, rfl, _, rfl, c, C, dx, _, _, rfl, e, cc.cl, cc.nN, rfl, (by show 3 ≤ sizeLine; decide), fun p hp => ?_⟩
    exact q _ _ (Same.new hp) ⟨p, _, rfl, upd_same, ⟨_, _, rfl, rfl, _, _, rfl, rfl, _, _, rfl, rfl, rfl⟩, (by show 3 ≤ 16000000; decide)⟩
def chgOf (a : Addr) (r : Row) : Chg := ⟨a, r.hs.sum, r.au, r.nu⟩
theorem CA.chg {C : Addr} {H : Hp} {c : Addr} {r : Row} (cc : ChgC K C) (h : CA C H c r) : ChgAt K H (chgOf c r) := by
  obtain ⟨dx, vh, vc, vp, vq, e, ah, ac, ap, aq⟩ := h
  obtain ⟨t, rfl, ht, _⟩ := hs_ints ah
  exact ⟨C, dx, t, _, r.hs, e, cc.cl, cc.nA, cc.nN, cc.nH, rfl, rfl, rfl, SqT.of ht, rfl⟩
structure TxtO (K : PySem.W.Frag) (mg : Str → Option Value) (f : Addr) (fd : FuncData) : Prop extends Txt K mg where
  key : KeyDef K s_order_key f fd
  g_order_key : ∃ u, mg "order_key" = some u ∧ RelV (.ref f) u
/-- changes with what they are made of -/
def sp_order (C : Addr) : Sp := fun vs H Q _ => ∃ (a : Addr) (cs : List (Addr × Row)), vs = [.ref a] ∧ H a = some (.lst (cs.map fun p => V.ref p.1)) ∧ (∀ p ∈ cs, CA C H p.1 p.2) ∧ ∀ p, H p = none → Q (.ref p) (upd H p (.lst (refs (sortC (cs.map fun p => chgOf p.1 p.2)))))
theorem ok_order {f fk C : Addr} {fd fdk : FuncData} (F : Fun K "in_order" "in_order" s_in_order f fd) (T : TxtO K mg fk fdk) (cc : ChgC K C) : FnOk P w K mg base CX0 4 f fd ["changes"] (sp_order C) := by
  refine F.ok sc_in_order (fun vs H Q E h => ?_) (fun cdv A outer s H vs Q E hr h => ?_)
  · obtain ⟨a, cs, rfl, _⟩ := h
    rfl
  · obtain ⟨a, cs, rfl, ha, hall, q⟩ := h
    refine ⟨_, (pss_one (ps_ret (pe_callBK (cr_sortedBy T.key T.n_sum hr (by omega)) (by rfl) T.n_sorted (by decide +kernel) (pa_cons (pv 0) pa_nil) (pk_cons (C8.pe_gc (by rfl) T.g_order_key) pk_nil)))), ?_⟩
    refine ⟨_, rfl, a, cs.map (fun p => chgOf p.1 p.2), rfl, rfl, ?_, ?_, q⟩
    · refine SqL.of ?_
      rw [ha]
      show _ = some (HO.lst ((cs.map _).map _))
      rw [List.map_map]
      rfl
    · intro b hb
      obtain ⟨p, hp, rfl⟩ := List.mem_map.mp hb
      exact (hall p hp).chg cc
def pastB (a n : Int) (hs : List Int) : Bool := decide (0 ≤ a ∧ a < hs.length) && (decide (1 ≤ n) && decide (n ≤ hs.getD a.toNat 0))
def sp_past (C : Addr) : Sp := fun vs H Q _ => ∃ (c : Addr) (r : Row) (v : V) (a n : Int), vs = [v, .ref c] ∧ CA C H c r ∧ At H (.seq false [.int a, .int n]) v ∧ ∀ H', Same H H' → Q (.bl (pastB a n r.hs)) H'
theorem ok_past {f C : Addr} {fd : FuncData} (F : Fun K "in_past" "in_past" s_in_past f fd) (T : Txt K mg) (cc : ChgC K C) : FnOk P w K mg base CX0 1 f fd ["name", "change"] (sp_past C) := by
  refine F.ok sc_in_past (fun vs H Q E h => ?_) (fun cdv A outer s H vs Q E hr h => ?_)
  · obtain ⟨c, r, v, a, n, rfl, _⟩ := h
    rfl
  · obtain ⟨c, r, v, a, n, rfl, ⟨dx, vh, vc, vp, vq, e, ah, ac, ap, aq⟩, av, q⟩ := h
    refine ⟨_, (pss_cons (ps_asg (pv 0) (pg_tup rfl (pgs_cons (pg_name (i := 2) sc_in_past.nd rfl (Or.inl rfl)) (pgs_cons (pg_name (i := 3) sc_in_past.nd rfl (Or.inl rfl)) pgs_nil))))
        (pss_one (ps_ret (pe_and (pe_cmpR op_in_rng (pv 2) (pe_callTy cr_range1 (by rfl) T.n_range (by decide +kernel) (pa_cons (pe_callB call_lenD (by rfl) T.n_len (by decide +kernel) (pa_cons (pe_fld (pv 1) rfl) pa_nil)) pa_nil)) (by with_unfolding_all rfl)) (pe_one (pe_chain op_le op_le pe_int (pv 3) (pe_ix ix_D (pe_fld (pv 1) rfl) (pv 2) (fun _ _ => rfl)))))))), ?_⟩
    obtain ⟨p, xs, rfl, hp, ⟨_, _, rfl, rfl, _, _, rfl, rfl, rfl⟩, _⟩ := av
    refine ⟨_, rfl, p, _, rfl, SqT.of hp, rfl, ?_⟩
    refine ⟨_, _, rfl, _, _, rfl, rfl, ?_⟩
    refine ⟨_, rfl, _, rfl, c, C, dx, _, _, rfl, e, cc.cl, cc.nH, rfl, [], false, _, _, rfl, ah, _, rfl, fun pr hpr => ⟨a, pr, 0, _, rfl, rfl, upd_same, _, rfl, ?_⟩⟩
    have s1 := Same.new (o := .rng 0 ((r.hs.map D.int).length : Int)) hpr
    rw [List.length_map]
    refine ite_some (fun h1 => ?_) (fun h1 => ?_)
    · refine ⟨_, rfl, _, _, rfl, rfl, _, rfl, ?_⟩
      refine ite_some (fun h2 => ?_) (fun h2 => ?_)
      · rw [List.length_map] at s1
        refine ⟨_, rfl, c, C, dx, _, _, rfl, s1 _ _ e, cc.cl, cc.nH, rfl, _, rfl, [], false, _, a, rfl, At.same s1 _ _ ah, h1.1, by rw [List.length_map]; exact h1.2, fun d u hd hu => ?_⟩
        rw [List.getElem?_map] at hd
        obtain ⟨z, hz, rfl⟩ : ∃ z, r.hs[a.toNat]? = some z ∧ d = D.int z := by
          cases hz : r.hs[a.toNat]? with
          | none => rw [hz] at hd; cases hd
          | some z => rw [hz] at hd; exact ⟨z, rfl, (Option.some.inj hd).symm⟩
        obtain rfl : u = .int z := hu
        refine ⟨_, _, rfl, rfl, ?_⟩
        have := q _ s1
        rw [pastB, decide_eq_true h1, decide_eq_true h2, List.getD_eq_getElem?_getD, hz] at this
        exact this
      · rw [List.length_map] at s1
        have := q _ s1
        rw [pastB, decide_eq_true h1, decide_eq_false h2] at this
        exact this
    · rw [List.length_map] at s1
      have := q _ s1
      rw [pastB, decide_eq_false h1] at this
      exact this
end
end Kw
set_option Elab.async false
set_option linter.all false
set_option maxRecDepth 100000
set_option maxHeartbeats 16000000
namespace Kw
open PySem PySem.Spec PyProof.Rows L2
/-! ### the rows -/
def rowD (r : Row) : D := .seq true [.int r.au, .int r.nu, .seq true (r.hs.map D.int), r.cap, .seq true r.pub, .seq true r.parts]
/-- data that stood in an older heap -/
theorem ix_DG {X : Cx} : IxR X (fun x y H Q => ∃ (G : Hp) (l : Bool) (ds : List D) (i : Int), y = .int i ∧ Same G H ∧ At G (.seq l ds) x ∧ 0 ≤ i ∧ i < ds.length ∧ ∀ d u, ds[i.toNat]? = some d → At G d u → Q u H) :=
  IxR.imp ix_sq fun x y H Q h => by
    obtain ⟨G, l, ds, i, rfl, s, ⟨a, xs, rfl, ha, hx, hz⟩, h0, h1, q⟩ := h
    have e := hx.length
    obtain ⟨d, hd⟩ := some_at0 (l := ds) (i := i.toNat) (by omega)
    obtain ⟨u, hu, hA⟩ := hx.get hd
    exact ⟨a, xs, i, u, rfl, rfl, sq_of (s _ _ ha), atI_pos h0 hu, q d u hd hA⟩
theorem ix_row {X : Cx} : IxR X (fun x y H Q => ∃ (G : Hp) (r : Row), Same G H ∧ At G (rowD r) x ∧ ((y = .int 0 ∧ Q (.int r.au) H) ∨ (y = .int 1 ∧ Q (.int r.nu) H) ∨ (y = .int 2 ∧ ∀ u, At G (.seq true (r.hs.map D.int)) u → Q u H) ∨ (y = .int 3 ∧ ∀ u, At G r.cap u → Q u H) ∨
    (y = .int 4 ∧ ∀ u, At G (.seq true r.pub) u → Q u H) ∨ (y = .int 5 ∧ ∀ u, At G (.seq true r.parts) u → Q u H))) :=
  IxR.imp ix_DG fun x y H Q ⟨G, r, s, h, q⟩ => by
    rcases q with ⟨rfl, q⟩ | ⟨rfl, q⟩ | ⟨rfl, q⟩ | ⟨rfl, q⟩ | ⟨rfl, q⟩ | ⟨rfl, q⟩
    · exact ⟨G, true, _, 0, rfl, s, h, by decide, (by show (0 : Int) < 6; decide), fun d u hd hu => by
        cases (show some (D.int r.au) = some d from hd)
        rw [show u = .int r.au from hu]
        exact q⟩
    · exact ⟨G, true, _, 1, rfl, s, h, by decide, (by show (1 : Int) < 6; decide), fun d u hd hu => by
        cases (show some (D.int r.nu) = some d from hd)
        rw [show u = .int r.nu from hu]
        exact q⟩
    · exact ⟨G, true, _, 2, rfl, s, h, by decide, (by show (2 : Int) < 6; decide), fun d u hd hu => by
        cases (show some (D.seq true (r.hs.map D.int)) = some d from hd)
        exact q u hu⟩
    · exact ⟨G, true, _, 3, rfl, s, h, by decide, (by show (3 : Int) < 6; decide), fun d u hd hu => by
        cases (show some r.cap = some d from hd)
        exact q u hu⟩
    · exact ⟨G, true, _, 4, rfl, s, h, by decide, (by show (4 : Int) < 6; decide), fun d u hd hu => by
        cases (show some (D.seq true r.pub) = some d from hd)
        exact q u hu⟩
    · exact ⟨G, true, _, 5, rfl, s, h, by decide, (by show (5 : Int) < 6; decide), fun d u hd hu => by
        cases (show some (D.seq true r.parts) = some d from hd)
        exact q u hu⟩
theorem ix_rows {X : Cx} : IxR X (fun x y H Q => ∃ (G : Hp) (rs : List Row) (i : Int), Same G H ∧ At G (.seq true (rs.map rowD)) x ∧ y = .int i ∧ 0 ≤ i ∧ i < rs.length ∧ ∀ r u, rs[i.toNat]? = some r → At G (rowD r) u → Q u H) :=
  IxR.imp ix_DG fun x y H Q ⟨G, rs, i, s, h, e, h0, h1, q⟩ => ⟨G, true, _, i, e, s, h, h0, by rw [List.length_map]; exact h1, fun d u hd hu => by
    rw [List.getElem?_map] at hd
    cases hr : rs[i.toNat]? with
    | none => rw [hr] at hd; cases hd
    | some r =>
      rw [hr] at hd
      cases hd
      exact q r u hr hu⟩
structure RowOk (r : Row) : Prop where
  a0 : 0 ≤ r.au
  a1 : r.au < 6
  n0 : 1 ≤ r.nu
  hl : r.hs.length ≤ 6
  hb : ∀ z ∈ r.hs, 0 ≤ z ∧ z < 9973
  cd : r.cap.dep ≤ 1
  pd : ∀ d ∈ r.pub, d.dep ≤ 3
  pl : r.pub.length ≤ 4
  qd : ∀ d ∈ r.parts, d = .non ∨ ∃ ds, d = .seq false ds ∧ depL ds ≤ 2
  ql : r.parts.length ≤ 8
structure RowsOk (rs : List Row) : Prop where
  len : rs.length ≤ 150
  all : ∀ r ∈ rs, RowOk r
  ne : rs.Pairwise fun r t => ¬ (r.au = t.au ∧ r.nu = t.nu)
/-- the loop's state: the rows' list l, the numbers' list m -/
structure RI (l m : Addr) (H0 H : Hp) (zs : List V) (nums : List Int) (rs : List Row) : Prop where
  hl : H l = some (.lst zs)
  hm : H m = some (.lst (nums.map V.int))
  ne : l ≠ m
  s : Same H0 (hidS [l, m] H)
  at' : AtL (hidS [l, m] H) (rs.map rowD) zs
section
variable {l m p : Addr} {H0 H : Hp} {zs : List V} {nums : List Int} {rs : List Row}
theorem RI.nin (R : RI l m H0 H zs nums rs) (hp : H p = none) : p ∉ [l, m] := by
  intro h
  rcases List.mem_cons.mp h with z | z
  · rw [z, R.hl] at hp; cases hp
  · rw [List.mem_singleton.mp z, R.hm] at hp; cases hp
theorem RI.same {H' : Hp} (R : RI l m H0 H zs nums rs) (s : Same H H') : RI l m H0 H' zs nums rs :=
  ⟨s _ _ R.hl, s _ _ R.hm, R.ne, R.s.trans (Same.hidS _ s), AtL.same (Same.hidS _ s) _ _ R.at'⟩
theorem RI.seq (R : RI l m H0 H zs nums rs) (hp : H p = none) (b : Bool) (ds : List D) {vs : List V} (h : AtL (hidS [l, m] H) ds vs) (len : ds.length ≤ 16000000) :
    RI l m H0 (upd H p (seqO b vs)) zs nums rs ∧ At (hidS [l, m] (upd H p (seqO b vs))) (.seq b ds) (.ref p) ∧ Same H (upd H p (seqO b vs)) := by
  have s := Same.new (o := seqO b vs) hp
  refine ⟨R.same s, ⟨p, vs, rfl, ?_, AtL.same (Same.hidS _ s) _ _ h, len⟩, s⟩
  rw [hidS_upd (R.nin hp)]
  exact upd_same
theorem RI.old {K : PySem.W.Frag} {a : Addr} {xs : List V} (R : RI l m H0 H zs nums rs) (h : SqL K H0 a xs) : SqL K H a xs := (R.s.trans fun _ _ e => (hidS_some e).1).seq h
theorem RI.lst (R : RI l m H0 H zs nums rs) (hp : H p = none) {ds : List D} {vs : List V} (h : AtL (hidS [l, m] H) ds vs) (len : ds.length ≤ 16000000) :
    RI l m H0 (upd H p (.lst vs)) zs nums rs ∧ At (hidS [l, m] (upd H p (.lst vs))) (.seq true ds) (.ref p) ∧ Same H (upd H p (.lst vs)) := R.seq hp true ds h len
theorem RI.tup (R : RI l m H0 H zs nums rs) (hp : H p = none) {ds : List D} {vs : List V} (h : AtL (hidS [l, m] H) ds vs) (len : ds.length ≤ 16000000) :
    RI l m H0 (upd H p (.tup vs)) zs nums rs ∧ At (hidS [l, m] (upd H p (.tup vs))) (.seq false ds) (.ref p) ∧ Same H (upd H p (.tup vs)) := R.seq hp false ds h len
theorem RI.inS (R : RI l m H0 H zs nums rs) : ∀ x ∈ [l, m], H x ≠ none := fun x hx z => R.nin z hx
/-- a number is set -/
theorem RI.num (R : RI l m H0 H zs nums rs) (ns : List Int) : RI l m H0 (upd H m (.lst (ns.map V.int))) zs ns rs := by
  have e : hidS [l, m] (upd H m (.lst (ns.map V.int))) = hidS [l, m] H := by
    show hide l (hide m (upd H m _)) = hide l (hide m H)
    rw [hide_upd_self]
  refine ⟨?_, upd_same, R.ne, by rw [e]; exact R.s, by rw [e]; exact R.at'⟩
  rw [upd_ne R.ne]
  exact R.hl
/-- a row more -/
theorem RI.row {v : V} {r : Row} (R : RI l m H0 H zs nums rs) (h : At (hidS [l, m] H) (rowD r) v) : RI l m H0 (upd H l (.lst (zs ++ [v]))) (zs ++ [v]) nums (rs ++ [r]) := by
  have e : hidS [l, m] (upd H l (.lst (zs ++ [v]))) = hidS [l, m] H := by
    show hide l (hide m (upd H l _)) = hide l (hide m H)
    rw [hide_upd_ne R.ne, hide_upd_self]
  refine ⟨upd_same, ?_, R.ne, by rw [e]; exact R.s, ?_⟩
  · rw [upd_ne R.ne.symm]
    exact R.hm
  · rw [e, List.map_append]
    exact AtL.append R.at' (AtL.one h)
end
theorem up {S : List Addr} {H H' : Hp} {d : D} {v : V} (h : At (hidS S H) d v) (s : Same H H') : At (hidS S H') d v := At.same (Same.hidS S s) d v h
theorem upL {S : List Addr} {H H' : Hp} {d : List D} {v : List V} (h : AtL (hidS S H) d v) (s : Same H H') : AtL (hidS S H') d v := AtL.same (Same.hidS S s) d v h
/-- the numbers are at least as great as what was given -/
def NumsOk (nums : List Int) (rs : List Row) : Prop := nums.length = 6 ∧ (∀ z ∈ nums, 0 ≤ z) ∧ ∀ r ∈ rs, r.nu ≤ nums.getD r.au.toNat 0
theorem NumsOk.step {nums : List Int} {rs : List Row} {r : Row} (h : NumsOk nums rs) (ok : RowsOk rs) (ro : RowOk r) (hz : nums.getD r.au.toNat 0 < r.nu) (len : rs.length < 150) :
    NumsOk (nums.set r.au.toNat r.nu) (rs ++ [r]) ∧ RowsOk (rs ++ [r]) := by
  obtain ⟨h1, h2, h3⟩ := h
  have la : r.au.toNat < nums.length := by
    have := ro.a0
    have := ro.a1
    omega
  have g : ∀ t ∈ rs ++ [r], RowOk t := all_snoc ok.all ro
  refine ⟨⟨by rw [List.length_set]; exact h1, all_set h2 (by have := ro.n0; omega), fun t ht => ?_⟩, ⟨by rw [List.length_append]; show rs.length + 1 ≤ 150; omega, g, ?_⟩⟩
  · rcases List.mem_append.mp ht with q | q
    · by_cases c : t.au.toNat = r.au.toNat
      · rw [c, List.getD_eq_getElem?_getD, List.getElem?_set_self la]
        have := h3 t q
        rw [c] at this
        show t.nu ≤ r.nu
        omega
      · rw [List.getD_eq_getElem?_getD, List.getElem?_set_ne (fun z => c z.symm), ← List.getD_eq_getElem?_getD]
        exact h3 t q
    · rw [List.mem_singleton.mp q, List.getD_eq_getElem?_getD, List.getElem?_set_self la]
      exact Int.le_refl _
  · rw [List.pairwise_append]
    refine ⟨ok.ne, List.pairwise_singleton _ _, fun t ht u hu => ?_⟩
    rw [List.mem_singleton.mp hu]
    rintro ⟨e1, e2⟩
    have := h3 t ht
    rw [e1] at this
    omega
def sp_rows (K : PySem.W.Frag) : Sp := fun vs H Q _ => ∃ (a : Addr) (ds : List Int), vs = [.ref a] ∧ SqL K H a (ds.map V.int) ∧ Dr ds ∧ ∀ H' v rs, Same H H' → At H' (.seq true (rs.map rowD)) v → RowsOk rs → Q v H'
section
variable {P : Program} {w : World} {K : PySem.W.Frag} {mg : Str → Option Value} {base : Heap}
theorem ok_rows {f : Addr} {fd : FuncData} (F : Fun K "_law_rows" "_law_rows" s_law_rows f fd) (T : Txt K mg) (c_law_at : CalX P w K mg base CX0 2 "_law_at" (sp_at K)) : FnOk P w K mg base CX0 3 f fd ["draws"] (sp_rows K) := by
  refine F.ok sc_law_rows (fun vs H Q E h => ?_) (fun cdv A outer s H vs Q E hr h => ?_)
  · obtain ⟨a, ds, rfl, _⟩ := h
    rfl
  · obtain ⟨a, ds, rfl, hS, hd, q⟩ := h
    refine ⟨_, (pss_cons (ps_set (i := 1) sc_law_rows.nd rfl (Or.inl rfl) (pe_op op_mod (pe_cx c_law_at (hr.mono (by omega)) (by rfl) pass0 (pa_cons (pv 0) (pa_cons pe_int pa_nil))) pe_int))
        (C8.pss_cut (ps_if (pt_cmpR op_eq (pe_op op_mod (pe_cx c_law_at (hr.mono (by omega)) (by rfl) pass0 (pa_cons (pv 0) (pa_cons pe_int pa_nil))) pe_int) pe_int (nomark _)) (pss_one (ps_set (i := 1) sc_law_rows.nd rfl (Or.inl rfl) (pe_ix ix_listA (pe_lst (pa_cons pe_int (pa_cons pe_int pa_nil))) (pe_op op_mod (pe_op op_fdiv (pe_cx c_law_at (hr.mono (by omega)) (by rfl) pass0 (pa_cons (pv 0) (pa_cons pe_int pa_nil))) pe_int) pe_int) (fun _ _ => rfl)))) pss_nil)
        (pss_cons (ps_set (i := 2) sc_law_rows.nd rfl (Or.inl rfl) (pe_op op_add pe_int (pe_op op_mod (pe_cx c_law_at (hr.mono (by omega)) (by rfl) pass0 (pa_cons (pv 0) (pa_cons pe_int pa_nil))) pe_int)))
        (pss_cons (ps_set (i := 3) sc_law_rows.nd rfl (Or.inr rfl) (pe_ix ix_listA (pe_lst (pa_cons pe_int (pa_cons pe_int (pa_cons pe_int pa_nil)))) (pe_op op_mod (pe_cx c_law_at (hr.mono (by omega)) (by rfl) pass0 (pa_cons (pv 0) (pa_cons pe_int pa_nil))) pe_int) (fun _ _ => rfl)))
        (pss_cons (ps_set (i := 4) sc_law_rows.nd rfl (Or.inl rfl) (pe_lst pa_nil))
        (pss_cons (ps_set (i := 5) sc_law_rows.nd rfl (Or.inl rfl) (pe_lst (pa_cons pe_int (pa_cons pe_int (pa_cons pe_int (pa_cons pe_int (pa_cons pe_int (pa_cons pe_int pa_nil))))))))
        (pss_cons (ps_for PassesOwn.never rfl (pi_range1 (by rfl) T.n_range (pa_cons (pv 1) pa_nil)) (pg_name (i := 6) sc_law_rows.nd rfl (Or.inr rfl)) (pss_cons (ps_set (i := 7) sc_law_rows.nd rfl (Or.inl rfl) (pe_op op_mod (pe_cx c_law_at (hr.mono (by omega)) (by rfl) pass0 (pa_cons (pv 0) (pa_cons (pe_op op_add pe_int (pe_op op_mul pe_int (pv 6))) pa_nil))) (pv 2)))
        (pss_cons (ps_asg (pe_op op_add (pe_op op_add (pe_ix ix_listA (pv 5) (pv 7) (fun _ _ => rfl)) pe_int) (pe_op op_fdiv (pe_cx c_law_at (hr.mono (by omega)) (by rfl) pass0 (pa_cons (pv 0) (pa_cons (pe_op op_add pe_int (pe_op op_mul pe_int (pv 6))) pa_nil))) pe_int)) (pg_sub (pv 5) (pv 7) set_list))
        (pss_cons (ps_setLc (i := 8) (own := [("j", 14)]) (g := gName 14) (te := tFr _) rfl sc_law_rows.nd rfl rfl (sw_true rfl rfl rfl (by decide +kernel)) (pi_range1 (by rfl) T.n_range (pa_cons (pv 2) pa_nil)) (blkOk_by (own := [("j", 14)]) (N := N_law_rows) (sc := defScope s_law_rows) (by decide +kernel)) (fun _ _ _ _ _ => pg_name (i := 14) sc_law_rows.nd rfl (Or.inl rfl)) (fun _ _ _ _ _ => pts_nil) (fun _ _ _ _ _ => (pe_fr (pe_op op_mod (pe_cx c_law_at (hr.mono (by omega)) (by rfl) pass0 (pa_cons (pv 0) (pa_cons (pe_op op_add (pe_op op_add pe_int (pe_op op_mul pe_int (pv 6))) (pv 14)) pa_nil))) (pv 3)))))
        (pss_cons (ps_set (i := 9) sc_law_rows.nd rfl (Or.inl rfl) (pe_ix ix_listA (pe_lst (pa_cons pe_non (pa_cons (pe_tup (pa_cons pe_int (pa_cons (pe_op op_add pe_int (pe_op op_mod (pe_cx c_law_at (hr.mono (by omega)) (by rfl) pass0 (pa_cons (pv 0) (pa_cons (pe_op op_add pe_int (pe_op op_mul pe_int (pv 6))) pa_nil))) pe_int)) (pa_cons pe_int pa_nil)))) pa_nil))) (pe_op op_mod (pe_op op_fdiv (pe_cx c_law_at (hr.mono (by omega)) (by rfl) pass0 (pa_cons (pv 0) (pa_cons (pe_op op_add pe_int (pe_op op_mul pe_int (pv 6))) pa_nil))) pe_int) pe_int) (fun _ _ => rfl)))
        (pss_cons (ps_set (i := 10) sc_law_rows.nd rfl (Or.inr rfl) (pe_cx c_law_at (hr.mono (by omega)) (by rfl) pass0 (pa_cons (pv 0) (pa_cons (pe_op op_add pe_int (pe_op op_mul pe_int (pv 6))) pa_nil))))
        (pss_cons (ps_set (i := 11) sc_law_rows.nd rfl (Or.inl rfl) (pe_tup (pa_cons pe_str (pa_cons (pe_op op_mod (pv 10) pe_int) (pa_cons (pe_callTy call_tuD (by rfl) T.n_tuple (by decide +kernel) (pa_cons (pe_lc (own := [("j", 14)]) (g := gName 14) (te := tFr _) (by rfl) sc_law_rows.nd (pi_range1 (by rfl) T.n_range (pa_cons pe_int pa_nil)) (blkOk_by (own := [("j", 14)]) (N := N_law_rows) (sc := defScope s_law_rows) (by decide +kernel)) (fun _ _ _ _ _ => pg_name (i := 14) sc_law_rows.nd rfl (Or.inl rfl)) (fun _ _ _ _ _ => pts_nil) (fun _ _ _ _ _ => (pe_fr (pe_tup (pa_cons pe_bl (pa_cons (pe_cmpR op_eq (pe_op op_mod (pv 10) pe_int) pe_int (nomark _)) (pa_cons pe_bl pa_nil))))))) pa_nil)) pa_nil)))))
        (pss_cons (ps_set (i := 12) sc_law_rows.nd rfl (Or.inl rfl) (pe_slice sl_list (pe_slice sl_list (pe_lst (pa_cons (pe_tup (pa_cons pe_str pa_nil)) (pa_cons (pe_tup (pa_cons pe_str (pa_cons (pe_tup (pa_cons pe_int (pa_cons pe_int (pa_cons (pv 6) pa_nil)))) pa_nil))) (pa_cons (pe_tup (pa_cons pe_str (pa_cons pe_non pa_nil))) (pa_cons (pv 11) pa_nil))))) (po_some (pe_op op_mod (pe_op op_fdiv (pv 10) pe_int) pe_int)) po_none) po_none (po_some (pe_op op_mod (pe_op op_fdiv (pv 10) pe_int) pe_int))))
        (pss_cons (ps_set (i := 13) sc_law_rows.nd rfl (Or.inl rfl) (pe_lst (pa_cons pe_non (pa_cons (pe_tup pa_nil) (pa_cons (pe_tup (pa_cons (pe_tup (pa_cons pe_str (pa_cons pe_str pa_nil))) pa_nil)) (pa_cons (pe_tup (pa_cons (pe_tup (pa_cons pe_str (pa_cons (pe_tup (pa_cons pe_int (pa_cons pe_int pa_nil))) pa_nil))) (pa_cons (pe_tup (pa_cons pe_str (pa_cons (pe_tup (pa_cons pe_int (pa_cons pe_int (pa_cons pe_int pa_nil)))) pa_nil))) pa_nil))) pa_nil))))))
        (pss_one (ps_expr (pe_bm PySem.F.plainAttrs_list PySem.F.slot_list_append PySem.F.type_list_append mt_append (pv 4) (pa_cons (pe_lst (pa_cons (pv 7) (pa_cons (pe_ix ix_listA (pv 5) (pv 7) (fun _ _ => rfl)) (pa_cons (pv 8) (pa_cons (pv 9) (pa_cons (pv 12) (pa_cons (pe_op op_cat (pe_slice sl_list (pv 13) (po_some (pe_op op_mod (pe_op op_fdiv (pv 10) pe_int) pe_int)) po_none) (pe_slice sl_list (pv 13) po_none (po_some (pe_op op_mod (pe_op op_fdiv (pv 10) pe_int) pe_int)))) pa_nil))))))) pa_nil)))))))))))))
        (pss_one (ps_ret (pv 4)))))))))), ?_⟩
    -- count
    refine ⟨_, rfl, a, ds, 0, rfl, hS, hd, by decide, fun e0 e00 e01 => ⟨_, _, rfl, rfl, (by show (0 : Int) < 13; decide), ?_⟩⟩
    refine ⟨fun σ H' => ∃ c : Int, 0 ≤ c ∧ c ≤ 150 ∧ σ = [some (.ref a), some (.int c), none, none, none, none, none, none, none, none, none, none, none, none, none] ∧ Same H H', ⟨_, rfl, a, ds, 1, rfl, hS, hd, by decide, fun e1 e10 e11 => ⟨_, _, rfl, rfl, (by show (0 : Int) < 6; decide), rfl, _, rfl, ?_⟩⟩, ?_⟩
    · refine int_eq (fun c => ?_) (fun c => ?_)
      · refine ⟨by decide, fun p hp => ?_⟩
        refine ⟨_, rfl, a, ds, 1, rfl, (Same.new hp).seq hS, hd, by decide, fun e2 e20 e21 => ⟨_, _, rfl, rfl, ⟨by decide, by decide⟩, _, _, rfl, rfl, (by show (0 : Int) < 2; decide), ?_⟩⟩
        have b0 : 0 ≤ e2 / 6 % 2 := Int.emod_nonneg _ (by decide)
        have b1 : e2 / 6 % 2 < 2 := Int.emod_lt_of_pos _ (by decide)
        refine ⟨p, _, e2 / 6 % 2, rfl, rfl, SqL.of upd_same, b0, b1, fun v hv => ?_⟩
        have : e2 / 6 % 2 = 0 ∨ e2 / 6 % 2 = 1 := by omega
        rcases this with z | z
        · rw [z] at hv
          obtain rfl : V.int 60 = v := Option.some.inj hv
          exact ⟨60, by decide, by decide, rfl, Same.new hp⟩
        · rw [z] at hv
          obtain rfl : V.int 150 = v := Option.some.inj hv
          exact ⟨150, by decide, by decide, rfl, Same.new hp⟩
      · exact ⟨_, Int.emod_nonneg _ (by decide), by have := Int.emod_lt_of_pos e0 (b := 13) (by decide); omega, rfl, Same.refl _⟩
    rintro σ H1 ⟨cnt, c0, c1, rfl, s1⟩
    -- size, limit
    refine ⟨_, rfl, a, ds, 2, rfl, s1.seq hS, hd, by decide, fun e2 e20 e21 => ⟨_, _, rfl, rfl, (by show (0 : Int) < 6; decide), _, _, rfl, rfl, ?_⟩⟩
    have z0 : 0 ≤ e2 % 6 := Int.emod_nonneg _ (by decide)
    have z1 : e2 % 6 < 6 := Int.emod_lt_of_pos _ (by decide)
    generalize e2 % 6 = e2' at z0 z1 ⊢
    refine ⟨(by show 3 ≤ sizeLine; decide), fun p hp => ?_⟩
    have s2 := s1.trans (Same.new (o := .lst [.int 4, .int 2, .int 9973]) hp)
    refine ⟨_, rfl, a, ds, 3, rfl, s2.seq hS, hd, by decide, fun e3 e30 e31 => ⟨_, _, rfl, rfl, (by show (0 : Int) < 3; decide), ?_⟩⟩
    have b0 : 0 ≤ e3 % 3 := Int.emod_nonneg _ (by decide)
    have b1 : e3 % 3 < 3 := Int.emod_lt_of_pos _ (by decide)
    refine ⟨p, _, e3 % 3, rfl, rfl, SqL.of upd_same, b0, b1, fun v hv => ?_⟩
    obtain ⟨lim, rfl, l0, l1⟩ : ∃ lim : Int, v = .int lim ∧ 0 < lim ∧ lim ≤ 9973 := by
      have : e3 % 3 = 0 ∨ e3 % 3 = 1 ∨ e3 % 3 = 2 := by omega
      rcases this with z | z | z
      · rw [z] at hv
        exact ⟨4, (Option.some.inj hv).symm, by decide, by decide⟩
      · rw [z] at hv
        exact ⟨2, (Option.some.inj hv).symm, by decide, by decide⟩
      · rw [z] at hv
        exact ⟨9973, (Option.some.inj hv).symm, by decide, by decide⟩
    generalize upd H1 p _ = H2 at s2 ⊢
    clear hv hp
    -- the two lists
    refine ⟨Nat.zero_le _, fun l hl => ⟨(by show 6 ≤ sizeLine; decide), fun m hm => ?_⟩⟩
    have lm : l ≠ m := fun z => by
      rw [← z, upd_same] at hm
      cases hm
    have R0 : RI l m H2 (upd (upd H2 l (.lst [])) m (.lst ([0, 0, 0, 0, 0, 0].map V.int))) [] [0, 0, 0, 0, 0, 0] [] := by
      rw [upd_ne lm.symm] at hm
      refine ⟨by rw [upd_ne lm]; exact upd_same, upd_same, lm, ?_, AtL.nil⟩
      show Same H2 (hide l (hide m (upd (upd H2 l _) m _)))
      have f : (upd H2 l (.lst [])) m = none := by rw [upd_ne lm.symm]; exact hm
      rw [hide_upd f, hide_upd hl]
      exact Same.refl _
    have hS2 := s2.seq hS
    have av : ∀ {b : Int} (k : Nat), 0 ≤ b → 0 ≤ b + 9 * (0 + (k : Int)) := fun k h => by omega
    refine ⟨_, rfl, _, rfl, by omega, by omega, for_range (lo := 0) (n := cnt.toNat) (fun k σ H' => ∃ (zs : List V) (nums : List Int) (rs : List Row) (v6 v7 v8 v9 v10 v11 v12 v13 : Option V), σ = [some (.ref a), some (.int cnt), some (.int (1 + e2')), some (.int lim), some (.ref l), some (.ref m), v6, v7, v8, v9, v10, v11, v12, v13, none] ∧ RI l m H2 H' zs nums rs ∧ NumsOk nums rs ∧ RowsOk rs ∧ rs.length = k)
      ⟨[], [0, 0, 0, 0, 0, 0], [], none, none, none, none, none, none, none, none, rfl, R0, ⟨rfl, (by decide), fun r h => (by cases h)⟩, ⟨(by decide), fun r h => (by cases h), List.Pairwise.nil⟩, rfl⟩ ?_ ?_⟩
    · rintro k σ H3 hk ⟨zs, nums, rs, v6, v7, v8, v9, v10, v11, v12, v13, rfl, R3, N, ok, lk⟩
      -- author
      refine ⟨_, rfl, _, rfl, _, _, rfl, rfl, .inl ⟨by decide, by decide⟩, _, _, rfl, rfl, a, ds, _, rfl, R3.old hS2, hd, by omega, fun e4 e40 e41 => ⟨_, rfl, _, _, rfl, rfl, (by show (0 : Int) < 1 + e2'; omega), ?_⟩⟩
      have u0 : 0 ≤ e4 % (1 + e2') := Int.emod_nonneg _ (by omega)
      have u1 : e4 % (1 + e2') < 1 + e2' := Int.emod_lt_of_pos _ (by omega)
      obtain ⟨old, hold⟩ := some_at (l := nums) (i := (e4 % (1 + e2')).toNat) (by rw [N.1]; omega)
      have old0 := N.2.1 _ (List.mem_of_getElem? hold)
      -- its number
      refine ⟨_, rfl, _, rfl, m, _, _, rfl, rfl, SqL.of R3.hm, u0, by rw [List.length_map, N.1]; omega, fun v hv => ?_⟩
      rw [at_int hold] at hv
      obtain rfl := (Option.some.inj hv).symm
      refine ⟨_, _, rfl, rfl, _, rfl, _, rfl, _, _, rfl, rfl, .inl ⟨by decide, by decide⟩, _, _, rfl, rfl, a, ds, _, rfl, R3.old hS2, hd, by omega, fun e5 e50 e51 => ⟨_, _, rfl, rfl, ⟨by decide, by decide⟩, _, _, rfl, rfl, _, rfl, _, rfl, m, _, _, _, rfl, rfl, R3.hm, ixN_pos u0 (by rw [List.length_map, N.1]; omega), ?_⟩⟩
      rw [show (fun i j => V.int (i + j)) ((fun i j : Int => i + j) old 1) (e5 / 997) = V.int (old + 1 + e5 / 997) from rfl] 
      rw [← List.map_set]
      have R4 := R3.num (nums.set (e4 % (1 + e2')).toNat (old + 1 + e5 / 997))
      generalize upd H3 m _ = H4 at R4 ⊢
      -- heard
      refine ⟨_, rfl, _, rfl, by omega, by omega, fun Dh hD => ?_⟩
      refine lc_rel walk_range hD (by omega) (fun i F v => ∃ z : Int, v = .int z ∧ (0 ≤ z ∧ z < 9973)) (fun i F F' v s h => h) (fun H' s => trivial) (fun i y F zs' H' hi sF hF hy => ⟨hy.1, fun Q kq => ?_⟩) fun F zs' sF hF ez hr => ?_
      · obtain rfl := hy.2
        refine ⟨_, rfl, _, rfl, _, _, rfl, rfl, .inl ⟨by decide, by decide⟩, _, _, rfl, rfl, _, rfl, _, _, rfl, rfl, a, ds, _, rfl, sF.seq (R4.old hS2), hd, by omega, fun e6 _ _ => ⟨_, rfl, _, _, rfl, rfl, l0, kq _ _ (Same.refl _) ⟨_, rfl, Int.emod_nonneg _ (by omega), ?_⟩⟩⟩
        have := Int.emod_lt_of_pos e6 l0
        omega
      obtain ⟨hs, rfl, hsl, hsb⟩ := ints_of hr
      rw [List.length_map] at ez
      obtain ⟨R6, a6, s6⟩ := (R4.same sF).lst hF (ds := hs.map D.int) AtL.ofInts (by rw [List.length_map]; omega)
      generalize upd F Dh _ = H6 at R6 a6 s6 ⊢
      -- capability
      refine ⟨_, rfl, _, rfl, _, _, rfl, rfl, .inl ⟨by decide, by decide⟩, _, _, rfl, rfl, a, ds, _, rfl, R6.old hS2, hd, by omega, fun e6 e60 e61 => ⟨_, _, rfl, rfl, (by show (0 : Int) < 5; decide), _, _, rfl, rfl, (by show 3 ≤ sizeLine; decide), fun p1 h1 => ?_⟩⟩
      obtain ⟨R7, a7, s7⟩ := R6.tup h1 (ds := [.int 0, .int (1 + e6 % 5), .int 0]) (AtL.cons rfl (AtL.cons rfl (AtL.one rfl))) (by show 3 ≤ 16000000; decide)
      generalize upd H6 p1 _ = H7 at R7 a7 s7 ⊢
      refine ⟨(by show 2 ≤ sizeLine; decide), fun p2 h2 => ?_⟩
      obtain ⟨R8, a8, s8⟩ := R7.lst h2 (ds := [.non, .seq false [.int 0, .int (1 + e6 % 5), .int 0]]) (AtL.cons rfl (AtL.one a7)) (by show 2 ≤ 16000000; decide)
      have g8 : (upd H7 p2 (.lst [.non, .ref p1])) p2 = some (.lst [.non, .ref p1]) := upd_same
      generalize upd H7 p2 _ = H8 at R8 a8 s8 g8 ⊢
      refine ⟨_, rfl, _, rfl, _, _, rfl, rfl, .inl ⟨by decide, by decide⟩, _, _, rfl, rfl, a, ds, _, rfl, R8.old hS2, hd, by omega, fun e7 e70 e71 => ⟨_, _, rfl, rfl, ⟨by decide, by decide⟩, _, _, rfl, rfl, (by show (0 : Int) < 2; decide), p2, _, e7 / 5 % 2, rfl, rfl, SqL.of g8, Int.emod_nonneg _ (by decide), Int.emod_lt_of_pos _ (by decide), fun v hv => ?_⟩⟩
      obtain ⟨cap, ac, cd⟩ : ∃ cap : D, At (hidS [l, m] H8) cap v ∧ cap.dep ≤ 1 := by
        have y0 : 0 ≤ e7 / 5 % 2 := Int.emod_nonneg _ (by decide)
        have y1 : e7 / 5 % 2 < 2 := Int.emod_lt_of_pos _ (by decide)
        have : e7 / 5 % 2 = 0 ∨ e7 / 5 % 2 = 1 := by omega
        rcases this with z | z
        · rw [z] at hv
          obtain rfl : V.non = v := Option.some.inj hv
          exact ⟨.non, rfl, Nat.zero_le _⟩
        · rw [z] at hv
          obtain rfl : V.ref p1 = v := Option.some.inj hv
          exact ⟨_, up a7 s8, by simp [D.dep, depL]⟩
      -- pick
      refine ⟨_, rfl, _, rfl, _, _, rfl, rfl, .inl ⟨by decide, by decide⟩, _, _, rfl, rfl, a, ds, _, rfl, R8.old hS2, hd, by omega, fun pk pk0 pk1 => ?_⟩
      -- grant
      refine ⟨_, rfl, _, _, rfl, rfl, (by show (0 : Int) < 6; decide), 4, rfl, by decide, by decide, fun D2 hD2 => ?_⟩
      refine lc_rel walk_range hD2 (by decide) (fun i F v => At (hidS [l, m] F) (.seq false [.bl true, .bl (decide (V.int (pk % 2) = V.int 0)), .bl false]) v) (fun i F F' v s h => up h s) (fun H' s => trivial) (fun i y F zs' H' hi sF hF hy => ⟨hy.1, fun Q kq => ?_⟩) fun F zs' sF2 hF2 ez2 hr2 => ?_
      · refine ⟨_, rfl, _, _, rfl, rfl, (by show (0 : Int) < 2; decide), rfl, (by show 3 ≤ sizeLine; decide), fun p hp => ?_⟩
        obtain ⟨_, aa, ss⟩ := (R8.same sF).tup hp (ds := [.bl true, .bl (decide (V.int (pk % 2) = V.int 0)), .bl false]) (AtL.cons rfl (AtL.cons rfl (AtL.one rfl))) (by show 3 ≤ 16000000; decide)
        exact kq _ _ ss aa
      generalize hT : D.seq false [.bl true, .bl (decide (V.int (pk % 2) = V.int 0)), .bl false] = tD at hr2
      have dT : tD.dep = 1 := by rw [← hT]; simp [D.dep, depL]
      obtain ⟨R10, a10, s10⟩ := (R8.same sF2).lst hF2 (ds := List.replicate 4 tD) (AtL.of (by rw [ez2]; rfl) fun i d v hd hv => by
        have := List.getElem?_replicate (n := 4) (a := tD) (i := i)
        rw [this] at hd
        by_cases c : i < 4
        · rw [if_pos c] at hd
          cases hd
          exact hr2 i v hv
        · rw [if_neg c] at hd
          cases hd) (by show 4 ≤ 16000000; decide)
      replace s10 := sF2.trans s10
      generalize upd F D2 _ = H10 at R10 a10 s10 ⊢
      refine ⟨[l, m], true, _, _, rfl, R10.inS, a10, fun H11 v11 s11 a11 => ⟨(by show 3 ≤ sizeLine; decide), fun p11 h11 => ?_⟩⟩
      replace s11 := s10.trans s11
      obtain ⟨R12, a12, s12⟩ := (R8.same s11).tup h11 (ds := [.str "grant", .int (pk % 6), .seq false (List.replicate 4 tD)]) (AtL.cons rfl (AtL.cons rfl (AtL.one a11))) (by show 3 ≤ 16000000; decide)
      replace s12 := s11.trans s12
      generalize upd H11 p11 _ = H12 at R12 a12 s12 ⊢
      -- publics
      refine ⟨(by show 1 ≤ sizeLine; decide), fun q1 g1 => ?_⟩
      obtain ⟨R13, b1', t1⟩ := R12.tup g1 (ds := [.str "seal"]) (AtL.one rfl) (by show 1 ≤ 16000000; decide)
      generalize upd H12 q1 _ = H13 at R13 b1' t1 ⊢
      refine ⟨_, rfl, (by show 3 ≤ sizeLine; decide), fun q2 g2 => ?_⟩
      obtain ⟨R14, b2', t2⟩ := R13.tup g2 (ds := [.int 0, .int 1, .int (0 + (k : Int))]) (AtL.cons rfl (AtL.cons rfl (AtL.one rfl))) (by show 3 ≤ 16000000; decide)
      generalize upd H13 q2 _ = H14 at R14 b2' t2 ⊢
      refine ⟨(by show 2 ≤ sizeLine; decide), fun q3 g3 => ?_⟩
      obtain ⟨R15, b3', t3⟩ := R14.tup g3 (ds := [.str "revoke", .seq false [.int 0, .int 1, .int (0 + (k : Int))]]) (AtL.cons rfl (AtL.one b2')) (by show 2 ≤ 16000000; decide)
      generalize upd H14 q3 _ = H15 at R15 b3' t3 ⊢
      refine ⟨(by show 2 ≤ sizeLine; decide), fun q4 g4 => ?_⟩
      obtain ⟨R16, b4', t4⟩ := R15.tup g4 (ds := [.str "revoke", .non]) (AtL.cons rfl (AtL.one rfl)) (by show 2 ≤ 16000000; decide)
      generalize upd H15 q4 _ = H16 at R16 b4' t4 ⊢
      refine ⟨_, rfl, (by show 4 ≤ sizeLine; decide), fun q5 g5 => ?_⟩
      have L5 : AtL (hidS [l, m] H16) [.seq false [.str "seal"], .seq false [.str "revoke", .seq false [.int 0, .int 1, .int (0 + (k : Int))]], .seq false [.str "revoke", .non], .seq false [.str "grant", .int (pk % 6), .seq false (List.replicate 4 tD)]] [.ref q1, .ref q3, .ref q4, .ref p11] :=
        AtL.cons (up b1' (t2.trans (t3.trans t4))) (AtL.cons (up b3' t4) (AtL.cons b4' (AtL.one (up a12 (t1.trans (t2.trans (t3.trans t4)))))))
      have P5 : ∀ d ∈ [D.seq false [.str "seal"], .seq false [.str "revoke", .seq false [.int 0, .int 1, .int (0 + (k : Int))]], .seq false [.str "revoke", .non], .seq false [.str "grant", .int (pk % 6), .seq false (List.replicate 4 tD)]], d.dep ≤ 3 := by
        intro d hd
        simp only [List.mem_cons, List.not_mem_nil, or_false] at hd
        rcases hd with rfl | rfl | rfl | rfl
        · simp [D.dep, depL]
        · simp [D.dep, depL]
        · simp [D.dep, depL]
        · simp [D.dep, depL, List.replicate, dT]
      generalize hpb : [D.seq false [.str "seal"], .seq false [.str "revoke", .seq false [.int 0, .int 1, .int (0 + (k : Int))]], .seq false [.str "revoke", .non], .seq false [.str "grant", .int (pk % 6), .seq false (List.replicate 4 tD)]] = pb at L5 P5
      have lpb : pb.length = 4 := by rw [← hpb]; rfl
      obtain ⟨R17, b5', t5⟩ := R16.lst g5 L5 (by omega)
      replace L5 := upL L5 t5
      have w5 : (upd H16 q5 (.lst [.ref q1, .ref q3, .ref q4, .ref p11])) q5 = some (.lst [.ref q1, .ref q3, .ref q4, .ref p11]) := upd_same
      generalize upd H16 q5 _ = H17 at R17 b5' t5 L5 w5 ⊢
      refine ⟨_, rfl, _, _, rfl, rfl, ⟨by decide, by decide⟩, _, _, rfl, rfl, (by show (0 : Int) < 2; decide), _, rfl, q5, _, rfl, SqL.of w5, fun q6 g6 => ?_⟩
      obtain ⟨R18, b6', t6⟩ := R17.lst g6 (L5.cut (some (pk / 40 % 2)) none) (Nat.le_trans cutD_len (by omega))
      have L6 := upL (L5.cut (some (pk / 40 % 2)) none) t6
      have P6 : ∀ d ∈ cutD pb (some (pk / 40 % 2)) none, d.dep ≤ 3 := fun d hd => P5 d (cutD_mem hd)
      have lp6 : (cutD pb (some (pk / 40 % 2)) none).length ≤ 4 := Nat.le_trans cutD_len (by omega)
      have w6 : (upd H17 q6 (.lst (cutV [.ref q1, .ref q3, .ref q4, .ref p11] (some (pk / 40 % 2)) none))) q6 = some (.lst (cutV [.ref q1, .ref q3, .ref q4, .ref p11] (some (pk / 40 % 2)) none)) := upd_same
      generalize cutV [V.ref q1, .ref q3, .ref q4, .ref p11] (some (pk / 40 % 2)) none = pv6 at L6 w6 R18 b6' t6 ⊢
      generalize cutD pb (some (pk / 40 % 2)) none = pb6 at L6 P6 lp6 b6'
      generalize upd H17 q6 _ = H18 at R18 b6' t6 L6 w6 ⊢
      refine ⟨_, rfl, _, _, rfl, rfl, ⟨by decide, by decide⟩, _, _, rfl, rfl, (by show (0 : Int) < 4; decide), _, rfl, q6, _, rfl, SqL.of w6, fun q7 g7 => ?_⟩
      obtain ⟨R19, b7', t7⟩ := R18.lst g7 (L6.cut none (some (pk / 10 % 4))) (Nat.le_trans cutD_len (by omega))
      have P7 : ∀ d ∈ cutD pb6 none (some (pk / 10 % 4)), d.dep ≤ 3 := fun d hd => P6 d (cutD_mem hd)
      have lp7 : (cutD pb6 none (some (pk / 10 % 4))).length ≤ 4 := Nat.le_trans cutD_len (by omega)
      generalize cutD pb6 none (some (pk / 10 % 4)) = pub at b7' P7 lp7
      generalize upd H18 q7 _ = H19 at R19 b7' t7 ⊢
      -- parts
      refine ⟨(by show 0 ≤ sizeLine; decide), fun q8 g8 => ?_⟩
      obtain ⟨R20, c1', t8⟩ := R19.tup g8 (ds := []) AtL.nil (by show 0 ≤ 16000000; decide)
      generalize upd H19 q8 _ = H20 at R20 c1' t8 ⊢
      refine ⟨(by show 2 ≤ sizeLine; decide), fun q9 g9 => ?_⟩
      obtain ⟨R21, c2', t9⟩ := R20.tup g9 (ds := [.str "table", .str "t"]) (AtL.cons rfl (AtL.one rfl)) (by show 2 ≤ 16000000; decide)
      generalize upd H20 q9 _ = H21 at R21 c2' t9 ⊢
      refine ⟨(by show 1 ≤ sizeLine; decide), fun q10 g10 => ?_⟩
      obtain ⟨R22, c3', t10⟩ := R21.tup g10 (ds := [.seq false [.str "table", .str "t"]]) (AtL.one c2') (by show 1 ≤ 16000000; decide)
      generalize upd H21 q10 _ = H22 at R22 c3' t10 ⊢
      refine ⟨(by show 2 ≤ sizeLine; decide), fun q11 g11 => ?_⟩
      obtain ⟨R23, c4', t11⟩ := R22.tup g11 (ds := [.int 0, .int 1]) (AtL.cons rfl (AtL.one rfl)) (by show 2 ≤ 16000000; decide)
      generalize upd H22 q11 _ = H23 at R23 c4' t11 ⊢
      refine ⟨(by show 2 ≤ sizeLine; decide), fun q12 g12 => ?_⟩
      obtain ⟨R24, c5', t12⟩ := R23.tup g12 (ds := [.str "undo", .seq false [.int 0, .int 1]]) (AtL.cons rfl (AtL.one c4')) (by show 2 ≤ 16000000; decide)
      generalize upd H23 q12 _ = H24 at R24 c5' t12 ⊢
      refine ⟨(by show 3 ≤ sizeLine; decide), fun q13 g13 => ?_⟩
      obtain ⟨R25, c6', t13⟩ := R24.tup g13 (ds := [.int 0, .int 1, .int 0]) (AtL.cons rfl (AtL.cons rfl (AtL.one rfl))) (by show 3 ≤ 16000000; decide)
      generalize upd H24 q13 _ = H25 at R25 c6' t13 ⊢
      refine ⟨(by show 2 ≤ sizeLine; decide), fun q14 g14 => ?_⟩
      obtain ⟨R26, c7', t14⟩ := R25.tup g14 (ds := [.str "drop", .seq false [.int 0, .int 1, .int 0]]) (AtL.cons rfl (AtL.one c6')) (by show 2 ≤ 16000000; decide)
      generalize upd H25 q14 _ = H26 at R26 c7' t14 ⊢
      refine ⟨(by show 2 ≤ sizeLine; decide), fun q15 g15 => ?_⟩
      obtain ⟨R27, c8', t15⟩ := R26.tup g15 (ds := [.seq false [.str "undo", .seq false [.int 0, .int 1]], .seq false [.str "drop", .seq false [.int 0, .int 1, .int 0]]]) (AtL.cons (up c5' (t13.trans t14)) (AtL.one c7')) (by show 2 ≤ 16000000; decide)
      generalize upd H26 q15 _ = H27 at R27 c8' t15 ⊢
      refine ⟨(by show 4 ≤ sizeLine; decide), fun q16 g16 => ?_⟩
      have L9 : AtL (hidS [l, m] H27) [D.non, .seq false [], .seq false [.seq false [.str "table", .str "t"]], .seq false [.seq false [.str "undo", .seq false [.int 0, .int 1]], .seq false [.str "drop", .seq false [.int 0, .int 1, .int 0]]]] [.non, .ref q8, .ref q10, .ref q15] :=
        AtL.cons rfl (AtL.cons (up c1' (t9.trans (t10.trans (t11.trans (t12.trans (t13.trans (t14.trans t15))))))) (AtL.cons (up c3' (t11.trans (t12.trans (t13.trans (t14.trans t15))))) (AtL.one c8')))
      have P9 : ∀ d ∈ [D.non, .seq false [], .seq false [.seq false [.str "table", .str "t"]], .seq false [.seq false [.str "undo", .seq false [.int 0, .int 1]], .seq false [.str "drop", .seq false [.int 0, .int 1, .int 0]]]], d = .non ∨ ∃ ds, d = .seq false ds ∧ depL ds ≤ 2 := by
        intro d hd
        simp only [List.mem_cons, List.not_mem_nil, or_false] at hd
        rcases hd with rfl | rfl | rfl | rfl
        · exact .inl rfl
        · exact .inr ⟨_, rfl, by simp [D.dep, depL]⟩
        · exact .inr ⟨_, rfl, by simp [D.dep, depL]⟩
        · exact .inr ⟨_, rfl, by simp [D.dep, depL]⟩
      generalize hqs : [D.non, .seq false [], .seq false [.seq false [.str "table", .str "t"]], .seq false [.seq false [.str "undo", .seq false [.int 0, .int 1]], .seq false [.str "drop", .seq false [.int 0, .int 1, .int 0]]]] = qs at L9 P9
      have lqs : qs.length = 4 := by rw [← hqs]; rfl
      obtain ⟨R28, d1', t16⟩ := R27.lst g16 L9 (by omega)
      replace L9 := upL L9 t16
      have w9 : (upd H27 q16 (.lst [.non, .ref q8, .ref q10, .ref q15])) q16 = some (.lst [.non, .ref q8, .ref q10, .ref q15]) := upd_same
      generalize upd H27 q16 _ = H28 at R28 d1' t16 L9 w9 ⊢
      have S20 : Same H19 H28 := t8.trans (t9.trans (t10.trans (t11.trans (t12.trans (t13.trans (t14.trans (t15.trans t16)))))))
      have S12 : Same H12 H28 := t1.trans (t2.trans (t3.trans (t4.trans (t5.trans (t6.trans (t7.trans S20))))))
      -- the row
      have lu : (e4 % (1 + e2')).toNat < nums.length := by rw [N.1]; omega
      refine ⟨_, rfl, .inl ⟨rfl, _, SqL.of R28.hl⟩, _, rfl, _, rfl, _, rfl, m, _, _, rfl, rfl, SqL.of R28.hm, u0, by rw [List.length_map, List.length_set]; omega, fun vn hvn => ?_⟩
      rw [at_int (List.getElem?_set_self lu)] at hvn
      obtain rfl := (Option.some.inj hvn).symm
      refine ⟨_, rfl, _, rfl, _, rfl, _, rfl, _, rfl, _, _, rfl, rfl, ⟨by decide, by decide⟩, _, _, rfl, rfl, (by show (0 : Int) < 4; decide), _, rfl, q16, _, rfl, SqL.of w9, fun q17 g17 => ?_⟩
      obtain ⟨R29, _, t17⟩ := R28.lst g17 (L9.cut (some (pk / 80 % 4)) none) (Nat.le_trans cutD_len (by omega))
      have w17 : (upd H28 q17 (.lst (cutV [.non, .ref q8, .ref q10, .ref q15] (some (pk / 80 % 4)) none))) q17 = some (.lst (cutV [.non, .ref q8, .ref q10, .ref q15] (some (pk / 80 % 4)) none)) := upd_same
      have M17 := upL (L9.cut (some (pk / 80 % 4)) none) t17
      replace w9 := t17 _ _ w9
      replace L9 := upL L9 t17
      generalize cutV [V.non, .ref q8, .ref q10, .ref q15] (some (pk / 80 % 4)) none = v17 at M17 w17 R29 t17 w9 L9 ⊢
      generalize upd H28 q17 _ = H29 at R29 t17 w17 M17 w9 L9 ⊢
      refine ⟨_, rfl, _, rfl, _, _, rfl, rfl, ⟨by decide, by decide⟩, _, _, rfl, rfl, (by show (0 : Int) < 4; decide), _, rfl, q16, _, rfl, SqL.of w9, fun q18 g18 => ?_⟩
      obtain ⟨R30, _, t18⟩ := R29.lst g18 (L9.cut none (some (pk / 80 % 4))) (Nat.le_trans cutD_len (by omega))
      have w18 : (upd H29 q18 (.lst (cutV [.non, .ref q8, .ref q10, .ref q15] none (some (pk / 80 % 4))))) q18 = some (.lst (cutV [.non, .ref q8, .ref q10, .ref q15] none (some (pk / 80 % 4)))) := upd_same
      have M18 := upL (L9.cut none (some (pk / 80 % 4))) t18
      replace w17 := t18 _ _ w17
      replace M17 := upL M17 t18
      generalize cutV [V.non, .ref q8, .ref q10, .ref q15] none (some (pk / 80 % 4)) = v18 at M18 w18 R30 t18 w17 M17 ⊢
      generalize upd H29 q18 _ = H30 at R30 t18 w17 M17 w18 M18 ⊢
      have MM := AtL.append M17 M18
      have PP : ∀ d ∈ cutD qs (some (pk / 80 % 4)) none ++ cutD qs none (some (pk / 80 % 4)), d = .non ∨ ∃ ds, d = .seq false ds ∧ depL ds ≤ 2 := fun d hd => by
        rcases List.mem_append.mp hd with h | h
        · exact P9 d (cutD_mem h)
        · exact P9 d (cutD_mem h)
      have LL : (cutD qs (some (pk / 80 % 4)) none ++ cutD qs none (some (pk / 80 % 4))).length ≤ 8 := by
        have h1 := cutD_len (ds := qs) (lo := some (pk / 80 % 4)) (hi := none)
        have h2 := cutD_len (ds := qs) (lo := none) (hi := some (pk / 80 % 4))
        rw [List.length_append]
        omega
      have lvv := MM.length
      generalize cutD qs (some (pk / 80 % 4)) none ++ cutD qs none (some (pk / 80 % 4)) = parts at MM PP LL lvv
      rw [List.length_append] at lvv
      refine ⟨q17, q18, _, _, rfl, rfl, w17, w18, sz_small (by omega), fun q19 g19 => ?_⟩
      obtain ⟨R31, f1', t19⟩ := R30.lst g19 MM (by omega)
      generalize upd H30 q19 _ = H31 at R31 f1' t19 ⊢
      refine ⟨(by show 6 ≤ sizeLine; decide), fun q20 g20 => ?_⟩
      have S28 : Same H28 H31 := t17.trans (t18.trans t19)
      have S8 : Same H8 H31 := s12.trans (S12.trans S28)
      obtain ⟨R32, rowA, t20⟩ := R31.lst g20 (ds := [.int (e4 % (1 + e2')), .int (old + 1 + e5 / 997), .seq true (hs.map D.int), cap, .seq true pub, .seq true parts])
        (AtL.cons rfl (AtL.cons rfl (AtL.cons (up a6 (s7.trans (s8.trans S8))) (AtL.cons (up ac S8) (AtL.cons (up b7' (S20.trans S28)) (AtL.one f1')))))) (by show 6 ≤ 16000000; decide)
      generalize upd H31 q20 _ = H32 at R32 rowA t20 ⊢
      have R33 := R32.row (r := ⟨e4 % (1 + e2'), old + 1 + e5 / 997, hs, cap, pub, parts⟩) rowA
      have ezs := R28.at'.length
      have lrs := ok.len
      rw [List.length_map] at ezs
      have ro : RowOk ⟨e4 % (1 + e2'), old + 1 + e5 / 997, hs, cap, pub, parts⟩ := ⟨u0, by show e4 % (1 + e2') < 6; omega, by show 1 ≤ old + 1 + e5 / 997; omega, by show hs.length ≤ 6; omega, hsb, cd, P7, lp7, PP, LL⟩
      have st := N.step (r := ⟨e4 % (1 + e2'), old + 1 + e5 / 997, hs, cap, pub, parts⟩) ok ro (by
        show nums.getD (e4 % (1 + e2')).toNat 0 < old + 1 + e5 / 997
        rw [List.getD_eq_getElem?_getD, hold]
        show old < _
        omega) (by omega)
      refine ⟨l, _, _, rfl, rfl, R32.hl, lt_small (by omega), ?_⟩
      exact ⟨_, _, _, _, _, _, _, _, _, _, _, rfl, R33, st.1, st.2, by rw [List.length_append, lk]; rfl⟩
    · rintro σ H3 ⟨zs, nums, rs, v6, v7, v8, v9, v10, v11, v12, v13, rfl, R3, N, ok, lk⟩
      have hh : Same H2 H3 := R3.s.trans fun _ _ e => (hidS_some e).1
      refine ⟨_, rfl, q _ _ rs (s2.trans hh) ⟨l, zs, rfl, R3.hl, AtL.same (fun _ _ e => (hidS_some e).1) _ _ R3.at', ?_⟩ ok⟩
      have := ok.len
      rw [List.length_map]
      omega
end
end Kw
set_option Elab.async false
set_option linter.all false
set_option maxRecDepth 100000
set_option maxHeartbeats 16000000
namespace Kw
open PySem PySem.Spec PyProof.Rows L2
/-! ### changes out of rows -/
def PartOk (d : D) : Prop := d = .non ∨ ∃ ds, d = .seq false ds ∧ depL ds ≤ 2
/-- the lists of the parts: new ones, with the items that the parts have -/
def PLs (H H' : Hp) (ps : List D) (zs : List V) : Prop := zs.length = ps.length ∧ ∀ (i : Nat) d z, ps[i]? = some d → zs[i]? = some z → (d = .non ∧ z = .non) ∨ ∃ ds q ys, d = .seq false ds ∧ z = .ref q ∧ H q = none ∧ H' q = some (.lst ys) ∧ AtL H ds ys ∧ ds.length ≤ 16000000
theorem PLs.same {H H' H2 : Hp} {ps : List D} {zs : List V} (h : PLs H H' ps zs) (s : Same H' H2) : PLs H H2 ps zs := ⟨h.1, fun i d z h1 h2 => by
  rcases h.2 i d z h1 h2 with g | ⟨ds, q, ys, e1, e2, e3, e4, e5, e6⟩
  · exact Or.inl g
  · exact Or.inr ⟨ds, q, ys, e1, e2, e3, s _ _ e4, e5, e6⟩⟩
theorem PLs.snoc {H H' : Hp} {ps : List D} {zs : List V} {i : Nat} {d : D} {z : V} (h : PLs H H' (ps.take i) zs) (hd : ps[i]? = some d) (hz : (d = .non ∧ z = .non) ∨ ∃ ds q ys, d = .seq false ds ∧ z = .ref q ∧ H q = none ∧ H' q = some (.lst ys) ∧ AtL H ds ys ∧ ds.length ≤ 16000000) :
    PLs H H' (ps.take (i + 1)) (zs ++ [z]) := by
  have hi : i < ps.length := (List.getElem?_eq_some_iff.mp hd).1
  have lz : zs.length = i := by rw [h.1, List.length_take]; omega
  have e : ps.take (i + 1) = ps.take i ++ [d] := by rw [List.take_add_one, hd]; rfl
  refine ⟨by rw [e, List.length_append, List.length_append, h.1]; rfl, fun k d2 z2 h1 h2 => ?_⟩
  rw [e] at h1
  have lt : (ps.take i).length = i := by rw [List.length_take]; omega
  by_cases c : k < i
  · rw [List.getElem?_append_left (by omega)] at h1 h2
    exact h.2 k d2 z2 h1 h2
  · have : k = i := by
      have := (List.getElem?_eq_some_iff.mp h2).1
      rw [List.length_append, List.length_singleton] at this
      omega
    subst this
    rw [List.getElem?_append_right (by omega), lt, Nat.sub_self] at h1
    rw [List.getElem?_append_right (by omega), lz, Nat.sub_self] at h2
    cases (show some d = some d2 from h1)
    cases (show some z = some z2 from h2)
    exact hz
def sp_part_lists : Sp := fun vs H Q _ => ∃ (v : V) (ps : List D) (G : Hp), vs = [v] ∧ Same G H ∧ At G (.seq true ps) v ∧ (∀ p ∈ ps, PartOk p) ∧ ps.length ≤ 8 ∧ ∀ H' p zs, Same H H' → H p = none → H' p = some (.lst zs) → PLs G H' ps zs → Q (.ref p) H'
section
variable {P : Program} {w : World} {K : PySem.W.Frag} {mg : Str → Option Value} {base : Heap}
theorem ok_part_lists {f : Addr} {fd : FuncData} (F : Fun K "_law_part_lists" "_law_part_lists" s_law_part_lists f fd) (T : Txt K mg) : FnOk P w K mg base CX0 1 f fd ["parts"] sp_part_lists := by
  refine F.ok sc_law_part_lists (fun vs H Q E h => ?_) (fun cdv A outer s H vs Q E hr h => ?_)
  · obtain ⟨v, ps, G, rfl, _⟩ := h
    rfl
  · obtain ⟨v, ps, G, rfl, sG, ⟨a, xs, rfl, ha', hl, hz⟩, hps, hn, q⟩ := h
    have ha := sG _ _ ha'
    refine ⟨_, (pss_cons (ps_set (i := 1) sc_law_part_lists.nd rfl (Or.inl rfl) (pe_lst pa_nil))
        (pss_cons (ps_for PassesOwn.never rfl (pi_sqv 0) (pg_name (i := 2) sc_law_part_lists.nd rfl (Or.inl rfl)) (pss_one (ps_if (pt_cmpR op_isN (pv 2) pe_non (nomark _)) (pss_one (ps_expr (pe_bm PySem.F.plainAttrs_list PySem.F.slot_list_append PySem.F.type_list_append mt_append (pv 1) (pa_cons pe_non pa_nil)))) (pss_one (ps_expr (pe_bm PySem.F.plainAttrs_list PySem.F.slot_list_append PySem.F.type_list_append mt_append (pv 1) (pa_cons (pe_callTy call_liD (by rfl) T.n_list (by decide +kernel) (pa_cons (pv 2) pa_nil)) pa_nil)))))))
        (pss_one (ps_ret (pv 1))))), ?_⟩
    refine ⟨Nat.zero_le _, fun l hll => ?_⟩
    have s0 : Same H (upd H l (.lst [])) := Same.new hll
    have len := hl.length
    refine ⟨a, _, rfl, .inl ⟨rfl, xs, SqL.of (s0 _ _ ha)⟩, ?_⟩
    refine for_list (xs := xs) (fun i σ H' => ∃ (zs : List V) (v2 : Option V), σ = [some (.ref a), some (.ref l), v2] ∧ Same H (hide l H') ∧ H' l = some (.lst zs) ∧ PLs G (hide l H') (ps.take i) zs)
      ⟨[], none, rfl, by rw [hide_upd hll]; exact Same.refl _, upd_same, rfl, fun i d z h _ => by simp at h⟩ (fun i σ H' _ h => ?_) ?_ ?_
    · obtain ⟨zs, v2, _, s, _⟩ := h
      exact SqL.of (hide_some (s _ _ ha)).1
    · rintro i y σ H' hy ⟨zs, v2, rfl, s, hl', hp⟩
      obtain ⟨d, hd, hA⟩ := hl.at hy
      have lz := hp.1
      rw [List.length_take] at lz
      refine ⟨_, rfl, rfl, _, rfl, ?_⟩
      rcases hps d (List.mem_of_getElem? hd) with rfl | ⟨ds, rfl, _⟩
      · obtain rfl : y = .non := hA
        refine iteT ?_
        refine ⟨_, rfl, .inl ⟨rfl, _, SqL.of hl'⟩, l, _, _, rfl, rfl, hl', lt_small (by omega), ?_⟩
        refine ⟨_, _, rfl, ?_, upd_same, ?_⟩
        · rw [hide_upd_self]; exact s
        · rw [hide_upd_self]; exact hp.snoc hd (Or.inl ⟨rfl, rfl⟩)
      · have hA2 := hA
        obtain ⟨b, ys, rfl, hb, hyl, hyz⟩ := hA
        refine iteF ?_
        refine ⟨_, rfl, .inl ⟨rfl, _, SqL.of hl'⟩, _, rfl, false, b, ys, rfl, (hide_some (s _ _ (sG _ _ hb))).1, fun p hp2 => ?_⟩
        have np : p ≠ l := fun z => by rw [z, hl'] at hp2; cases hp2
        refine ⟨l, _, _, rfl, rfl, by rw [upd_ne np.symm]; exact hl', lt_small (by omega), ?_⟩
        have e : hide l (upd (upd H' p (.lst ys)) l (.lst (zs ++ [.ref p]))) = upd (hide l H') p (.lst ys) := by rw [hide_upd_self, hide_upd_ne np]
        have f : hide l H' p = none := hide_free hp2
        refine ⟨_, _, rfl, ?_, upd_same, ?_⟩
        · rw [e]
          exact s.trans (Same.new f)
        · rw [e]
          exact (hp.same (Same.new f)).snoc hd (Or.inr ⟨ds, p, ys, rfl, rfl, sG.free (s.free f), upd_same, hyl, hyz⟩)
    · rintro σ H' ⟨zs, v2, rfl, s, hl', hp⟩
      rw [len, List.take_length] at hp
      exact ⟨_, rfl, q H' l zs (s.trans Same.unhid) hll hl' (hp.same Same.unhid)⟩
theorem parts_toT : ∀ {ps : List D}, (∀ p ∈ ps, PartOk p) → ps.map toT = ps
  | [], _ => rfl
  | d :: ps, h => by
    rw [List.map_cons, parts_toT fun p hp => h p (List.mem_cons_of_mem _ hp)]
    rcases h d (List.mem_cons_self ..) with rfl | ⟨ds, rfl, _⟩
    · rfl
    · rfl
def toL : D → D
  | .seq _ ds => .seq true ds
  | d => d
theorem parts_toLT : ∀ {ps : List D}, (∀ p ∈ ps, PartOk p) → (ps.map toL).map toT = ps
  | [], _ => rfl
  | d :: ps, h => by
    rw [List.map_cons, List.map_cons, parts_toLT fun p hp => h p (List.mem_cons_of_mem _ hp)]
    rcases h d (List.mem_cons_self ..) with rfl | ⟨ds, rfl, _⟩
    · rfl
    · rfl
theorem PartOk.part {d : D} (h : PartOk d) : PartD d := by
  rcases h with rfl | ⟨ds, rfl, _⟩
  · trivial
  · trivial
/-- the addresses among the items -/
def adrs : List V → List Addr
  | [] => []
  | .ref q :: zs => q :: adrs zs
  | _ :: zs => adrs zs
theorem mem_adrs : ∀ {zs : List V} {q : Addr}, V.ref q ∈ zs ↔ q ∈ adrs zs
  | [], q => by simp [adrs]
  | z :: zs, q => by
    have ih := mem_adrs (zs := zs) (q := q)
    cases z <;> simp [adrs, ih]
theorem mem_getD {zs : List V} {q : Addr} (h : q ∈ adrs zs) : ∃ i : Nat, zs[i]? = some (V.ref q) := List.getElem?_of_mem (mem_adrs.mpr h)
def sp_change (C : Addr) : Sp := fun vs H Q _ => ∃ (v : V) (b : Bool) (r : Row), vs = [v, .bl b] ∧ At H (rowD r) v ∧ RowOk r ∧ ∀ H' c, Same H H' → CA C H' c r → Q (.ref c) H'
theorem ok_change {f C : Addr} {fd : FuncData} (F : Fun K "_law_change" "_law_change" s_law_change f fd) (T : Txt K mg) (c_Change : MakX P w K mg base 1 "Change" C (sp_init C) []) (c_law_part_lists : CalX P w K mg base CX0 1 "_law_part_lists" sp_part_lists) :
    FnOk P w K mg base CX0 3 f fd ["row", "as_lists"] (sp_change C) := by
  refine F.ok sc_law_change (fun vs H Q E h => ?_) (fun cdv A outer s H vs Q E hr h => ?_)
  · obtain ⟨v, b, r, rfl, _⟩ := h
    rfl
  · obtain ⟨v, b, r, rfl, hw, ro, q⟩ := h
    refine ⟨_, (pss_cons (ps_if (pt_not (pt_val (pv 1))) (pss_one (ps_ret (pe_mkx c_Change hr (by omega) (by rfl) (pa_cons (pe_ix ix_row (pv 0) pe_int (fun _ _ => rfl)) (pa_cons (pe_ix ix_row (pv 0) pe_int (fun _ _ => rfl)) (pa_cons (pe_callTy call_tuD (by rfl) T.n_tuple (by decide +kernel) (pa_cons (pe_ix ix_row (pv 0) pe_int (fun _ _ => rfl)) pa_nil)) (pa_cons (pe_ix ix_row (pv 0) pe_int (fun _ _ => rfl)) (pa_cons (pe_callTy call_tuD (by rfl) T.n_tuple (by decide +kernel) (pa_cons (pe_ix ix_row (pv 0) pe_int (fun _ _ => rfl)) pa_nil)) (pa_cons (pe_callTy call_tuD (by rfl) T.n_tuple (by decide +kernel) (pa_cons (pe_ix ix_row (pv 0) pe_int (fun _ _ => rfl)) pa_nil)) pa_nil))))))))) pss_nil)
        (pss_cons (ps_set (i := 2) sc_law_change.nd rfl (Or.inl rfl) (pe_callTy call_liD (by rfl) T.n_list (by decide +kernel) (pa_cons (pe_ix ix_row (pv 0) pe_int (fun _ _ => rfl)) pa_nil)))
        (pss_cons (ps_set (i := 3) sc_law_change.nd rfl (Or.inl rfl) (pe_callTy call_liD (by rfl) T.n_list (by decide +kernel) (pa_cons (pe_ix ix_row (pv 0) pe_int (fun _ _ => rfl)) pa_nil)))
        (pss_cons (ps_set (i := 4) sc_law_change.nd rfl (Or.inl rfl) (pe_cx c_law_part_lists (hr.mono (by omega)) (by rfl) pass0 (pa_cons (pe_ix ix_row (pv 0) pe_int (fun _ _ => rfl)) pa_nil)))
        (pss_cons (ps_set (i := 5) sc_law_change.nd rfl (Or.inl rfl) (pe_mkx c_Change hr (by omega) (by rfl) (pa_cons (pe_ix ix_row (pv 0) pe_int (fun _ _ => rfl)) (pa_cons (pe_ix ix_row (pv 0) pe_int (fun _ _ => rfl)) (pa_cons (pv 2) (pa_cons (pe_ix ix_row (pv 0) pe_int (fun _ _ => rfl)) (pa_cons (pv 3) (pa_cons (pv 4) pa_nil))))))))
        (pss_cons (ps_for PassesOwn.never rfl (pi_list (pe_op op_cat (pe_lst (pa_cons (pv 2) (pa_cons (pv 3) pa_nil))) (pe_lc (own := [("part", 7)]) (g := gName 7) (by rfl) sc_law_change.nd (pi_list (pv 4)) (blkOk_by (own := [("part", 7)]) (N := N_law_change) (sc := defScope s_law_change) (by decide +kernel)) (fun _ _ _ _ _ => pg_name (i := 7) sc_law_change.nd rfl (Or.inl rfl)) (fun _ _ _ _ _ => (pts_one (pt_cmpR op_notN (pv 7) pe_non (nomark _)))) (fun _ _ _ _ _ => (pv 7))))) (pg_name (i := 6) sc_law_change.nd rfl (Or.inl rfl)) (pss_one (ps_expr (pe_bm PySem.F.plainAttrs_list PySem.F.slot_list_append PySem.F.type_list_append mt_append (pv 6) (pa_cons pe_int pa_nil)))))
        (pss_cons (ps_expr (pe_bm PySem.F.plainAttrs_list PySem.F.slot_list_append PySem.F.type_list_append mt_append (pv 4) (pa_cons pe_non pa_nil)))
        (pss_one (ps_ret (pv 5)))))))))), ?_⟩
    have hps : ∀ p ∈ r.parts, PartOk p := ro.qd
    cases b with
    | false =>
      refine ⟨_, rfl, false, rfl, iteT ?_⟩
      refine ⟨_, rfl, H, r, Same.refl _, hw, .inl ⟨rfl, _, rfl, H, r, Same.refl _, hw, .inr (.inl ⟨rfl, _, rfl, H, r, Same.refl _, hw, .inr (.inr (.inl ⟨rfl, fun u2 a2 => ⟨[], true, _, _, rfl, fun x h => (by cases h), a2, fun H1 v1 s1 b1 => ?_⟩⟩))⟩)⟩⟩
      refine ⟨_, rfl, H, r, s1, hw, .inr (.inr (.inr (.inl ⟨rfl, fun u3 a3 => ?_⟩)))⟩
      refine ⟨_, rfl, H, r, s1, hw, .inr (.inr (.inr (.inr (.inl ⟨rfl, fun u4 a4 => ⟨[], true, _, _, rfl, fun x h => (by cases h), At.same s1 _ _ a4, fun H2 v2 s2 b2 => ?_⟩⟩))))⟩
      refine ⟨_, rfl, H, r, s1.trans s2, hw, .inr (.inr (.inr (.inr (.inr ⟨rfl, fun u5 a5 => ⟨[], true, _, _, rfl, fun x h => (by cases h), At.same (s1.trans s2) _ _ a5, fun H3 v3 s3 b3 => ?_⟩⟩))))⟩
      obtain ⟨pa, pxs, rfl, hpa, hpl, hpz⟩ := b3
      refine fun x dx hx hd ne => make_chg (r := r) (lh := false) (lp := false) (lq := false) [] (fun s h => by cases h) (At.top (S := []) (At.same (s2.trans s3) _ _ b1)) (At.same (s1.trans (s2.trans s3)) _ _ a3) (At.top (S := []) (At.same s3 _ _ b2)) hpa (top2_of hpl fun p hp => (hps p hp).part) hpz x dx hx hd ne fun H' s' h' => ⟨rfl, ?_⟩
      rw [parts_toT hps] at h'
      exact q H' x (s1.trans (s2.trans (s3.trans s'))) h'
    | true =>
      refine ⟨_, rfl, true, rfl, iteF ?_⟩
      -- heard
      refine ⟨_, rfl, H, r, Same.refl _, hw, .inr (.inr (.inl ⟨rfl, fun u2 a2 => ?_⟩))⟩
      obtain ⟨k2, x2, rfl, h2, l2, z2⟩ := a2
      refine ⟨true, k2, x2, rfl, h2, fun ph hph => ?_⟩
      have s1 := Same.new (o := .lst x2) hph
      have g1 : (upd H ph (.lst x2)) ph = some (.lst x2) := upd_same
      generalize upd H ph (.lst x2) = H1 at s1 g1 ⊢
      -- publics
      refine ⟨_, rfl, H, r, s1, hw, .inr (.inr (.inr (.inr (.inl ⟨rfl, fun u4 a4 => ?_⟩))))⟩
      obtain ⟨k4, x4, rfl, h4, l4, z4⟩ := a4
      refine ⟨true, k4, x4, rfl, s1 _ _ h4, fun pp hpp => ?_⟩
      have s2 := s1.trans (Same.new (o := .lst x4) hpp)
      have g1' : (upd H1 pp (.lst x4)) ph = some (.lst x2) := by rw [upd_ne (ne_of_none g1 hpp)]; exact g1
      have g2 : (upd H1 pp (.lst x4)) pp = some (.lst x4) := upd_same
      have fpp := s1.free hpp
      generalize upd H1 pp (.lst x4) = H2 at s2 g1' g2 ⊢
      -- parts
      refine ⟨_, rfl, H, r, s2, hw, .inr (.inr (.inr (.inr (.inr ⟨rfl, fun u5 a5 => ?_⟩))))⟩
      refine ⟨u5, r.parts, H, rfl, s2, a5, hps, ro.ql, fun H3 pl zs s3 npl hpl PL => ?_⟩
      have s03 := s2.trans s3
      have fpl := s2.free npl
      -- the new lists
      have fS : ∀ x ∈ ph :: pp :: pl :: adrs zs, H x = none := by
        intro x hx
        rcases List.mem_cons.mp hx with rfl | hx
        · exact hph
        rcases List.mem_cons.mp hx with rfl | hx
        · exact fpp
        rcases List.mem_cons.mp hx with rfl | hx
        · exact fpl
        obtain ⟨i, hi⟩ := mem_getD hx
        obtain ⟨d, hd⟩ := some_at (l := r.parts) (i := i) (by rw [← PL.1]; exact (List.getElem?_eq_some_iff.mp hi).1)
        rcases PL.2 i d _ hd hi with ⟨_, e⟩ | ⟨ds, q', ys, _, e, f', _⟩
        · cases e
        · cases e
          exact f'
      have lS : ∀ x ∈ ph :: pp :: pl :: adrs zs, ∃ ys, H3 x = some (.lst ys) ∧ ys.length ≤ 16000000 := by
        intro x hx
        rcases List.mem_cons.mp hx with rfl | hx
        · exact ⟨_, s3 _ _ g1', by rw [l2.length]; exact z2⟩
        rcases List.mem_cons.mp hx with rfl | hx
        · exact ⟨_, s3 _ _ g2, by rw [l4.length]; exact z4⟩
        rcases List.mem_cons.mp hx with rfl | hx
        · exact ⟨_, hpl, by rw [PL.1]; exact Nat.le_trans ro.ql (by decide)⟩
        obtain ⟨i, hi⟩ := mem_getD hx
        obtain ⟨d, hd⟩ := some_at (l := r.parts) (i := i) (by rw [← PL.1]; exact (List.getElem?_eq_some_iff.mp hi).1)
        rcases PL.2 i d _ hd hi with ⟨_, e⟩ | ⟨ds, q', ys, _, e, _, e2, e3, e4⟩
        · cases e
        · cases e
          exact ⟨ys, e2, by rw [e3.length]; exact e4⟩
      have mph : ph ∈ ph :: pp :: pl :: adrs zs := List.mem_cons_self ..
      have mpp : pp ∈ ph :: pp :: pl :: adrs zs := List.mem_cons_of_mem _ (List.mem_cons_self ..)
      have mpl : pl ∈ ph :: pp :: pl :: adrs zs := List.mem_cons_of_mem _ (List.mem_cons_of_mem _ (List.mem_cons_self ..))
      have mad : ∀ {y}, y ∈ adrs zs → y ∈ ph :: pp :: pl :: adrs zs := fun h => List.mem_cons_of_mem _ (List.mem_cons_of_mem _ (List.mem_cons_of_mem _ h))
      generalize ph :: pp :: pl :: adrs zs = S at fS lS mph mpp mpl mad
      have sS : Same H (hidS S H3) := Same.hidIn s03 fS
      -- the change
      refine ⟨_, rfl, H, r, s03, hw, .inl ⟨rfl, _, rfl, H, r, s03, hw, .inr (.inl ⟨rfl, _, rfl, _, rfl, H, r, s03, hw, .inr (.inr (.inr (.inl ⟨rfl, fun u3 a3 => ⟨_, rfl, _, rfl, ?_⟩⟩)))⟩)⟩⟩
      refine fun c dx hx hd ne => make_chg (r := r) (lh := true) (lp := true) (lq := true) (ps := r.parts.map toL) S (fun s h => (lS s h).imp fun _ h => h.1) ⟨ph, x2, rfl, s3 _ _ g1', AtL.same sS _ _ l2, z2⟩ (At.same sS _ _ a3) ⟨pp, x4, rfl, s3 _ _ g2, AtL.same sS _ _ l4, z4⟩ hpl ⟨by rw [List.length_map]; exact PL.1, fun i d x h1 h2 => ?_⟩ (by rw [List.length_map]; exact Nat.le_trans ro.ql (by decide)) c dx hx hd ne fun H4 s4 cA => ⟨rfl, ?_⟩
      · rw [List.getElem?_map] at h1
        cases hd : r.parts[i]? with
        | none => rw [hd] at h1; cases h1
        | some d0 =>
          rw [hd] at h1
          cases h1
          rcases PL.2 i d0 x hd h2 with ⟨rfl, e⟩ | ⟨ds, q', ys, rfl, e, _, e2, e3, e4⟩
          · exact Or.inl ⟨rfl, e⟩
          · exact Or.inr ⟨true, ds, rfl, q', ys, e, e2, AtL.same sS _ _ e3, e4⟩
      rw [parts_toLT hps] at cA
      replace cA : CA C (hidS S H4) c r := cA
      have lS4 : ∀ x ∈ S, ∃ ys, H4 x = some (.lst ys) ∧ ys.length ≤ 16000000 := fun x hx => (lS x hx).imp fun ys h => ⟨s4 _ _ h.1, h.2⟩
      have sS4 : Same H (hidS S H4) := Same.hidIn (Same.trans s03 s4) fS
      have hpl4 := s4 _ _ hpl
      have tS : ∀ x ∈ S, H4 x ≠ none := fun x hx z => by
        obtain ⟨ys, e, _⟩ := lS4 x hx
        rw [z] at e
        cases e
      have zlen : zs.length ≤ 8 := by rw [PL.1]; exact ro.ql
      -- the lists that are appended to
      refine ⟨_, rfl, _, rfl, (by show 2 ≤ sizeLine; decide), fun ga hga => ?_⟩
      have s5 := Same.new (o := .lst [.ref ph, .ref pp]) hga
      have g5 : (upd H4 ga (.lst [.ref ph, .ref pp])) ga = some (.lst [.ref ph, .ref pp]) := upd_same
      generalize upd H4 ga (.lst [.ref ph, .ref pp]) = H5 at s5 g5 ⊢
      refine ⟨_, rfl, pl, rfl, ⟨zs, SqL.of (s5 _ _ hpl4)⟩, fun gb hgb => ?_⟩
      refine lc_filt (walk_list (xs := zs)) hgb (by omega) (fun i => !decide (zs.getD i .non = .non)) (fun i => zs.getD i .non) (fun H' s => SqL.of (s _ _ (s5 _ _ hpl4))) (fun i x H6 H' hi s6 hy => ⟨by rw [hy.1]; exact Same.refl _, fun Q kq => ?_⟩) (fun i x H6 H' H7 hi s6 hy s7 Q kq => ?_) fun H6 s6 h6 => ?_
      · have e : zs.getD i .non = x := by rw [List.getD_eq_getElem?_getD, hy.2]; rfl
        rw [e] at kq
        exact ⟨_, rfl, rfl, _, rfl, kq _ (Same.refl _)⟩
      · have e : zs.getD i .non = x := by rw [List.getD_eq_getElem?_getD, hy.2]; rfl
        rw [e] at kq
        exact ⟨_, rfl, kq⟩
      have gS : ∀ y ∈ [V.ref ph, .ref pp] ++ ((List.range zs.length).filter fun i => !decide (zs.getD i .non = .non)).map fun i => zs.getD i .non, ∃ x ∈ S, y = .ref x := by
        intro y hy
        rcases List.mem_append.mp hy with h | h
        · rcases List.mem_cons.mp h with h | h
          · exact ⟨ph, mph, h⟩
          · exact ⟨pp, mpp, List.mem_singleton.mp h⟩
        · obtain ⟨i, hi, e⟩ := List.mem_map.mp h
          obtain ⟨hi1, hi2⟩ := List.mem_filter.mp hi
          obtain ⟨z, hz⟩ := some_at (l := zs) (i := i) (List.mem_range.mp hi1)
          have e2 : zs.getD i .non = z := by rw [List.getD_eq_getElem?_getD, hz]; rfl
          rw [e2] at e hi2
          obtain ⟨d, hd⟩ := some_at (l := r.parts) (i := i) (by rw [← PL.1]; exact (List.getElem?_eq_some_iff.mp hz).1)
          rcases PL.2 i d z hd hz with ⟨_, rfl⟩ | ⟨ds, q', ys, _, rfl, _⟩
          · rw [decide_eq_true rfl] at hi2
            cases hi2
          · exact ⟨q', mad (mem_adrs.mp (List.mem_of_getElem? hz)), e.symm⟩
      have gl : ([V.ref ph, .ref pp] ++ ((List.range zs.length).filter fun i => !decide (zs.getD i .non = .non)).map fun i => zs.getD i .non).length ≤ 10 := by
        have := List.length_filter_le (fun i => !decide (zs.getD i .non = .non)) (List.range zs.length)
        rw [List.length_range] at this
        rw [List.length_append, List.length_map]
        show 2 + _ ≤ 10
        omega
      refine ⟨ga, gb, _, _, rfl, rfl, s6 _ _ g5, h6, sz_small (by rw [List.length_append] at gl; omega), fun g hg => ?_⟩
      generalize [V.ref ph, .ref pp] ++ ((List.range zs.length).filter fun i => !decide (zs.getD i .non = .non)).map (fun i => zs.getD i .non) = gs at gS gl ⊢
      have s7 := (s5.trans s6).trans (Same.new (o := .lst gs) hg)
      have g7 : (upd H6 g (.lst gs)) g = some (.lst gs) := upd_same
      have nS : g ∉ S := not_in_S (fun x hx z => tS x hx ((s5.trans s6).free z)) hg
      generalize upd H6 g (.lst gs) = H7 at s7 g7 ⊢
      refine ⟨g, rfl, ⟨gs, SqL.of g7⟩, for_list (xs := gs) (fun i σ H' => ∃ v6 : Option V, σ = [some v, some (.bl true), some (.ref ph), some (.ref pp), some (.ref pl), some (.ref c), v6, none] ∧ hidS S H' = hidS S H7 ∧ ∀ x ∈ S, ∃ ys, H' x = some (.lst ys) ∧ ys.length ≤ 16000000 + i)
        ⟨none, rfl, rfl, fun x hx => (lS4 x hx).imp fun ys h => ⟨s7 _ _ h.1, h.2⟩⟩ (fun i σ H' _ h => ?_) ?_ ?_⟩
      · obtain ⟨_, _, e, _⟩ := h
        have := hidS_eq S H7 g
        rw [if_neg nS, g7, ← e, hidS_eq, if_neg nS] at this
        exact SqL.of this
      · rintro i y σ H' hy ⟨v6, rfl, e, hl⟩
        obtain ⟨x, hxS, rfl⟩ := gS y (List.mem_of_getElem? hy)
        obtain ⟨ys, hys, hyl⟩ := hl x hxS
        have hi := (List.getElem?_eq_some_iff.mp hy).1
        refine ⟨_, rfl, .inl ⟨rfl, _, SqL.of hys⟩, x, _, _, rfl, rfl, hys, by rw [sizeLine_eq]; omega, ?_⟩
        refine ⟨_, rfl, by rw [hidS_upd_in hxS]; exact e, fun x2 hx2 => ?_⟩
        by_cases c2 : x2 = x
        · rw [c2]
          exact ⟨_, upd_same, by rw [List.length_append, List.length_singleton]; omega⟩
        · obtain ⟨ys2, h2, h3⟩ := hl x2 hx2
          exact ⟨ys2, by rw [upd_ne c2]; exact h2, by omega⟩
      · rintro σ H' ⟨v6, rfl, e, hl⟩
        obtain ⟨ys, hys, hyl⟩ := hl pl mpl
        refine ⟨_, rfl, .inl ⟨rfl, _, SqL.of hys⟩, pl, _, _, rfl, rfl, hys, by rw [sizeLine_eq]; omega, ?_⟩
        have e2 : hidS S (upd H' pl (.lst (ys ++ [.non]))) = hidS S H7 := by rw [hidS_upd_in mpl]; exact e
        generalize upd H' pl (.lst (ys ++ [.non])) = H8 at e2 ⊢
        have un : Same (hidS S H8) H8 := fun _ _ e => (hidS_some e).1
        rw [e2] at un
        exact ⟨_, rfl, q H8 c ((Same.hidIn (Same.trans (Same.trans s03 s4) s7) fS).trans un) (CA.same ((Same.hidS S s7).trans un) cA)⟩
end
end Kw
set_option Elab.async false
set_option linter.all false
set_option maxRecDepth 100000
set_option maxHeartbeats 16000000
namespace Kw
open PySem PySem.Spec PyProof.Rows L2
theorem RowOk.head {r : Row} (h : RowOk r) : (headD r).dep ≤ 5 := by
  have h1 := hs_dep r.hs
  have h2 := h.cd
  have h3 : depL r.pub ≤ 3 := depL_le h.pd
  simp only [headD, D.dep, depL] at h1 ⊢
  omega
theorem RowOk.parts' {r : Row} (h : RowOk r) : (D.seq false r.parts).dep ≤ 5 := by
  have : depL r.parts ≤ 3 := depL_le fun d hd => by
    rcases h.qd d hd with rfl | ⟨ds, rfl, e⟩
    · exact Nat.zero_le _
    · show depL ds + 1 ≤ 3
      omega
  show depL r.parts + 1 ≤ 5
  omega
def sp_kept (C : Addr) : Sp := fun vs H Q _ => ∃ (c : Addr) (v : V) (r : Row), vs = [.ref c, v] ∧ CA C H c r ∧ At H (rowD r) v ∧ RowOk r ∧ ∀ H', Same H H' → Q (.bl true) H'
section
variable {P : Program} {w : World} {K : PySem.W.Frag} {mg : Str → Option Value} {base : Heap}
theorem nomem {H : Hp} : ∀ x ∈ ([] : List Addr), H x ≠ none := fun x h => by cases h
theorem ok_kept {f C : Addr} {fd : FuncData} (F : Fun K "_law_is_kept" "_law_is_kept" s_law_is_kept f fd) (T : Txt K mg) (cc : ChgC K C) (c_law_same : CalX P w K mg base CX0 7 "_law_same" (sp_same 5)) (c_order_key : CalX P w K mg base CX0 1 "order_key" (sp_key C))
    (m_Change_name : MetX P w K mg base 1 C "name" (sp_name C)) (m_Change_header : MetX P w K mg base 1 C "header" (sp_header C)) (m_Change_with_parts : MetX P w K mg base 3 C "with_parts" (sp_with C)) :
    FnOk P w K mg base CX0 8 f fd ["change", "row"] (sp_kept C) := by
  refine F.ok sc_law_is_kept (fun vs H Q E h => ?_) (fun cdv A outer s H vs Q E hr h => ?_)
  · obtain ⟨c, v, r, rfl, _⟩ := h
    rfl
  · obtain ⟨c, v, r, rfl, cA, hw, ro, q⟩ := h
    refine ⟨_, (pss_cons (ps_set (i := 2) sc_law_is_kept.nd rfl (Or.inl rfl) (pe_tup (pa_cons (pe_ix ix_row (pv 1) pe_int (fun _ _ => rfl)) (pa_cons (pe_ix ix_row (pv 1) pe_int (fun _ _ => rfl)) (pa_cons (pe_callTy call_tuD (by rfl) T.n_tuple (by decide +kernel) (pa_cons (pe_ix ix_row (pv 1) pe_int (fun _ _ => rfl)) pa_nil)) (pa_cons (pe_ix ix_row (pv 1) pe_int (fun _ _ => rfl)) (pa_cons (pe_callTy call_tuD (by rfl) T.n_tuple (by decide +kernel) (pa_cons (pe_ix ix_row (pv 1) pe_int (fun _ _ => rfl)) pa_nil)) pa_nil)))))))
        (pss_cons (ps_if (PW.pt (pw_or (pt_not (pt_val (pe_cx c_law_same (hr.mono (by omega)) (by rfl) pass0 (pa_cons (pe_mtx0 m_Change_header hr (by omega) (pv 0)) (pa_cons (pv 2) pa_nil))))) (pw_or1 (pt_not (pt_val (pe_cx c_law_same (hr.mono (by omega)) (by rfl) pass0 (pa_cons (pe_mtx0 m_Change_name hr (by omega) (pv 0)) (pa_cons (pe_tup (pa_cons (pe_ix ix_row (pv 1) pe_int (fun _ _ => rfl)) (pa_cons (pe_ix ix_row (pv 1) pe_int (fun _ _ => rfl)) pa_nil))) pa_nil)))))))) (pss_one (ps_ret pe_bl)) pss_nil)
        (pss_cons (ps_if (PW.pt (pw_or (pt_not (pt_val (pe_cx c_law_same (hr.mono (by omega)) (by rfl) pass0 (pa_cons (pe_fld (pv 0) rfl) (pa_cons (pe_ix ix_D (pv 2) pe_int (fun _ _ => rfl)) pa_nil))))) (pw_or1 (pt_not (pt_val (pe_cx c_law_same (hr.mono (by omega)) (by rfl) pass0 (pa_cons (pe_fld (pv 0) rfl) (pa_cons (pe_ix ix_D (pv 2) pe_int (fun _ _ => rfl)) pa_nil)))))))) (pss_one (ps_ret pe_bl)) pss_nil)
        (pss_cons (ps_if (PW.pt (pw_or (pt_not (pt_val (pe_cx c_law_same (hr.mono (by omega)) (by rfl) pass0 (pa_cons (pe_fld (pv 0) rfl) (pa_cons (pe_callTy call_tuD (by rfl) T.n_tuple (by decide +kernel) (pa_cons (pe_ix ix_row (pv 1) pe_int (fun _ _ => rfl)) pa_nil)) pa_nil))))) (pw_or1 (pt_not (pt_val (pe_cx c_law_same (hr.mono (by omega)) (by rfl) pass0 (pa_cons (pe_fld (pv 0) rfl) (pa_cons (pe_ix ix_row (pv 1) pe_int (fun _ _ => rfl)) pa_nil)))))))) (pss_one (ps_ret pe_bl)) pss_nil)
        (pss_cons (ps_set (i := 3) sc_law_is_kept.nd rfl (Or.inl rfl) (pe_mtx m_Change_with_parts hr (by omega) (pv 0) (pa_cons (pe_lst (pa_cons (pe_tup pa_nil) (pa_cons pe_non (pa_cons pe_non (pa_cons (pe_lst (pa_cons (pe_tup (pa_cons pe_str (pa_cons pe_str pa_nil))) pa_nil)) pa_nil))))) pa_nil)))
        (pss_cons (ps_if (PW.pt (pw_or (pt_not (pt_val (pe_cx c_law_same (hr.mono (by omega)) (by rfl) pass0 (pa_cons (pe_mtx0 m_Change_header hr (by omega) (pv 3)) (pa_cons (pv 2) pa_nil))))) (pw_or1 (pt_not (pt_val (pe_cx c_law_same (hr.mono (by omega)) (by rfl) pass0 (pa_cons (pe_fld (pv 3) rfl) (pa_cons (pe_tup (pa_cons (pe_tup pa_nil) (pa_cons pe_non (pa_cons pe_non (pa_cons (pe_tup (pa_cons (pe_tup (pa_cons pe_str (pa_cons pe_str pa_nil))) pa_nil)) pa_nil))))) pa_nil)))))))) (pss_one (ps_ret pe_bl)) pss_nil)
        (pss_cons (ps_if (PW.pt (pw_or (pt_not (pt_val (pe_cx c_law_same (hr.mono (by omega)) (by rfl) pass0 (pa_cons (pe_fld (pv 0) rfl) (pa_cons (pe_callTy call_tuD (by rfl) T.n_tuple (by decide +kernel) (pa_cons (pe_ix ix_row (pv 1) pe_int (fun _ _ => rfl)) pa_nil)) pa_nil))))) (pw_or1 (pt_not (pt_val (pe_cx c_law_same (hr.mono (by omega)) (by rfl) pass0 (pa_cons (pe_fld (pv 0) rfl) (pa_cons (pe_ix ix_row (pv 1) pe_int (fun _ _ => rfl)) pa_nil)))))))) (pss_one (ps_ret pe_bl)) pss_nil)
        (pss_one (ps_ret (pe_and (pe_cx c_law_same (hr.mono (by omega)) (by rfl) pass0 (pa_cons (pe_fld (pv 0) rfl) (pa_cons (pe_ix ix_row (pv 1) pe_int (fun _ _ => rfl)) pa_nil))) (pe_one (pe_cx c_law_same (hr.mono (by omega)) (by rfl) pass0 (pa_cons (pe_cx c_order_key (hr.mono (by omega)) (by rfl) pass0 (pa_cons (pv 0) pa_nil)) (pa_cons (pe_tup (pa_cons (pe_callB (cr_sumD rfl) (by rfl) T.n_sum (by decide +kernel) (pa_cons (pe_ix ix_row (pv 1) pe_int (fun _ _ => rfl)) pa_nil)) (pa_cons (pe_ix ix_row (pv 1) pe_int (fun _ _ => rfl)) (pa_cons (pe_ix ix_row (pv 1) pe_int (fun _ _ => rfl)) pa_nil)))) pa_nil)))))))))))))), ?_⟩
    have cA' := cA
    obtain ⟨dx, vh, vc, vp, vq, e, ah, ac, ap, aq⟩ := cA'
    -- the header
    refine ⟨_, rfl, H, r, Same.refl _, hw, .inl ⟨rfl, _, rfl, H, r, Same.refl _, hw, .inr (.inl ⟨rfl, _, rfl, H, r, Same.refl _, hw, .inr (.inr (.inl ⟨rfl, fun u2 a2 => ⟨[], true, _, _, rfl, nomem, a2, fun H1 v1 s1 b1 => ?_⟩⟩))⟩)⟩⟩
    refine ⟨_, rfl, H, r, s1, hw, .inr (.inr (.inr (.inl ⟨rfl, fun u3 a3 => ?_⟩)))⟩
    refine ⟨_, rfl, H, r, s1, hw, .inr (.inr (.inr (.inr (.inl ⟨rfl, fun u4 a4 => ⟨[], true, _, _, rfl, nomem, At.same s1 _ _ a4, fun H2 v2 s2 b2 => ?_⟩⟩))))⟩
    refine ⟨(by show 5 ≤ sizeLine; decide), fun p hp => ?_⟩
    have s3 := (s1.trans s2).trans (Same.new (o := .tup [.int r.au, .int r.nu, v1, u3, v2]) hp)
    have hd0 : At (upd H2 p (.tup [.int r.au, .int r.nu, v1, u3, v2])) (headD r) (.ref p) := by
      have t := Same.new (o := .tup [.int r.au, .int r.nu, v1, u3, v2]) hp
      exact ⟨p, _, rfl, upd_same, AtL.cons rfl (AtL.cons rfl (AtL.cons (At.same (s2.trans t) _ _ b1) (AtL.cons (At.same ((s1.trans s2).trans t) _ _ a3) (AtL.one (At.same t _ _ b2))))), (by show 5 ≤ 16000000; decide)⟩
    generalize upd H2 p (.tup [.int r.au, .int r.nu, v1, u3, v2]) = H3 at s3 hd0 ⊢
    -- header(), name()
    refine ⟨_, rfl, c, dx, _, rfl, s3 _ _ e, rfl, c, r, rfl, cA.same s3, fun H4 v4 s4 b4 => ⟨_, rfl, _, _, headD r, rfl, b4, At.same s4 _ _ hd0, ro.head, fun H5 s5 => ⟨true, rfl, iteF ?_⟩⟩⟩
    have t5 := s4.trans s5
    have S5 := s3.trans t5
    refine ⟨_, rfl, c, dx, _, rfl, S5 _ _ e, rfl, c, r, rfl, cA.same S5, fun H6 v6 s6 b6 => ?_⟩
    have S6 := S5.trans s6
    refine ⟨_, rfl, H, r, S6, hw, .inl ⟨rfl, _, rfl, H, r, S6, hw, .inr (.inl ⟨rfl, (by show 2 ≤ sizeLine; decide), fun p2 hp2 => ?_⟩)⟩⟩
    refine ⟨_, _, .seq false [.int r.au, .int r.nu], rfl, At.same (Same.new hp2) _ _ b6, ⟨p2, _, rfl, upd_same, AtL.cons rfl (AtL.one rfl), (by show 2 ≤ 16000000; decide)⟩, (by simp [D.dep, depL]), fun H7 s7 => ⟨true, rfl, iteF ?_⟩⟩
    have t7 := t5.trans (s6.trans ((Same.new hp2).trans s7))
    have S7 := s3.trans t7
    -- heard, publics
    refine ⟨_, rfl, c, C, dx, _, vh, rfl, S7 _ _ e, cc.cl, cc.nH, rfl, _, rfl, [], false, _, 2, rfl, At.same t7 _ _ hd0, by decide, (by show (2 : Int) < 5; decide), fun d u hd hu => ?_⟩
    cases (show some (hsD r.hs) = some d from hd)
    refine ⟨_, _, hsD r.hs, rfl, At.same S7 _ _ ah, hu, by rw [hs_dep]; decide, fun H8 s8 => ⟨true, rfl, iteF ?_⟩⟩
    have t8 := t7.trans s8
    have S8 := s3.trans t8
    refine ⟨_, rfl, c, C, dx, _, vp, rfl, S8 _ _ e, cc.cl, cc.nP, rfl, _, rfl, [], false, _, 4, rfl, At.same t8 _ _ hd0, by decide, (by show (4 : Int) < 5; decide), fun d u hd hu => ?_⟩
    cases (show some (D.seq false r.pub) = some d from hd)
    have dpub : (D.seq false r.pub).dep ≤ 5 := by
      have : depL r.pub ≤ 3 := depL_le ro.pd
      show depL r.pub + 1 ≤ 5
      omega
    refine ⟨_, _, _, rfl, At.same S8 _ _ ap, hu, dpub, fun H9 s9 => ⟨true, rfl, iteF ?_⟩⟩
    have S9 := S8.trans s9
    have t9 := t8.trans s9
    -- parts, capability
    refine ⟨_, rfl, c, C, dx, _, vq, rfl, S9 _ _ e, cc.cl, cc.nQ, rfl, _, rfl, H, r, S9, hw, .inr (.inr (.inr (.inr (.inr ⟨rfl, fun u5 a5 => ⟨[], true, _, _, rfl, nomem, At.same S9 _ _ a5, fun H10 v10 s10 b10 => ?_⟩⟩))))⟩
    refine ⟨_, _, _, rfl, At.same (S9.trans s10) _ _ aq, b10, ro.parts', fun H11 s11 => ⟨true, rfl, iteF ?_⟩⟩
    have t11 := t9.trans (s10.trans s11)
    have S11 := s3.trans t11
    refine ⟨_, rfl, c, C, dx, _, vc, rfl, S11 _ _ e, cc.cl, cc.nC, rfl, _, rfl, H, r, S11, hw, .inr (.inr (.inr (.inl ⟨rfl, fun u6 a6 => ?_⟩)))⟩
    refine ⟨_, _, _, rfl, At.same S11 _ _ ac, At.same S11 _ _ a6, Nat.le_trans ro.cd (by decide), fun H12 s12 => ⟨true, rfl, iteF ?_⟩⟩
    have t12 := t11.trans s12
    have S12 := s3.trans t12
    -- with_parts
    refine ⟨_, rfl, c, dx, _, rfl, S12 _ _ e, rfl, (by show 0 ≤ sizeLine; decide), fun p1 h1 => ⟨(by show 2 ≤ sizeLine; decide), fun p2 h2 => ⟨(by show 1 ≤ sizeLine; decide), fun p3 h3 => ⟨(by show 4 ≤ sizeLine; decide), fun p4 h4 => ?_⟩⟩⟩⟩
    have w1 := Same.new (o := .tup []) h1
    have w2 := Same.new (o := .tup [.str "table", .str "u"]) h2
    have w3 := Same.new (o := .lst [.ref p2]) h3
    have w4 := Same.new (o := .lst [.ref p1, .non, .non, .ref p3]) h4
    have aw : At (upd (upd (upd (upd H12 p1 (.tup [])) p2 (.tup [.str "table", .str "u"])) p3 (.lst [.ref p2])) p4 (.lst [.ref p1, .non, .non, .ref p3])) (.seq true [.seq false [], .non, .non, .seq true [.seq false [.str "table", .str "u"]]]) (.ref p4) :=
      ⟨p4, _, rfl, upd_same, AtL.cons ⟨p1, _, rfl, (w2.trans (w3.trans w4)) _ _ upd_same, AtL.nil, by decide⟩ (AtL.cons rfl (AtL.cons rfl (AtL.one ⟨p3, _, rfl, w4 _ _ upd_same, AtL.one ⟨p2, _, rfl, (w3.trans w4) _ _ upd_same, AtL.cons rfl (AtL.one rfl), (by show 2 ≤ 16000000; decide)⟩, (by show 1 ≤ 16000000; decide)⟩))), (by show 4 ≤ 16000000; decide)⟩
    have tw := t12.trans (w1.trans (w2.trans (w3.trans w4)))
    have Sw := s3.trans tw
    generalize upd (upd (upd (upd H12 p1 (.tup [])) p2 (.tup [.str "table", .str "u"])) p3 (.lst [.ref p2])) p4 (.lst [.ref p1, .non, .non, .ref p3]) = H13 at aw tw Sw ⊢
    refine ⟨c, r, true, _, _, rfl, cA.same Sw, aw, ?_, fun H14 c' s14 cB => ?_⟩
    · intro d hd
      simp only [List.mem_cons, List.not_mem_nil, or_false] at hd
      rcases hd with rfl | rfl | rfl | rfl <;> trivial
    have t14 := tw.trans s14
    have S14 := s3.trans t14
    have cB' := cB
    obtain ⟨dy, wh, wc, wp, wq, eB, bh, bc, bp, bq⟩ := cB'
    refine ⟨_, rfl, c', dy, _, rfl, eB, rfl, c', _, rfl, cB, fun H15 v15 s15 b15 => ⟨_, rfl, _, _, headD r, rfl, b15, At.same (t14.trans s15) _ _ hd0, ro.head, fun H16 s16 => ⟨true, rfl, iteF ?_⟩⟩⟩
    have r16 := s15.trans s16
    refine ⟨_, rfl, c', C, dy, _, wq, rfl, r16 _ _ eB, cc.cl, cc.nQ, rfl, (by show 0 ≤ sizeLine; decide), fun p1 h1 => ⟨(by show 2 ≤ sizeLine; decide), fun p2 h2 => ⟨(by show 1 ≤ sizeLine; decide), fun p3 h3 => ⟨(by show 4 ≤ sizeLine; decide), fun p4 h4 => ?_⟩⟩⟩⟩
    have w1 := Same.new (o := .tup []) h1
    have w2 := Same.new (o := .tup [.str "table", .str "u"]) h2
    have w3 := Same.new (o := .tup [.ref p2]) h3
    have w4 := Same.new (o := .tup [.ref p1, .non, .non, .ref p3]) h4
    have ax : At (upd (upd (upd (upd H16 p1 (.tup [])) p2 (.tup [.str "table", .str "u"])) p3 (.tup [.ref p2])) p4 (.tup [.ref p1, .non, .non, .ref p3])) (.seq false [.seq false [], .non, .non, .seq false [.seq false [.str "table", .str "u"]]]) (.ref p4) :=
      ⟨p4, _, rfl, upd_same, AtL.cons ⟨p1, _, rfl, (w2.trans (w3.trans w4)) _ _ upd_same, AtL.nil, by decide⟩ (AtL.cons rfl (AtL.cons rfl (AtL.one ⟨p3, _, rfl, w4 _ _ upd_same, AtL.one ⟨p2, _, rfl, (w3.trans w4) _ _ upd_same, AtL.cons rfl (AtL.one rfl), (by show 2 ≤ 16000000; decide)⟩, (by show 1 ≤ 16000000; decide)⟩))), (by show 4 ≤ 16000000; decide)⟩
    have r17 := r16.trans (w1.trans (w2.trans (w3.trans w4)))
    generalize upd (upd (upd (upd H16 p1 (.tup [])) p2 (.tup [.str "table", .str "u"])) p3 (.tup [.ref p2])) p4 (.tup [.ref p1, .non, .non, .ref p3]) = H17 at ax r17 ⊢
    refine ⟨_, _, .seq false [.seq false [], .non, .non, .seq false [.seq false [.str "table", .str "u"]]], rfl, At.same r17 _ _ bq, ax, (by simp [D.dep, depL]), fun H18 s18 => ⟨true, rfl, iteF ?_⟩⟩
    have S18 := S14.trans (r17.trans s18)
    -- parts, author
    refine ⟨_, rfl, c, C, dx, _, vq, rfl, S18 _ _ e, cc.cl, cc.nQ, rfl, _, rfl, H, r, S18, hw, .inr (.inr (.inr (.inr (.inr ⟨rfl, fun u5 a5 => ⟨[], true, _, _, rfl, nomem, At.same S18 _ _ a5, fun H19 v19 s19 b19 => ?_⟩⟩))))⟩
    refine ⟨_, _, _, rfl, At.same (S18.trans s19) _ _ aq, b19, ro.parts', fun H20 s20 => ⟨true, rfl, iteF ?_⟩⟩
    have S20 := S18.trans (s19.trans s20)
    refine ⟨_, rfl, c, C, dx, _, _, rfl, S20 _ _ e, cc.cl, cc.nA, rfl, _, rfl, H, r, S20, hw, .inl ⟨rfl, _, _, .int r.au, rfl, rfl, rfl, Nat.zero_le _, fun H21 s21 => ⟨true, rfl, iteF ?_⟩⟩⟩
    have S21 := S20.trans s21
    -- number, key
    refine ⟨_, rfl, c, C, dx, _, _, rfl, S21 _ _ e, cc.cl, cc.nN, rfl, _, rfl, H, r, S21, hw, .inr (.inl ⟨rfl, _, _, .int r.nu, rfl, rfl, rfl, Nat.zero_le _, fun H22 s22 => ⟨true, rfl, iteT ?_⟩⟩)⟩
    have S22 := S21.trans s22
    refine ⟨_, rfl, c, r, rfl, cA.same S22, fun H23 v23 s23 b23 => ?_⟩
    have S23 := S22.trans s23
    refine ⟨_, rfl, H, r, S23, hw, .inr (.inr (.inl ⟨rfl, fun u2 a2 => ⟨[], true, r.hs, _, rfl, At.same S23 _ _ a2, ?_⟩⟩))⟩
    refine ⟨_, rfl, H, r, S23, hw, .inl ⟨rfl, _, rfl, H, r, S23, hw, .inr (.inl ⟨rfl, (by show 3 ≤ sizeLine; decide), fun p2 hp2 => ?_⟩)⟩⟩
    refine ⟨_, _, .seq false [.int r.hs.sum, .int r.au, .int r.nu], rfl, At.same (Same.new hp2) _ _ b23, ⟨p2, _, rfl, upd_same, AtL.cons rfl (AtL.cons rfl (AtL.one rfl)), (by show 3 ≤ 16000000; decide)⟩, (by simp [D.dep, depL]), fun H24 s24 => ?_⟩
    exact q _ (S23.trans ((Same.new hp2).trans s24))
/-! ### which comes first -/
def First (r t : Row) : Prop := r.hs.sum < t.hs.sum ∨ (r.hs.sum = t.hs.sum ∧ (r.au < t.au ∨ (r.au = t.au ∧ r.nu < t.nu)))
def sp_first : Sp := fun vs H Q _ => ∃ (v u : V) (r t : Row), vs = [v, u] ∧ At H (rowD r) v ∧ At H (rowD t) u ∧ First r t ∧ Q (.bl true) H
theorem ok_first {f : Addr} {fd : FuncData} (F : Fun K "_law_comes_first" "_law_comes_first" s_law_comes_first f fd) (T : Txt K mg) : FnOk P w K mg base CX0 1 f fd ["row", "other"] sp_first := by
  refine F.ok sc_law_comes_first (fun vs H Q E h => ?_) (fun cdv A outer s H vs Q E hr h => ?_)
  · obtain ⟨v, u, r, t, rfl, _⟩ := h
    rfl
  · obtain ⟨v, u, r, t, rfl, hr', ht, hf, q⟩ := h
    refine ⟨_, (pss_cons (ps_if (pt_cmpR op_ne (pe_callB (cr_sumD rfl) (by rfl) T.n_sum (by decide +kernel) (pa_cons (pe_ix ix_row (pv 0) pe_int (fun _ _ => rfl)) pa_nil)) (pe_callB (cr_sumD rfl) (by rfl) T.n_sum (by decide +kernel) (pa_cons (pe_ix ix_row (pv 1) pe_int (fun _ _ => rfl)) pa_nil)) (nomark _)) (pss_one (ps_ret (pe_cmpR op_lt (pe_callB (cr_sumD rfl) (by rfl) T.n_sum (by decide +kernel) (pa_cons (pe_ix ix_row (pv 0) pe_int (fun _ _ => rfl)) pa_nil)) (pe_callB (cr_sumD rfl) (by rfl) T.n_sum (by decide +kernel) (pa_cons (pe_ix ix_row (pv 1) pe_int (fun _ _ => rfl)) pa_nil)) (nomark _)))) pss_nil)
        (pss_cons (ps_if (pt_cmpR op_ne (pe_ix ix_row (pv 0) pe_int (fun _ _ => rfl)) (pe_ix ix_row (pv 1) pe_int (fun _ _ => rfl)) (nomark _)) (pss_one (ps_ret (pe_cmpR op_lt (pe_ix ix_row (pv 0) pe_int (fun _ _ => rfl)) (pe_ix ix_row (pv 1) pe_int (fun _ _ => rfl)) (nomark _)))) pss_nil)
        (pss_one (ps_ret (pe_cmpR op_lt (pe_ix ix_row (pv 0) pe_int (fun _ _ => rfl)) (pe_ix ix_row (pv 1) pe_int (fun _ _ => rfl)) (nomark _)))))), ?_⟩
    refine ⟨_, rfl, H, r, Same.refl _, hr', .inr (.inr (.inl ⟨rfl, fun u2 a2 => ⟨[], true, r.hs, _, rfl, a2, _, rfl, H, t, Same.refl _, ht, .inr (.inr (.inl ⟨rfl, fun u3 a3 => ⟨[], true, t.hs, _, rfl, a3, rfl, _, rfl, ?_⟩⟩))⟩⟩))⟩
    refine ite_not (fun c => ?_) (fun c => ?_)
    · have c' : r.hs.sum ≠ t.hs.sum := fun z => c (by rw [z])
      have lt : r.hs.sum < t.hs.sum := by
        rcases hf with h | h
        · exact h
        · exact absurd h.1 c'
      refine ⟨_, rfl, H, r, Same.refl _, hr', .inr (.inr (.inl ⟨rfl, fun u2 a2 => ⟨[], true, r.hs, _, rfl, a2, _, rfl, H, t, Same.refl _, ht, .inr (.inr (.inl ⟨rfl, fun u3 a3 => ⟨[], true, t.hs, _, rfl, a3, _, _, rfl, rfl, ?_⟩⟩))⟩⟩))⟩
      show Q (V.bl (decide (r.hs.sum < t.hs.sum))) H
      rw [decide_eq_true lt]
      exact q
    · have e : r.hs.sum = t.hs.sum := V.int.inj c
      have hf2 : r.au < t.au ∨ (r.au = t.au ∧ r.nu < t.nu) := by
        rcases hf with h | h
        · omega
        · exact h.2
      refine ⟨_, rfl, H, r, Same.refl _, hr', .inl ⟨rfl, _, rfl, H, t, Same.refl _, ht, .inl ⟨rfl, rfl, _, rfl, ?_⟩⟩⟩
      refine ite_not (fun c2 => ?_) (fun c2 => ?_)
      · have lt : r.au < t.au := by
          rcases hf2 with h | h
          · exact h
          · exact absurd (by rw [h.1]) c2
        refine ⟨_, rfl, H, r, Same.refl _, hr', .inl ⟨rfl, _, rfl, H, t, Same.refl _, ht, .inl ⟨rfl, _, _, rfl, rfl, ?_⟩⟩⟩
        show Q (V.bl (decide (r.au < t.au))) H
        rw [decide_eq_true lt]
        exact q
      · have e2 : r.au = t.au := V.int.inj c2
        have lt : r.nu < t.nu := by
          rcases hf2 with h | h
          · omega
          · exact h.2
        refine ⟨_, rfl, H, r, Same.refl _, hr', .inr (.inl ⟨rfl, _, rfl, H, t, Same.refl _, ht, .inr (.inl ⟨rfl, _, _, rfl, rfl, ?_⟩)⟩)⟩
        show Q (V.bl (decide (r.nu < t.nu))) H
        rw [decide_eq_true lt]
        exact q
/-! ### the past, by the law -/
def sp_is_past : Sp := fun vs H Q _ => ∃ (v u : V) (r : Row) (a n : Int), vs = [v, u] ∧ At H (.seq false [.int a, .int n]) v ∧ At H (rowD r) u ∧ Q (.bl (pastB a n r.hs)) H
theorem ok_is_past {f : Addr} {fd : FuncData} (F : Fun K "_law_is_past" "_law_is_past" s_law_is_past f fd) (T : Txt K mg) : FnOk P w K mg base CX0 1 f fd ["name", "row"] sp_is_past := by
  refine F.ok sc_law_is_past (fun vs H Q E h => ?_) (fun cdv A outer s H vs Q E hr h => ?_)
  · obtain ⟨v, u, r, a, n, rfl, _⟩ := h
    rfl
  · obtain ⟨v, u, r, a, n, rfl, hv, hu, q⟩ := h
    refine ⟨_, (pss_one (ps_ret (pe_and (pe_cmpR op_le pe_int (pe_ix ix_D (pv 0) pe_int (fun _ _ => rfl)) (nomark _)) (pe_and (pe_cmpR op_lt (pe_ix ix_D (pv 0) pe_int (fun _ _ => rfl)) (pe_callB call_lenD (by rfl) T.n_len (by decide +kernel) (pa_cons (pe_ix ix_row (pv 1) pe_int (fun _ _ => rfl)) pa_nil)) (nomark _)) (pe_and (pe_cmpR op_le pe_int (pe_ix ix_D (pv 0) pe_int (fun _ _ => rfl)) (nomark _)) (pe_one (pe_cmpR op_le (pe_ix ix_D (pv 0) pe_int (fun _ _ => rfl)) (pe_ix ix_D (pe_ix ix_row (pv 1) pe_int (fun _ _ => rfl)) (pe_ix ix_D (pv 0) pe_int (fun _ _ => rfl)) (fun _ _ => rfl)) (nomark _)))))))), ?_⟩
    refine ⟨_, rfl, [], false, _, 0, rfl, hv, by decide, (by show (0 : Int) < 2; decide), fun d1 u1 hd1 hu1 => ?_⟩
    cases (show some (D.int a) = some d1 from hd1)
    obtain rfl : u1 = .int a := hu1
    refine ⟨_, _, rfl, rfl, _, rfl, ite_some (fun h1 => ?_) (fun h1 => ?_)⟩
    rotate_left
    · rw [pastB, decide_eq_false (fun z => h1 z.1)] at q
      exact q
    refine ⟨_, rfl, [], false, _, 0, rfl, hv, by decide, (by show (0 : Int) < 2; decide), fun d1 u1 hd1 hu1 => ?_⟩
    cases (show some (D.int a) = some d1 from hd1)
    obtain rfl : u1 = .int a := hu1
    refine ⟨_, rfl, H, r, Same.refl _, hu, .inr (.inr (.inl ⟨rfl, fun u2 a2 => ⟨[], true, _, _, rfl, a2, _, _, rfl, rfl, _, rfl, ite_some (fun h2 => ?_) (fun h2 => ?_)⟩⟩))⟩
    rotate_left
    · rw [List.length_map] at h2
      rw [pastB, decide_eq_false (fun z => h2 z.2)] at q
      exact q
    rw [List.length_map] at h2
    refine ⟨_, rfl, [], false, _, 1, rfl, hv, by decide, (by show (1 : Int) < 2; decide), fun d1 u1 hd1 hu1 => ?_⟩
    cases (show some (D.int n) = some d1 from hd1)
    obtain rfl : u1 = .int n := hu1
    refine ⟨_, _, rfl, rfl, _, rfl, ite_some (fun h3 => ?_) (fun h3 => ?_)⟩
    rotate_left
    · rw [pastB, decide_eq_true (And.intro h1 h2), decide_eq_false h3] at q
      exact q
    refine ⟨_, rfl, [], false, _, 1, rfl, hv, by decide, (by show (1 : Int) < 2; decide), fun d1 u1 hd1 hu1 => ?_⟩
    cases (show some (D.int n) = some d1 from hd1)
    obtain rfl : u1 = .int n := hu1
    refine ⟨_, rfl, H, r, Same.refl _, hu, .inr (.inr (.inl ⟨rfl, fun u3 a3 => ?_⟩))⟩
    refine ⟨_, rfl, [], false, _, 0, rfl, hv, by decide, (by show (0 : Int) < 2; decide), fun d1 u1 hd1 hu1 => ?_⟩
    cases (show some (D.int a) = some d1 from hd1)
    obtain rfl : u1 = .int a := hu1
    refine ⟨[], true, _, a, rfl, a3, h1, by rw [List.length_map]; exact h2, fun d u4 hd hu4 => ?_⟩
    rw [List.getElem?_map] at hd
    cases hz : r.hs[a.toNat]? with
    | none => rw [hz] at hd; cases hd
    | some z =>
      rw [hz] at hd
      cases hd
      obtain rfl : u4 = .int z := hu4
      refine ⟨_, _, rfl, rfl, ?_⟩
      rw [pastB, decide_eq_true (And.intro h1 h2), decide_eq_true h3, List.getD_eq_getElem?_getD, hz] at q
      exact q
end
end Kw
set_option Elab.async false
set_option linter.all false
set_option maxRecDepth 100000
set_option maxHeartbeats 16000000
namespace Kw
open PySem PySem.Spec PyProof.Rows L2
/-- changes and the rows that they were made of -/
def Made (C : Addr) (H : Hp) (cs : List Addr) (rs : List Row) : Prop := cs.length = rs.length ∧ ∀ (i : Nat) c r, cs[i]? = some c → rs[i]? = some r → CA C H c r
theorem Made.same {C : Addr} {H H' : Hp} {cs : List Addr} {rs : List Row} (h : Made C H cs rs) (s : Same H H') : Made C H' cs rs := ⟨h.1, fun i c r h1 h2 => (h.2 i c r h1 h2).same s⟩
theorem at_ref {cs : List Addr} {i : Nat} {v : V} (h : (cs.map V.ref)[i]? = some v) : ∃ c, cs[i]? = some c ∧ v = .ref c := by
  rw [List.getElem?_map] at h
  cases e : cs[i]? with
  | none => rw [e] at h; cases h
  | some z => rw [e] at h; exact ⟨z, rfl, (Option.some.inj h).symm⟩
def sp_asks (K : PySem.W.Frag) (C : Addr) : Sp := fun vs H Q _ => ∃ (a b : Addr) (v : V) (ds : List Int) (rs : List Row) (cs : List Addr), vs = [.ref a, v, .ref b] ∧ SqL K H a (ds.map V.int) ∧ Dr ds ∧ At H (.seq true (rs.map rowD)) v ∧ RowsOk rs ∧ H b = some (.lst (cs.map V.ref)) ∧ Made C H cs rs ∧
  ∀ H', Same H H' → Q (.bl true) H'
section
variable {P : Program} {w : World} {K : PySem.W.Frag} {mg : Str → Option Value} {base : Heap}
theorem ok_asks {f C : Addr} {fd : FuncData} (F : Fun K "_law_asks_past" "_law_asks_past" s_law_asks_past f fd) (T : Txt K mg) (c_law_at : CalX P w K mg base CX0 2 "_law_at" (sp_at K)) (c_in_past : CalX P w K mg base CX0 1 "in_past" (sp_past C)) (c_law_is_past : CalX P w K mg base CX0 1 "_law_is_past" sp_is_past) :
    FnOk P w K mg base CX0 3 f fd ["draws", "rows", "changes"] (sp_asks K C) := by
  refine F.ok sc_law_asks_past (fun vs H Q E h => ?_) (fun cdv A outer s H vs Q E hr h => ?_)
  · obtain ⟨a, b, v, ds, rs, cs, rfl, _⟩ := h
    rfl
  · obtain ⟨a, b, v, ds, rs, cs, rfl, hS, hd, hv, ok, hb, md, q⟩ := h
    refine ⟨_, (pss_cons (ps_for PassesOwn.never rfl (pi_range1 (by rfl) T.n_range (pa_cons (pe_callB call_lenD (by rfl) T.n_len (by decide +kernel) (pa_cons (pv 1) pa_nil)) pa_nil)) (pg_name (i := 3) sc_law_asks_past.nd rfl (Or.inl rfl)) (pss_one (ps_for PassesOwn.never rfl (pi_range2 (by rfl) T.n_range (pa_cons (pe_un un_neg pe_int) (pa_cons pe_int pa_nil))) (pg_name (i := 4) sc_law_asks_past.nd rfl (Or.inl rfl)) (pss_cons (ps_set (i := 5) sc_law_asks_past.nd rfl (Or.inl rfl) (pe_op op_add pe_int (pe_op op_mod (pe_cx c_law_at (hr.mono (by omega)) (by rfl) pass0 (pa_cons (pv 0) (pa_cons (pe_op op_add (pe_op op_add pe_int (pe_op op_mul pe_int (pv 3))) (pv 4)) pa_nil))) (pe_ix ix_listA (pe_lst (pa_cons pe_int (pa_cons pe_int (pa_cons pe_int pa_nil)))) (pe_op op_mod (pe_cx c_law_at (hr.mono (by omega)) (by rfl) pass0 (pa_cons (pv 0) (pa_cons pe_int pa_nil))) pe_int) (fun _ _ => rfl)))))
        (C8.pss_cut (ps_if (PW.pt (pw_and (pt_cmpR op_le pe_int (pv 4) (nomark _)) (pw_and (pt_cmpR op_lt (pv 4) (pe_callB call_lenD (by rfl) T.n_len (by decide +kernel) (pa_cons (pe_ix ix_row (pe_ix ix_rows (pv 1) (pv 3) (fun _ _ => rfl)) pe_int (fun _ _ => rfl)) pa_nil)) (nomark _)) (pw_and1 (pt_cmpR op_eq (pe_op op_mod (pe_cx c_law_at (hr.mono (by omega)) (by rfl) pass0 (pa_cons (pv 0) (pa_cons (pe_op op_add pe_int (pv 3)) pa_nil))) pe_int) pe_int (nomark _)))))) (pss_one (ps_set (i := 5) sc_law_asks_past.nd rfl (Or.inl rfl) (pe_callB (call_max2 rfl) (by rfl) T.n_max (by decide +kernel) (pa_cons pe_int (pa_cons (pe_op op_add (pe_ix ix_D (pe_ix ix_row (pe_ix ix_rows (pv 1) (pv 3) (fun _ _ => rfl)) pe_int (fun _ _ => rfl)) (pv 4) (fun _ _ => rfl)) (pe_op op_mod (pe_cx c_law_at (hr.mono (by omega)) (by rfl) pass0 (pa_cons (pv 0) (pa_cons (pe_op op_add (pe_op op_add pe_int (pv 3)) (pv 4)) pa_nil))) pe_int)) pa_nil))))) pss_nil)
        (C8.pss_cut (ps_if (pt_cmpR op_eq (pe_op op_mod (pe_cx c_law_at (hr.mono (by omega)) (by rfl) pass0 (pa_cons (pv 0) (pa_cons (pe_op op_add (pe_op op_add pe_int (pv 3)) (pv 4)) pa_nil))) pe_int) pe_int (nomark _)) (pss_one (ps_set (i := 5) sc_law_asks_past.nd rfl (Or.inl rfl) (pe_op op_sub (pe_op op_mod (pe_cx c_law_at (hr.mono (by omega)) (by rfl) pass0 (pa_cons (pv 0) (pa_cons (pe_op op_add pe_int (pv 3)) pa_nil))) pe_int) pe_int))) pss_nil)
        (pss_cons (ps_set (i := 6) sc_law_asks_past.nd rfl (Or.inl rfl) (pe_cx c_in_past (hr.mono (by omega)) (by rfl) pass0 (pa_cons (pe_tup (pa_cons (pv 4) (pa_cons (pv 5) pa_nil))) (pa_cons (pe_ix ix_listA (pv 2) (pv 3) (fun _ _ => rfl)) pa_nil))))
        (pss_one (ps_if (PW.pt (pw_or (pt_not (pt_val (pe_callB call_isi (by rfl) T.n_isinstance (by decide +kernel) (pa_cons (pv 6) (pa_cons (pe_bltn (v := .ty "bool") (by rfl) T.n_bool (by decide +kernel) rfl) pa_nil))))) (pw_or1 (pt_cmpR op_ne (pv 6) (pe_cx c_law_is_past (hr.mono (by omega)) (by rfl) pass0 (pa_cons (pe_tup (pa_cons (pv 4) (pa_cons (pv 5) pa_nil))) (pa_cons (pe_ix ix_rows (pv 1) (pv 3) (fun _ _ => rfl)) pa_nil))) (nomark _))))) (pss_one (ps_ret pe_bl)) pss_nil)))))))))
        (pss_one (ps_ret pe_bl))), ?_⟩
    have lr := ok.len
    have ml : (rs.map rowD).length = rs.length := List.length_map _
    have lc := md.1
    refine ⟨_, rfl, [], true, _, _, rfl, hv, _, rfl, by omega, by omega, for_range (lo := 0) (n := (((rs.map rowD).length : Nat) : Int).toNat) (fun k σ H' => ∃ v3 v4 v5 v6 : Option V, σ = [some (.ref a), some v, some (.ref b), v3, v4, v5, v6] ∧ Same H H')
      ⟨none, none, none, none, rfl, Same.refl _⟩ ?_ ?_⟩
    rotate_left
    · rintro σ H' ⟨v3, v4, v5, v6, rfl, s1⟩
      exact q H' s1
    rintro k σ H1 hk ⟨v3, v4, v5, v6, rfl, s1⟩
    have hk2 : k < rs.length := by omega
    obtain ⟨r, hr'⟩ := some_at hk2
    obtain ⟨c, hc⟩ := some_at (l := cs) (i := k) (by omega)
    have hca := md.2 k c r hc hr'
    have ro := ok.all r (List.mem_of_getElem? hr')
    refine ⟨9, rfl, _, _, rfl, ⟨by decide, by decide, by decide, by decide⟩, for_range (lo := -9) (n := 21) (fun j σ H' => ∃ v4 v5 v6 : Option V, σ = [some (.ref a), some v, some (.ref b), some (.int (0 + (k : Int))), v4, v5, v6] ∧ Same H H')
      ⟨v4, v5, v6, rfl, s1⟩ ?_ ?_⟩
    rotate_left
    · rintro σ H' ⟨v4, v5, v6, rfl, s2⟩
      exact ⟨_, _, _, _, rfl, s2⟩
    rintro j σ H2 hj ⟨v4', v5', v6', rfl, s2⟩
    -- number
    refine ⟨_, rfl, _, rfl, _, _, rfl, rfl, .inl ⟨by decide, by decide⟩, _, _, rfl, rfl, _, rfl, _, _, rfl, rfl, a, ds, _, rfl, s2.seq hS, hd, by omega, fun e1 _ _ => ⟨(by show 3 ≤ sizeLine; decide), fun p hp => ?_⟩⟩
    have s3 := s2.trans (Same.new (o := .lst [.int 4, .int 3, .int 9973]) hp)
    refine ⟨_, rfl, a, ds, 4, rfl, s3.seq hS, hd, by decide, fun e2 _ _ => ⟨_, _, rfl, rfl, (by show (0 : Int) < 3; decide), p, _, e2 % 3, rfl, rfl, SqL.of upd_same, Int.emod_nonneg _ (by decide), Int.emod_lt_of_pos _ (by decide), fun u hu => ?_⟩⟩
    obtain ⟨lim, rfl, l0⟩ : ∃ lim : Int, u = .int lim ∧ 0 < lim := by
      have y0 : 0 ≤ e2 % 3 := Int.emod_nonneg _ (by decide)
      have y1 : e2 % 3 < 3 := Int.emod_lt_of_pos _ (by decide)
      have : e2 % 3 = 0 ∨ e2 % 3 = 1 ∨ e2 % 3 = 2 := by omega
      rcases this with z | z | z
      · rw [z] at hu
        exact ⟨4, (Option.some.inj hu).symm, by decide⟩
      · rw [z] at hu
        exact ⟨3, (Option.some.inj hu).symm, by decide⟩
      · rw [z] at hu
        exact ⟨9973, (Option.some.inj hu).symm, by decide⟩
    refine ⟨_, _, rfl, rfl, l0, _, _, rfl, rfl, ?_⟩
    generalize upd H2 p _ = H3 at s3 ⊢
    let Mid : L2.St → Hp → Prop := fun σ H' => ∃ nn : Int, σ = [some (.ref a), some v, some (.ref b), some (.int (0 + (k : Int))), some (.int (-9 + (j : Int))), some (.int nn), v6'] ∧ Same H H'
    have m3 : ∀ nn : Int, Mid [some (.ref a), some v, some (.ref b), some (.int (0 + (k : Int))), some (.int (-9 + (j : Int))), some (.int nn), v6'] H3 := fun nn => ⟨nn, rfl, s3⟩
    refine ⟨Mid, ?_, ?_⟩
    · refine ⟨_, rfl, _, _, rfl, rfl, _, rfl, ite_some (fun h1 => ?_) (fun h1 => m3 _)⟩
      refine ⟨_, rfl, _, rfl, _, rfl, H, rs, _, s3, hv, rfl, by omega, by omega, fun r1 u1 hr1 hu1 => ?_⟩
      have er : r1 = r := by
        have : (0 + (k : Int)).toNat = k := by omega
        rw [this, hr'] at hr1
        exact (Option.some.inj hr1).symm
      subst er
      refine ⟨H, r1, s3, hu1, .inr (.inr (.inl ⟨rfl, fun u2 a2 => ⟨[], true, _, _, rfl, At.same s3 _ _ a2, _, _, rfl, rfl, _, rfl, ite_some (fun h2 => ?_) (fun h2 => m3 _)⟩⟩))⟩
      refine ⟨_, rfl, _, rfl, _, _, rfl, rfl, a, ds, _, rfl, s3.seq hS, hd, by omega, fun e4 _ _ => ⟨_, _, rfl, rfl, (by show (0 : Int) < 2; decide), rfl, _, rfl, int_eq (fun c1 => ?_) (fun c1 => m3 _)⟩⟩
      refine ⟨_, rfl, _, rfl, H, rs, _, s3, hv, rfl, by omega, by omega, fun r2 u3 hr2 hu3 => ?_⟩
      have er : r2 = r1 := by
        have : (0 + (k : Int)).toNat = k := by omega
        rw [this, hr'] at hr2
        exact (Option.some.inj hr2).symm
      subst er
      refine ⟨H, r2, s3, hu3, .inr (.inr (.inl ⟨rfl, fun u4 a4 => ⟨_, rfl, [], true, _, _, rfl, At.same s3 _ _ a4, h1, h2, fun d u5 hd5 hu5 => ?_⟩⟩))⟩
      rw [List.getElem?_map] at hd5
      cases hz : r2.hs[(-9 + (j : Int)).toNat]? with
      | none => rw [hz] at hd5; cases hd5
      | some z =>
        rw [hz] at hd5
        cases hd5
        obtain rfl : u5 = .int z := hu5
        refine ⟨_, rfl, _, rfl, _, _, rfl, rfl, _, rfl, _, _, rfl, rfl, a, ds, _, rfl, s3.seq hS, hd, by omega, fun e6 _ _ => ⟨_, _, rfl, rfl, (by show (0 : Int) < 2; decide), _, _, rfl, rfl, _, _, rfl, m3 _⟩⟩
    rintro σ H4 ⟨nn, rfl, s4⟩
    refine ⟨Mid, ?_, ?_⟩
    · refine ⟨_, rfl, _, rfl, _, _, rfl, rfl, _, rfl, _, _, rfl, rfl, a, ds, _, rfl, s4.seq hS, hd, by omega, fun e6 _ _ => ⟨_, _, rfl, rfl, (by show (0 : Int) < 4; decide), rfl, _, rfl, int_eq (fun c1 => ?_) (fun c1 => ⟨_, rfl, s4⟩)⟩⟩
      refine ⟨_, rfl, _, rfl, _, _, rfl, rfl, a, ds, _, rfl, s4.seq hS, hd, by omega, fun e7 _ _ => ⟨_, _, rfl, rfl, (by show (0 : Int) < 3; decide), _, _, rfl, rfl, ⟨_, rfl, s4⟩⟩⟩
    rintro σ H5 ⟨n5, rfl, s5⟩
    -- asked
    refine ⟨_, rfl, _, rfl, (by show 2 ≤ sizeLine; decide), fun p5 hp5 => ?_⟩
    have w5 := Same.new (o := .tup [.int (-9 + (j : Int)), .int n5]) hp5
    have s6 := s5.trans w5
    refine ⟨_, rfl, _, rfl, b, _, _, rfl, rfl, SqL.of (s6 _ _ hb), by omega, by rw [List.length_map]; omega, fun u hu => ?_⟩
    have ek : (0 + (k : Int)).toNat = k := by omega
    obtain ⟨c2, hc2, rfl⟩ := at_ref hu
    rw [ek, hc] at hc2
    cases hc2
    refine ⟨c, r, _, _, _, rfl, hca.same s6, ⟨p5, _, rfl, upd_same, AtL.cons rfl (AtL.one rfl), (by show 2 ≤ 16000000; decide)⟩, fun H6 s7 => ?_⟩
    have s8 := s6.trans s7
    refine ⟨_, rfl, .bl _, .ty "bool", .type "bool", _, true, rfl, .ty _, .base (.bl _), kit_ty (by decide +kernel), _, rfl, iteF ?_⟩
    refine ⟨_, rfl, _, rfl, _, rfl, (by show 2 ≤ sizeLine; decide), fun p6 hp6 => ?_⟩
    have w6 := Same.new (o := .tup [.int (-9 + (j : Int)), .int n5]) hp6
    have s9 := s8.trans w6
    refine ⟨_, rfl, _, rfl, H, rs, _, s9, hv, rfl, by omega, by omega, fun r1 u1 hr1 hu1 => ?_⟩
    rw [ek, hr'] at hr1
    cases hr1
    refine ⟨_, _, r, _, _, rfl, ⟨p6, _, rfl, upd_same, AtL.cons rfl (AtL.one rfl), (by show 2 ≤ 16000000; decide)⟩, At.same s9 _ _ hu1, rfl, _, rfl, iteNS rfl ?_⟩
    exact ⟨_, _, _, rfl, s9⟩
end
end Kw
set_option Elab.async false
set_option linter.all false
set_option maxRecDepth 100000
set_option maxHeartbeats 16000000
namespace Kw
open PySem PySem.Spec PyProof.Rows L2
/-! ### names as data -/
def pairD (p : Int × Int) : PyData := .tuple [.int p.1, .int p.2]
def pairA (p : Int × Int) : D := .seq false [.int p.1, .int p.2]
theorem dp_pair {K : PySem.W.Frag} {H : Hp} {p : Int × Int} {v : V} (h : At H (pairA p) v) : Dp K H v (pairD p) := by
  obtain ⟨q, xs, rfl, hp, ⟨_, _, rfl, rfl, _, _, rfl, rfl, rfl⟩, _⟩ := h
  exact .tup (SqT.of hp) (.cons (.int _) (.cons (.int _) .nil))
theorem eqv_pair (p q : Int × Int) : PyData.eqv (pairD p) (pairD q) = decide (p = q) := by
  obtain ⟨a, b⟩ := p
  obtain ⟨c, d⟩ := q
  have e : ∀ x y : Int, (x == y) = decide (x = y) := fun x y => rfl
  simp [pairD, PyData.eqv, PyData.eqvAll, e]
theorem dp_pairs {K : PySem.W.Frag} {H : Hp} : ∀ {ps : List (Int × Int)} {xs : List V}, AtL H (ps.map pairA) xs → DpAll K H xs (ps.map pairD)
  | [], xs, h => by
    rw [show xs = [] from h]
    exact .nil
  | p :: ps, xs, h => by
    obtain ⟨x, ys, rfl, h1, h2⟩ := h
    exact .cons (dp_pair h1) (dp_pairs h2)
theorem lay_pairs : ∀ ps : List (Int × Int), PyData.canLayAll0 (ps.map pairD) = true
  | [] => rfl
  | p :: ps => by
    have := lay_pairs ps
    simp [PyData.canLayAll0, PyData.canLay0, pairD] at this ⊢
    exact this
theorem dep_pairs : ∀ ps : List (Int × Int), PyData.depthAll (ps.map pairD) ≤ 3
  | [] => by simp [PyData.depthAll]
  | p :: ps => by
    have := dep_pairs ps
    simp only [List.map_cons, PyData.depthAll, pairD, PyData.depth] at this ⊢
    omega
theorem shaped_pair (p : Int × Int) : SeqAt.shaped (pairD p) = true := by simp [SeqAt.shaped, pairD, PyData.canLay0, PyData.canLayAll0, PyData.depth, PyData.depthAll]
theorem shaped_pairs (ps : List (Int × Int)) : SeqAt.shaped (.list (ps.map pairD)) = true := by
  have h1 := lay_pairs ps
  have h2 := dep_pairs ps
  have h3 : PyData.depth (.list (ps.map pairD)) ≤ 64 := by
    simp only [PyData.depth]
    omega
  simp [SeqAt.shaped, PyData.canLay0, h1, h3]
theorem eqv_pairs (ps : List (Int × Int)) : PyData.eqv (.list (ps.map pairD)) (.list (ps.map pairD)) = true :=
  SeqAt.eqv_refl _ (by
    have h1 := lay_pairs ps
    simp [PyData.canLay0, h1])
/-! ### the order -/
def Lex (b d : Chg) : Prop := b.tot < d.tot ∨ (b.tot = d.tot ∧ (b.au < d.au ∨ (b.au = d.au ∧ b.nu < d.nu)))
instance (b d : Chg) : Decidable (Lex b d) := by unfold Lex; infer_instance
theorem key_lt (b d : Chg) : PySem.W.dataLt b.key d.key = decide (Lex b d) := by
  show PySem.W.dataLt (.tuple ([b.tot, b.au, b.nu].map PyData.int)) (.tuple ([d.tot, d.au, d.nu].map PyData.int)) = _
  rw [PySem.W.dataLt_tuple]
  have := PySem.W.dataLt_ints [b.tot, b.au, b.nu] [d.tot, d.au, d.nu]
  unfold PySem.W.rowLt at this
  rw [this]
  refine decide_eq_decide.mpr ?_
  simp only [List.cons_lt_cons_iff, List.not_lt_nil, and_false, or_false, Lex]
theorem sortC_le (bs : List Chg) : (sortC bs).Pairwise fun b d => ¬ Lex d b := by
  have := PySem.W.sort_pairwise (PySem.W.sortLe_total (listOrd itemOrd) false fun b => PySem.W.keyToks (Chg.key b)) bs
  refine List.Pairwise.imp (fun {b d} h => ?_) this
  have h2 : (!PySem.W.dataLt d.key b.key) = true := h
  rw [key_lt] at h2
  intro z
  rw [decide_eq_true z] at h2
  cases h2
def pr (r : Row) : Int × Int := (r.au, r.nu)
def prC (b : Chg) : Int × Int := (b.au, b.nu)
def bsOf (cs : List Addr) (rs : List Row) : List Chg := (cs.zip rs).map fun p => chgOf p.1 p.2
structure Ord (cs : List Addr) (rs : List Row) (sb : List Chg) : Prop where
  len : sb.length = rs.length
  mem : ∀ b ∈ sb, ∃ (k : Nat) (c : Addr) (r : Row), cs[k]? = some c ∧ rs[k]? = some r ∧ b = chgOf c r
  ne : sb.Pairwise fun b d => prC b ≠ prC d
  lt : sb.Pairwise Lex
theorem bs_at {cs : List Addr} {rs : List Row} {k : Nat} {b : Chg} (h : (bsOf cs rs)[k]? = some b) : ∃ c r, cs[k]? = some c ∧ rs[k]? = some r ∧ b = chgOf c r := by
  rw [bsOf, List.getElem?_map] at h
  cases e : (cs.zip rs)[k]? with
  | none => rw [e] at h; cases h
  | some p =>
    rw [e] at h
    obtain ⟨e1, e2⟩ := List.getElem?_zip_eq_some.mp e
    exact ⟨p.1, p.2, e1, e2, (Option.some.inj h).symm⟩
theorem ord_of {cs : List Addr} {rs : List Row} (hl : cs.length = rs.length) (ok : RowsOk rs) : Ord cs rs (sortC (bsOf cs rs)) := by
  have perm : (sortC (bsOf cs rs)).Perm (bsOf cs rs) := List.mergeSort_perm _ _
  have nb : (bsOf cs rs).Pairwise fun b d => prC b ≠ prC d := by
    rw [List.pairwise_iff_getElem]
    intro i j hi hj hij
    obtain ⟨c, r, _, h2, e⟩ := bs_at (List.getElem?_eq_getElem hi)
    obtain ⟨c', r', _, h2', e'⟩ := bs_at (List.getElem?_eq_getElem hj)
    have li := (List.getElem?_eq_some_iff.mp h2)
    have lj := (List.getElem?_eq_some_iff.mp h2')
    have := (List.pairwise_iff_getElem.mp ok.ne) i j li.1 lj.1 hij
    rw [li.2, lj.2] at this
    rw [e, e']
    intro z
    have z' : (r.au, r.nu) = (r'.au, r'.nu) := z
    exact this ⟨(Prod.mk.inj z').1, (Prod.mk.inj z').2⟩
  have ns : (sortC (bsOf cs rs)).Pairwise fun b d => prC b ≠ prC d := (List.Perm.pairwise_iff (fun {b d} h z => h z.symm) perm).mpr nb
  refine ⟨?_, fun b hb => ?_, ns, ?_⟩
  · rw [sortC_length, bsOf, List.length_map, List.length_zip]
    omega
  · obtain ⟨k, hk⟩ := List.getElem?_of_mem (perm.mem_iff.mp hb)
    obtain ⟨c, r, h1, h2, e⟩ := bs_at hk
    exact ⟨k, c, r, h1, h2, e⟩
  · refine List.Pairwise.imp₂ (fun b d h1 h2 => ?_) (sortC_le (bsOf cs rs)) ns
    have h2' : ¬ (b.au = d.au ∧ b.nu = d.nu) := fun z => h2 (by unfold prC; rw [z.1, z.2])
    unfold Lex at h1 ⊢
    omega
theorem filt_one {n k : Nat} (h : k < n) : (List.range n).filter (fun j => decide (j = k)) = [k] := by
  induction n with
  | zero => omega
  | succ n ih =>
    rw [List.range_succ, List.filter_append]
    by_cases c : k < n
    · rw [ih c, List.filter_cons, if_neg (by simp; omega), List.filter_nil, List.append_nil]
    · have : k = n := by omega
      subst this
      have : (List.range k).filter (fun j => decide (j = k)) = [] := by
        rw [List.filter_eq_nil_iff]
        intro j hj
        have := List.mem_range.mp hj
        simp
        omega
      rw [this, List.filter_cons, if_pos (by simp), List.filter_nil]
      rfl
theorem flat {S : List Addr} {H : Hp} {p : Int × Int} {v : V} (hS : ∀ x ∈ S, ∀ ys, H x ≠ some (.tup ys)) (h : At H (pairA p) v) : At (hidS S H) (pairA p) v := by
  obtain ⟨q, xs, rfl, hp, ⟨_, _, rfl, rfl, _, _, rfl, rfl, rfl⟩, z⟩ := h
  refine ⟨q, _, rfl, ?_, AtL.cons rfl (AtL.one rfl), z⟩
  rw [hidS_eq, if_neg (fun z => hS q z _ hp)]
  exact hp
end Kw
set_option Elab.async false
set_option linter.all false
set_option maxRecDepth 100000
set_option maxHeartbeats 16000000
namespace Kw
open PySem PySem.Spec PyProof.Rows L2
theorem if_f {b : Bool} {A B : Prop} (h : b = false) (q : B) : if b = true then A else B := by
  subst h
  exact iteF q
/-- values that are addresses -/
theorem refs_of {P : Nat → Addr → Prop} : ∀ {zs : List V}, (∀ (i : Nat) v, zs[i]? = some v → ∃ c, v = V.ref c ∧ P i c) → ∃ cs : List Addr, zs = cs.map V.ref ∧ ∀ (i : Nat) c, cs[i]? = some c → P i c := by
  intro zs
  induction zs generalizing P with
  | nil => exact fun _ => ⟨[], rfl, fun i c h => by simp at h⟩
  | cons v vs ih =>
    intro h
    obtain ⟨c, rfl, hc⟩ := h 0 v rfl
    obtain ⟨cs, e, hp⟩ := ih (P := fun i c => P (i + 1) c) fun i v hv => h (i + 1) v (by simpa using hv)
    refine ⟨c :: cs, by rw [e]; rfl, fun i d hd => ?_⟩
    cases i with
    | zero =>
      have : c = d := by simpa using hd
      rw [← this]
      exact hc
    | succ i => exact hp i d (by simpa using hd)
def sp_law (K : PySem.W.Frag) : Sp := fun vs H Q _ => ∃ (a : Addr) (ns : List Int), vs = [.ref a] ∧ SqL K H a (ns.map V.int) ∧ ns.length ≤ 63 ∧ ∀ H', Q (.bl true) H'
section
variable {P : Program} {w : World} {K : PySem.W.Frag} {mg : Str → Option Value} {base : Heap}
theorem ok_law {f C : Addr} {fd : FuncData} (F : Fun K "law" "law" s_law f fd) (T : Txt K mg) (c_law_draws : CalX P w K mg base CX0 2 "_law_draws" (sp_draws K)) (c_law_rows : CalX P w K mg base CX0 3 "_law_rows" (sp_rows K)) (c_law_change : CalX P w K mg base CX0 3 "_law_change" (sp_change C))
    (c_law_at : CalX P w K mg base CX0 2 "_law_at" (sp_at K)) (c_law_is_kept : CalX P w K mg base CX0 8 "_law_is_kept" (sp_kept C)) (c_in_order : CalX P w K mg base CX0 4 "in_order" (sp_order C)) (m_Change_name : MetX P w K mg base 1 C "name" (sp_name C))
    (c_law_comes_first : CalX P w K mg base CX0 1 "_law_comes_first" sp_first) (c_law_asks_past : CalX P w K mg base CX0 3 "_law_asks_past" (sp_asks K C)) : FnOk P w K mg base CX0 9 f fd ["script"] (sp_law K) := by
  refine F.ok sc_law (fun vs H Q E h => ?_) (fun cdv A outer s H vs Q E hr h => ?_)
  · obtain ⟨a, ns, rfl, _⟩ := h
    rfl
  · obtain ⟨a, ns, rfl, hS, hlen, q⟩ := h
    refine ⟨_, (pss_cons (ps_set (i := 1) sc_law.nd rfl (Or.inr rfl) (pe_cx c_law_draws (hr.mono (by omega)) (by rfl) pass0 (pa_cons (pv 0) pa_nil)))
        (pss_cons (ps_set (i := 2) sc_law.nd rfl (Or.inr rfl) (pe_cx c_law_rows (hr.mono (by omega)) (by rfl) pass0 (pa_cons (pv 1) pa_nil)))
        (pss_cons (ps_setLc (i := 3) (own := [("k", 4)]) (g := gName 4) (te := tFr _) rfl sc_law.nd rfl rfl (sw_true rfl rfl rfl (by decide +kernel)) (pi_range1 (by rfl) T.n_range (pa_cons (pe_callB call_lenD (by rfl) T.n_len (by decide +kernel) (pa_cons (pv 2) pa_nil)) pa_nil)) (blkOk_by (own := [("k", 4)]) (N := N_law) (sc := defScope s_law) (by decide +kernel)) (fun _ _ _ _ _ => pg_name (i := 4) sc_law.nd rfl (Or.inl rfl)) (fun _ _ _ _ _ => pts_nil) (fun _ _ _ _ _ => (pe_fr (pe_cx c_law_change (hr.mono (by omega)) (by rfl) pass0 (pa_cons (pe_ix ix_rows (pv 2) (pv 4) (fun _ _ => rfl)) (pa_cons (pe_cmpR op_eq (pe_op op_mod (pe_cx c_law_at (hr.mono (by omega)) (by rfl) pass0 (pa_cons (pv 1) (pa_cons (pe_op op_add pe_int (pv 4)) pa_nil))) pe_int) pe_int (nomark _)) pa_nil))))))
        (pss_cons (ps_for PassesOwn.never rfl (pi_range1 (by rfl) T.n_range (pa_cons (pe_callB call_lenD (by rfl) T.n_len (by decide +kernel) (pa_cons (pv 2) pa_nil)) pa_nil)) (pg_name (i := 4) sc_law.nd rfl (Or.inl rfl)) (pss_one (ps_if (pt_not (pt_val (pe_cx c_law_is_kept (hr.mono (by omega)) (by rfl) pass0 (pa_cons (pe_ix ix_listA (pv 3) (pv 4) (fun _ _ => rfl)) (pa_cons (pe_ix ix_rows (pv 2) (pv 4) (fun _ _ => rfl)) pa_nil))))) (pss_one (ps_ret pe_bl)) pss_nil)))
        (pss_cons (ps_set (i := 5) sc_law.nd rfl (Or.inl rfl) (pe_callTy call_liD (by rfl) T.n_list (by decide +kernel) (pa_cons (pv 3) pa_nil)))
        (pss_cons (ps_set (i := 6) sc_law.nd rfl (Or.inl rfl) (pe_cx c_in_order (hr.mono (by omega)) (by rfl) pass0 (pa_cons (pv 5) pa_nil)))
        (pss_cons (ps_if (PW.pt (pw_or (pt_not (pt_val (pe_callB call_isi (by rfl) T.n_isinstance (by decide +kernel) (pa_cons (pv 6) (pa_cons (pe_bltn (v := .ty "list") (by rfl) T.n_list (by decide +kernel) rfl) pa_nil))))) (pw_or1 (pt_cmpR op_ne (pe_callB call_lenL (by rfl) T.n_len (by decide +kernel) (pa_cons (pv 6) pa_nil)) (pe_callB call_lenD (by rfl) T.n_len (by decide +kernel) (pa_cons (pv 2) pa_nil)) (nomark _))))) (pss_one (ps_ret pe_bl)) pss_nil)
        (pss_cons (ps_setLc (i := 7) (own := [("change", 11)]) (g := gName 11) (te := tFr _) rfl sc_law.nd rfl rfl (sw_true rfl rfl rfl (by decide +kernel)) (pi_list (pv 6)) (blkOk_by (own := [("change", 11)]) (N := N_law) (sc := defScope s_law) (by decide +kernel)) (fun _ _ _ _ _ => pg_name (i := 11) sc_law.nd rfl (Or.inl rfl)) (fun _ _ _ _ _ => pts_nil) (fun _ _ _ _ _ => (pe_fr (pe_mtx0 m_Change_name hr (by omega) (pv 11)))))
        (pss_cons (ps_set (i := 8) sc_law.nd rfl (Or.inl rfl) (pe_lst pa_nil))
        (pss_cons (ps_for PassesOwn.never rfl (pi_list (pv 7)) (pg_name (i := 9) sc_law.nd rfl (Or.inr rfl)) (pss_cons (ps_setLc (i := 10) (own := [("k", 4)]) (g := gName 4) rfl sc_law.nd rfl rfl (sw_true rfl rfl rfl (by decide +kernel)) (pi_range1 (by rfl) T.n_range (pa_cons (pe_callB call_lenD (by rfl) T.n_len (by decide +kernel) (pa_cons (pv 2) pa_nil)) pa_nil)) (blkOk_by (own := [("k", 4)]) (N := N_law) (sc := defScope s_law) (by decide +kernel)) (fun _ _ _ _ _ => pg_name (i := 4) sc_law.nd rfl (Or.inl rfl)) (fun _ _ _ _ _ => (pts_one (pt_cmpR (op_eqDK (K := K) rfl hr.units) (pe_tup (pa_cons (pe_ix ix_row (pe_ix ix_rows (pv 2) (pv 4) (fun _ _ => rfl)) pe_int (fun _ _ => rfl)) (pa_cons (pe_ix ix_row (pe_ix ix_rows (pv 2) (pv 4) (fun _ _ => rfl)) pe_int (fun _ _ => rfl)) pa_nil))) (pv 9) (nomark _)))) (fun _ _ _ _ _ => (pv 4)))
        (pss_cons (ps_if (PW.pt (pw_or (pt_cmpR op_ne (pe_callB call_lenL (by rfl) T.n_len (by decide +kernel) (pa_cons (pv 10) pa_nil)) pe_int (nomark _)) (pw_or1 (pt_cmpR op_in_seq (pe_ix ix_listA (pv 10) pe_int (fun _ _ => rfl)) (pv 8) (by with_unfolding_all rfl))))) (pss_one (ps_ret pe_bl)) pss_nil)
        (pss_one (ps_expr (pe_bm PySem.F.plainAttrs_list PySem.F.slot_list_append PySem.F.type_list_append mt_append (pv 8) (pa_cons (pe_ix ix_listA (pv 10) pe_int (fun _ _ => rfl)) pa_nil)))))))
        (pss_cons (ps_for PassesOwn.never rfl (pi_range1 (by rfl) T.n_range (pa_cons (pe_callB call_lenL (by rfl) T.n_len (by decide +kernel) (pa_cons (pv 8) pa_nil)) pa_nil)) (pg_name (i := 4) sc_law.nd rfl (Or.inl rfl)) (pss_cons (ps_if (pt_not (pt_val (pe_cx c_law_is_kept (hr.mono (by omega)) (by rfl) pass0 (pa_cons (pe_ix ix_listA (pv 6) (pv 4) (fun _ _ => rfl)) (pa_cons (pe_ix ix_rows (pv 2) (pe_ix ix_listA (pv 8) (pv 4) (fun _ _ => rfl)) (fun _ _ => rfl)) pa_nil))))) (pss_one (ps_ret pe_bl)) pss_nil)
        (pss_one (ps_if (PW.pt (pw_and (pt_cmpR op_gt (pv 4) pe_int (nomark _)) (pw_and1 (pt_not (pt_val (pe_cx c_law_comes_first (hr.mono (by omega)) (by rfl) pass0 (pa_cons (pe_ix ix_rows (pv 2) (pe_ix ix_listA (pv 8) (pe_op op_sub (pv 4) pe_int) (fun _ _ => rfl)) (fun _ _ => rfl)) (pa_cons (pe_ix ix_rows (pv 2) (pe_ix ix_listA (pv 8) (pv 4) (fun _ _ => rfl)) (fun _ _ => rfl)) pa_nil)))))))) (pss_one (ps_ret pe_bl)) pss_nil))))
        (pss_cons (ps_expr (pe_bm PySem.F.plainAttrs_list PySem.F.slot_list_append PySem.F.type_list_append mt_append (pv 6) (pa_cons pe_non pa_nil)))
        (pss_cons (ps_if (pt_cmpR (op_neD hr.units) (pe_lc (own := [("change", 11)]) (g := gName 11) (te := tFr _) (by rfl) sc_law.nd (pi_list (pv 5)) (blkOk_by (own := [("change", 11)]) (N := N_law) (sc := defScope s_law) (by decide +kernel)) (fun _ _ _ _ _ => pg_name (i := 11) sc_law.nd rfl (Or.inl rfl)) (fun _ _ _ _ _ => pts_nil) (fun _ _ _ _ _ => (pe_fr (pe_mtx0 m_Change_name hr (by omega) (pv 11))))) (pe_lc (own := [("row", 12)]) (g := gName 12) (te := tFr _) (by rfl) sc_law.nd (pi_sqv 2) (blkOk_by (own := [("row", 12)]) (N := N_law) (sc := defScope s_law) (by decide +kernel)) (fun _ _ _ _ _ => pg_name (i := 12) sc_law.nd rfl (Or.inl rfl)) (fun _ _ _ _ _ => pts_nil) (fun _ _ _ _ _ => (pe_fr (pe_tup (pa_cons (pe_ix ix_row (pv 12) pe_int (fun _ _ => rfl)) (pa_cons (pe_ix ix_row (pv 12) pe_int (fun _ _ => rfl)) pa_nil)))))) (nomark _)) (pss_one (ps_ret pe_bl)) pss_nil)
        (pss_cons (ps_if (pt_cmpR (op_neD hr.units) (pe_lc (own := [("change", 11)]) (g := gName 11) (te := tFr _) (by rfl) sc_law.nd (pi_list (pe_cx c_in_order (hr.mono (by omega)) (by rfl) pass0 (pa_cons (pv 5) pa_nil))) (blkOk_by (own := [("change", 11)]) (N := N_law) (sc := defScope s_law) (by decide +kernel)) (fun _ _ _ _ _ => pg_name (i := 11) sc_law.nd rfl (Or.inl rfl)) (fun _ _ _ _ _ => pts_nil) (fun _ _ _ _ _ => (pe_fr (pe_mtx0 m_Change_name hr (by omega) (pv 11))))) (pv 7) (nomark _)) (pss_one (ps_ret pe_bl)) pss_nil)
        (pss_one (ps_ret (pe_cx c_law_asks_past (hr.mono (by omega)) (by rfl) pass0 (pa_cons (pv 1) (pa_cons (pv 2) (pa_cons (pv 3) pa_nil)))))))))))))))))))), ?_⟩
    refine ⟨_, rfl, a, ns, rfl, hS, hlen, fun H1 p ds s1 hp hd => ?_⟩
    refine ⟨_, rfl, p, ds, rfl, SqL.of hp, hd, fun H2 v rs s2 hv ok => ?_⟩
    have hp2 := s2 _ _ hp
    have hv' := hv
    obtain ⟨rv, rxs, rfl, hrv, hrl, hrz⟩ := hv'
    have lr := ok.len
    have ml : (rs.map rowD).length = rs.length := List.length_map _
    -- the changes
    refine ⟨_, rfl, [], true, _, _, rfl, hv, _, rfl, by omega, by omega, fun E1 hE1 => ?_⟩
    refine lc_rel walk_range hE1 (by omega) (fun i F u => ∃ c, u = .ref c ∧ ∃ r, rs[i]? = some r ∧ CA C F c r) (fun i F F' u s ⟨c, e, r, h1, h2⟩ => ⟨c, e, r, h1, h2.same s⟩) (fun _ _ => trivial) (fun i y F zs H' hi sF hF hy => ⟨hy.1, fun Q kq => ?_⟩) fun F zs sF hF ez hr => ?_
    · obtain rfl := hy.2
      refine ⟨_, rfl, _, rfl, H2, rs, _, sF, hv, rfl, by omega, by omega, fun r u hr hu => ?_⟩
      refine ⟨_, rfl, _, rfl, _, _, rfl, rfl, p, ds, _, rfl, SqL.of (sF _ _ hp2), hd, by omega, fun e _ _ => ⟨_, _, rfl, rfl, (by show (0 : Int) < 2; decide), rfl, _, _, r, rfl, At.same sF _ _ hu, ok.all r (List.mem_of_getElem? hr), fun H' c s cA => kq H' _ s ⟨c, rfl, r, ?_, cA⟩⟩⟩
      have : (0 + (i : Int)).toNat = i := by omega
      rw [this] at hr
      exact hr
    obtain ⟨cs, rfl, hcs⟩ := refs_of hr
    rw [List.length_map] at ez
    have lc : cs.length = rs.length := by omega
    have s3 := sF.trans (Same.new (o := .lst (cs.map V.ref)) hF)
    have g1 : (upd F E1 (.lst (cs.map V.ref))) E1 = some (.lst (cs.map V.ref)) := upd_same
    have md : Made C (upd F E1 (.lst (cs.map V.ref))) cs rs := ⟨lc, fun i c r h1 h2 => by
      obtain ⟨r', h3, h4⟩ := hcs i c h1
      rw [h2] at h3
      cases h3
      exact h4.same (Same.new hF)⟩
    generalize upd F E1 (.lst (cs.map V.ref)) = H3 at s3 g1 md ⊢
    -- each is kept
    refine ⟨_, rfl, [], true, _, _, rfl, At.same s3 _ _ hv, _, rfl, by omega, by omega, for_range (lo := 0) (n := (((rs.map rowD).length : Nat) : Int).toNat) (fun k σ H' => ∃ v4 : Option V, σ = [some (.ref a), some (.ref p), some (.ref rv), some (.ref E1), v4, none, none, none, none, none, none, none, none] ∧ Same H3 H') ⟨none, rfl, Same.refl _⟩ ?_ ?_⟩
    · rintro k σ H' hk ⟨v4, rfl, s4⟩
      have ek : (0 + (k : Int)).toNat = k := by omega
      refine ⟨_, rfl, _, rfl, E1, _, _, rfl, rfl, SqL.of (s4 _ _ g1), by omega, by rw [List.length_map]; omega, fun u hu => ?_⟩
      obtain ⟨c, hc, rfl⟩ := at_ref hu
      refine ⟨_, rfl, _, rfl, H2, rs, _, s3.trans s4, hv, rfl, by omega, by omega, fun r u1 hr1 hu1 => ?_⟩
      rw [ek] at hc hr1
      refine ⟨c, _, r, rfl, (md.2 k c r hc hr1).same s4, At.same (s3.trans s4) _ _ hu1, ok.all r (List.mem_of_getElem? hr1), fun H4 s5 => ⟨true, rfl, iteF ?_⟩⟩
      exact ⟨_, rfl, s4.trans s5⟩
    rintro σ H4 ⟨v4, rfl, s4⟩
    have S4 := s3.trans s4
    -- sorted
    refine ⟨_, rfl, true, E1, _, rfl, s4 _ _ g1, fun E2 hE2 => ?_⟩
    have s5 := s4.trans (Same.new (o := .lst (cs.map V.ref)) hE2)
    have g2 : (upd H4 E2 (.lst (cs.map V.ref))) E2 = some (.lst (cs.map V.ref)) := upd_same
    generalize upd H4 E2 (.lst (cs.map V.ref)) = H5 at s5 g2 ⊢
    have S5 := s3.trans s5
    have zf : (cs.zip rs).map (fun p => V.ref p.1) = cs.map V.ref := by
      have : (cs.zip rs).map Prod.fst = cs := List.map_fst_zip (by omega)
      rw [← this, List.map_map]
      rw [this]
      rfl
    have zall : ∀ {Hx : Hp}, Same H3 Hx → ∀ pq ∈ cs.zip rs, CA C Hx pq.1 pq.2 := fun sx pq hpq => by
      obtain ⟨i, hi⟩ := List.getElem?_of_mem hpq
      obtain ⟨e1, e2⟩ := List.getElem?_zip_eq_some.mp hi
      exact (md.2 i _ _ e1 e2).same sx
    refine ⟨_, rfl, E2, cs.zip rs, rfl, by rw [zf]; exact g2, zall s5, fun al hal => ?_⟩
    have O : Ord cs rs (sortC ((cs.zip rs).map fun p => chgOf p.1 p.2)) := ord_of lc ok
    generalize hsb : sortC ((cs.zip rs).map fun p => chgOf p.1 p.2) = sb at O
    have s6 := Same.new (o := .lst (refs sb)) hal
    have g6 : (upd H5 al (.lst (refs sb))) al = some (.lst (refs sb)) := upd_same
    have e6 : hidS [al] (upd H5 al (.lst (refs sb))) = H5 := hide_upd hal
    generalize upd H5 al (.lst (refs sb)) = H6 at s6 g6 e6 ⊢
    have lsb : (refs sb).length = rs.length := by
      rw [← O.len]
      exact List.length_map _
    refine ⟨_, rfl, .ref al, .ty "list", .type "list", .type "list", true, rfl, .ty _, .base (.lst g6), kit_ty (by decide +kernel), _, rfl, iteF ?_⟩
    refine ⟨_, rfl, al, _, rfl, SqL.of g6, _, rfl, [], true, _, _, rfl, At.same (S5.trans s6) _ _ hv, rfl, _, rfl, iteNS (by rw [lsb, ml]) ?_⟩
    -- what stands in the older heap
    have base6 : Same H5 (hidS [al] H6) := by
      rw [e6]
      exact Same.refl _
    -- a change of the sorted list
    have atb : ∀ {Hx : Hp} {b : Chg}, b ∈ sb → Same H3 Hx → ∃ (k : Nat) (r : Row), rs[k]? = some r ∧ cs[k]? = some b.a ∧ b = chgOf b.a r ∧ CA C Hx b.a r := @fun Hx b hb sx => by
      obtain ⟨k, c, r, h1, h2, e⟩ := O.mem _ hb
      have ea : b.a = c := by rw [e]; rfl
      refine ⟨k, r, h2, by rw [ea]; exact h1, by rw [ea]; exact e, ?_⟩
      rw [ea]
      exact (md.2 k c r h1 h2).same sx
    -- the names
    refine ⟨_, rfl, al, rfl, ⟨_, SqL.of g6⟩, fun E3 hE3 => ?_⟩
    refine lc_rel (walk_list (xs := refs sb)) hE3 (by omega) (fun i F u => ∃ b, sb[i]? = some b ∧ At (hidS [al] F) (pairA (prC b)) u) (fun i F F' u s ⟨b, h1, h2⟩ => ⟨b, h1, up h2 s⟩) (fun H' s => SqL.of (s _ _ g6)) (fun i y F zs H' hi sF hF hy => ⟨hy.1, fun Q kq => ?_⟩) fun F zs sF hF ez hr => ?_
    · have hy2 : (sb.map fun b => V.ref b.a)[i]? = some y := hy.2
      rw [List.getElem?_map] at hy2
      cases hb : sb[i]? with
      | none => rw [hb] at hy2; cases hy2
      | some b =>
        rw [hb] at hy2
        obtain rfl := (Option.some.inj hy2).symm
        obtain ⟨k, r, h1, h2, e, cA⟩ := atb (List.mem_of_getElem? hb) (s5.trans (s6.trans sF))
        have cA' := cA
        obtain ⟨dx, vh, vc, vp, vq, eo, _⟩ := cA'
        refine ⟨_, rfl, b.a, dx, _, rfl, eo, rfl, b.a, r, rfl, cA, fun H' v' s' hA => kq H' v' s' ⟨b, hb, ?_⟩⟩
        have ep : prC b = pr r := by rw [e]; rfl
        rw [ep]
        refine flat (fun x hx ys z => ?_) hA
        rw [List.mem_singleton.mp hx, (sF.trans s') _ _ g6] at z
        cases z
    have lz : zs.length = sb.length := by rw [ez]; exact List.length_map _
    have nA : AtL (hidS [al] F) ((sb.map prC).map pairA) zs := AtL.of (by rw [List.length_map, List.length_map]; exact lz) fun i d u h1 h2 => by
      rw [List.getElem?_map, List.getElem?_map] at h1
      obtain ⟨b, hb, hA⟩ := hr i u h2
      rw [hb] at h1
      cases h1
      exact hA
    have s7 := sF.trans (Same.new (o := .lst zs) hF)
    have g7 : (upd F E3 (.lst zs)) E3 = some (.lst zs) := upd_same
    have n3 : E3 ∉ [al] := fun z => by
      rw [List.mem_singleton.mp z, sF _ _ g6] at hF
      cases hF
    have g7' : (hidS [al] (upd F E3 (.lst zs))) E3 = some (.lst zs) := by
      rw [hidS_upd n3]
      exact upd_same
    replace nA := upL nA (Same.new (o := .lst zs) hF)
    generalize upd F E3 (.lst zs) = H7 at s7 g7 g7' nA ⊢
    have base7 : Same H5 (hidS [al] H7) := base6.trans (Same.hidS _ s7)
    have S7 : Same H2 H7 := S5.trans (s6.trans s7)
    have T7 : Same H3 H7 := s5.trans (s6.trans s7)
    have nA7 : AtL H7 ((sb.map prC).map pairA) zs := AtL.same (fun _ _ e => (hidS_some e).1) _ _ nA
    -- the places
    refine ⟨Nat.zero_le _, fun E4 hE4 => ?_⟩
    have lzr : zs.length = rs.length := by rw [lz]; exact O.len
    refine ⟨_, rfl, E3, rfl, ⟨zs, SqL.of ((Same.new hE4) _ _ g7)⟩, for_list (xs := zs) (fun i σ H' => ∃ (ps : List Nat) (v4 v9 v10 : Option V), σ = [some (.ref a), some (.ref p), some (.ref rv), some (.ref E1), v4, some (.ref E2), some (.ref al), some (.ref E3), some (.ref E4), v9, v10, none, none] ∧ Same H7 (hide E4 H') ∧ H' E4 = some (.lst (ps.map fun k : Nat => V.int (0 + (k : Int)))) ∧ ps.length = i ∧ ∀ (j : Nat) b k, sb[j]? = some b → ps[j]? = some k → (bsOf cs rs)[k]? = some b)
      ⟨[], _, none, none, rfl, by rw [hide_upd hE4]; exact Same.refl _, upd_same, rfl, fun j b k _ h => by simp at h⟩ (fun i σ H' _ h => ?_) ?_ ?_⟩
    · obtain ⟨ps, _, _, _, _, s, _⟩ := h
      exact SqL.of (hide_some (s _ _ g7)).1
    · rintro i y σ H8 hy ⟨ps, v4', v9, v10, rfl, s8, g8, lps, hps⟩
      have un : Same (hide E4 H8) H8 := Same.unhid
      have t8 : Same H7 H8 := s8.trans un
      obtain ⟨b, hb⟩ := some_at (l := sb) (i := i) (by rw [← lz]; exact (List.getElem?_eq_some_iff.mp hy).1)
      obtain ⟨k, r, hrk, hck, eb, _⟩ := atb (List.mem_of_getElem? hb) T7
      have hk : k < rs.length := (List.getElem?_eq_some_iff.mp hrk).1
      have hi := (List.getElem?_eq_some_iff.mp hy).1
      have hyA : At H7 (pairA (prC b)) y := by
        obtain ⟨d, hd', hA⟩ := nA7.at hy
        rw [List.getElem?_map, List.getElem?_map, hb] at hd'
        cases hd'
        exact hA
      -- found
      refine ⟨_, rfl, [], true, _, _, rfl, At.same (S7.trans t8) _ _ hv, _, rfl, by omega, by omega, fun E5 hE5 => ?_⟩
      refine lc_filt walk_range hE5 (by omega) (fun j => decide (j = k)) (fun j => V.int (0 + (j : Int))) (fun _ _ => trivial) (fun j x Hx H' hj sx hyx => ⟨by rw [hyx.1]; exact Same.refl _, fun Q kq => ?_⟩) (fun j x Hx H' H2' hj sx hyx s2' Q kq => ?_) fun H9 s9 h9 => ?_
      · obtain ⟨rfl, rfl⟩ := hyx
        have Sx := S7.trans (t8.trans sx)
        have hj2 : j < rs.length := by omega
        have ej : (0 + (j : Int)).toNat = j := by omega
        refine ⟨_, rfl, _, rfl, H2, rs, _, Sx, hv, rfl, by omega, by omega, fun r1 u1 hr1 hu1 => ⟨H2, r1, Sx, hu1, .inl ⟨rfl, ?_⟩⟩⟩
        refine ⟨_, rfl, _, rfl, H2, rs, _, Sx, hv, rfl, by omega, by omega, fun r2 u2 hr2 hu2 => ⟨H2, r2, Sx, hu2, .inr (.inl ⟨rfl, (by show 2 ≤ sizeLine; decide), fun pp hpp => ?_⟩)⟩⟩
        rw [ej] at hr1 hr2
        rw [hr1] at hr2
        cases hr2
        have wp := Same.new (o := .tup [.int r1.au, .int r1.nu]) hpp
        refine ⟨_, rfl, pairD (pr r1), pairD (prC b), dp_pair ⟨pp, _, rfl, upd_same, AtL.cons rfl (AtL.one rfl), (by show 2 ≤ 16000000; decide)⟩, dp_pair (At.same (t8.trans (sx.trans wp)) _ _ hyA), shaped_pair _, shaped_pair _, _, rfl, ?_⟩
        have ee : PyData.eqv (pairD (pr r1)) (pairD (prC b)) = decide (j = k) := by
          rw [eqv_pair]
          refine decide_eq_decide.mpr ⟨fun z => ?_, fun z => ?_⟩
          · rw [eb] at z
            have z' : (r1.au, r1.nu) = (r.au, r.nu) := z
            by_cases c : j = k
            · exact c
            · exfalso
              have pw := List.pairwise_iff_getElem.mp ok.ne
              have x1 := (List.getElem?_eq_some_iff.mp hr1)
              have x2 := (List.getElem?_eq_some_iff.mp hrk)
              rcases Nat.lt_or_gt_of_ne c with lt | gt
              · have := pw j k x1.1 x2.1 lt
                rw [x1.2, x2.2] at this
                exact this ⟨(Prod.mk.inj z').1, (Prod.mk.inj z').2⟩
              · have := pw k j x2.1 x1.1 gt
                rw [x1.2, x2.2] at this
                exact this ⟨(Prod.mk.inj z').1.symm, (Prod.mk.inj z').2.symm⟩
          · rw [z, hrk] at hr1
            cases hr1
            rw [eb]
            rfl
        rw [ee]
        exact kq _ wp
      · obtain ⟨rfl, rfl⟩ := hyx
        exact ⟨_, rfl, kq⟩
      have f1 : ((List.range (((rs.map rowD).length : Nat) : Int).toNat).filter fun j => decide (j = k)).map (fun j : Nat => V.int (0 + (j : Int))) = [V.int (0 + (k : Int))] := by
        rw [filt_one (by omega)]
        rfl
      rw [f1] at h9
      have t9 := t8.trans s9
      refine ⟨_, rfl, E5, _, rfl, SqL.of h9, rfl, _, rfl, iteNS rfl ?_⟩
      refine ⟨_, rfl, E5, _, 0, rfl, rfl, SqL.of h9, by decide, (by show (0 : Int) < 1; decide), fun u hu => ?_⟩
      obtain rfl : V.int (0 + (k : Int)) = u := Option.some.inj hu
      refine ⟨_, rfl, E4, _, rfl, .inl (SqL.of (s9 _ _ g8)), rfl, ?_, _, rfl, if_f ?_ ?_⟩
      · rw [List.all_eq_true]
        intro z hz
        obtain ⟨k2, _, rfl⟩ := List.mem_map.mp hz
        rfl
      · show (ps.map fun k : Nat => V.int (0 + (k : Int))).any (fun y => eqV y (V.int (0 + (k : Int)))) = false
        rw [List.any_eq_false]
        intro z hz
        obtain ⟨k2, hk2, rfl⟩ := List.mem_map.mp hz
        intro e
        have e' : ((0 + (k2 : Int)) == (0 + (k : Int))) = true := e
        have e2 : k2 = k := by
          have := of_decide_eq_true e'
          omega
        subst e2
        obtain ⟨j, hj⟩ := List.getElem?_of_mem hk2
        have jl := (List.getElem?_eq_some_iff.mp hj).1
        obtain ⟨b2, hb2⟩ := some_at (l := sb) (i := j) (by omega)
        have := hps j b2 k2 hb2 hj
        obtain ⟨c', r', x1, x2, x3⟩ := bs_at this
        rw [hrk] at x2
        cases x2
        have y1 := List.getElem?_eq_some_iff.mp hb2
        have y2 := List.getElem?_eq_some_iff.mp hb
        have := (List.pairwise_iff_getElem.mp O.ne) j i y1.1 y2.1 (by omega)
        rw [y1.2, y2.2, x3, eb] at this
        exact this rfl
      have n45 : E5 ≠ E4 := fun z => by rw [z, g8] at hE5; cases hE5
      refine ⟨_, rfl, .inl ⟨rfl, _, SqL.of (s9 _ _ g8)⟩, _, rfl, E5, _, 0, rfl, rfl, SqL.of h9, by decide, (by show (0 : Int) < 1; decide), fun u hu => ?_⟩
      obtain rfl : V.int (0 + (k : Int)) = u := Option.some.inj hu
      refine ⟨E4, _, _, rfl, rfl, s9 _ _ g8, lt_small (by rw [List.length_map]; omega), ?_⟩
      refine ⟨ps ++ [k], _, _, _, rfl, ?_, ?_, by rw [List.length_append, lps]; rfl, fun j b2 k2 h1 h2 => ?_⟩
      · rw [hide_upd_self]
        exact s8.trans (Same.hid E4 s9)
      · rw [List.map_append]
        exact upd_same
      · by_cases c : j < ps.length
        · rw [List.getElem?_append_left c] at h2
          exact hps j b2 k2 h1 h2
        · have : j = i := by
            have := (List.getElem?_eq_some_iff.mp h2).1
            rw [List.length_append, List.length_singleton] at this
            omega
          subst this
          rw [List.getElem?_append_right (by omega), lps, Nat.sub_self] at h2
          cases (show some k = some k2 from h2)
          rw [hb] at h1
          cases h1
          rw [bsOf, List.getElem?_map, (List.getElem?_zip_eq_some (z := (b.a, r))).mpr ⟨hck, hrk⟩]
          exact congrArg some eb.symm
    rintro σ H9 ⟨ps, v4', v9, v10, rfl, s9, g9, lps, hps⟩
    have t9 : Same H7 H9 := s9.trans Same.unhid
    have lpm : (ps.map fun k : Nat => V.int (0 + (k : Int))).length = rs.length := by rw [List.length_map, lps, lzr]
    -- by the places
    have atp : ∀ (j : Nat), j < rs.length → ∃ b k r, sb[j]? = some b ∧ ps[j]? = some k ∧ k < rs.length ∧ rs[k]? = some r ∧ cs[k]? = some b.a ∧ b = chgOf b.a r := fun j hj => by
      obtain ⟨b, hb⟩ := some_at (l := sb) (i := j) (by rw [O.len]; exact hj)
      obtain ⟨k, hk⟩ := some_at (l := ps) (i := j) (by omega)
      obtain ⟨c, r, h1, h2, e⟩ := bs_at (hps j b k hb hk)
      have ea : b.a = c := by rw [e]; rfl
      exact ⟨b, k, r, hb, hk, (List.getElem?_eq_some_iff.mp h2).1, h2, by rw [ea]; exact h1, by rw [ea]; exact e⟩
    have ixp : ∀ {j k : Nat} {u : V} {i : Int}, ps[j]? = some k → i.toNat = j → (ps.map fun k : Nat => V.int (0 + (k : Int)))[i.toNat]? = some u → u = V.int (0 + (k : Int)) := fun h1 h2 h3 => by
      rw [h2, List.getElem?_map, h1] at h3
      exact (Option.some.inj h3).symm
    refine ⟨_, rfl, E4, _, rfl, SqL.of g9, _, rfl, by omega, by omega, for_range (lo := 0) (n := (((ps.map fun k : Nat => V.int (0 + (k : Int))).length : Nat) : Int).toNat) (fun k σ H' => ∃ v4 : Option V, σ = [some (.ref a), some (.ref p), some (.ref rv), some (.ref E1), v4, some (.ref E2), some (.ref al), some (.ref E3), some (.ref E4), v9, v10, none, none] ∧ Same H9 H')
      ⟨_, rfl, Same.refl _⟩ ?_ ?_⟩
    · rintro k σ H10 hk ⟨v4'', rfl, s10⟩
      have hk2 : k < rs.length := by omega
      have ek : (0 + (k : Int)).toNat = k := by omega
      obtain ⟨b, kk, r, hb, hkk, lk, hr1, hc1, eb⟩ := atp k hk2
      have t10 := t9.trans s10
      have ekk : (0 + (kk : Int)).toNat = kk := by omega
      refine ⟨_, rfl, _, rfl, al, _, _, rfl, rfl, SqL.of (t10 _ _ (s7 _ _ g6)), by omega, by omega, fun u hu => ?_⟩
      have eu : u = .ref b.a := by
        have hu' : (sb.map fun b => V.ref b.a)[(0 + (k : Int)).toNat]? = some u := hu
        rw [ek, List.getElem?_map, hb] at hu'
        exact (Option.some.inj hu').symm
      subst eu
      refine ⟨_, rfl, _, rfl, _, rfl, E4, _, _, rfl, rfl, SqL.of (s10 _ _ g9), by omega, by omega, fun u2 hu2 => ?_⟩
      obtain rfl := ixp hkk ek hu2
      refine ⟨H2, rs, _, S7.trans t10, hv, rfl, by omega, by omega, fun r1 u3 hr2 hu3 => ?_⟩
      rw [ekk, hr1] at hr2
      cases hr2
      refine ⟨b.a, _, r, rfl, (md.2 kk _ _ hc1 hr1).same (T7.trans t10), At.same (S7.trans t10) _ _ hu3, ok.all r (List.mem_of_getElem? hr1), fun H11 s11 => ⟨true, rfl, iteF ?_⟩⟩
      have t11 := t10.trans s11
      refine ⟨_, rfl, _, _, rfl, rfl, _, rfl, ite_some (fun hpos => ?_) (fun _ => ⟨_, rfl, s10.trans s11⟩)⟩
      have ek1 : (0 + (k : Int) - 1).toNat = k - 1 := by omega
      obtain ⟨b0, kk0, r0, hb0, hkk0, lk0, hr0, hc0, eb0⟩ := atp (k - 1) (by omega)
      have ekk0 : (0 + (kk0 : Int)).toNat = kk0 := by omega
      refine ⟨_, rfl, _, rfl, _, rfl, _, _, rfl, rfl, E4, _, _, rfl, rfl, SqL.of ((s10.trans s11) _ _ g9), by omega, by omega, fun u4 hu4 => ?_⟩
      obtain rfl := ixp hkk0 ek1 hu4
      refine ⟨H2, rs, _, S7.trans t11, hv, rfl, by omega, by omega, fun r2 u5 hr3 hu5 => ?_⟩
      rw [ekk0, hr0] at hr3
      cases hr3
      refine ⟨_, rfl, _, rfl, _, rfl, E4, _, _, rfl, rfl, SqL.of ((s10.trans s11) _ _ g9), by omega, by omega, fun u6 hu6 => ?_⟩
      obtain rfl := ixp hkk ek hu6
      refine ⟨H2, rs, _, S7.trans t11, hv, rfl, by omega, by omega, fun r3 u7 hr4 hu7 => ?_⟩
      rw [ekk, hr1] at hr4
      cases hr4
      refine ⟨_, _, r0, r, rfl, At.same (S7.trans t11) _ _ hu5, At.same (S7.trans t11) _ _ hu7, ?_, true, rfl, iteF ?_⟩
      · have y1 := List.getElem?_eq_some_iff.mp hb0
        have y2 := List.getElem?_eq_some_iff.mp hb
        have := (List.pairwise_iff_getElem.mp O.lt) (k - 1) k y1.1 y2.1 (by omega)
        rw [y1.2, y2.2, eb0, eb] at this
        exact this
      · exact ⟨_, rfl, s10.trans s11⟩
    rintro σ H10 ⟨v4'', rfl, s10⟩
    have t10 := t9.trans s10
    have h10 : H10 al = some (.lst (refs sb)) := t10 _ _ (s7 _ _ g6)
    -- the sorted list is another one
    refine ⟨_, rfl, .inl ⟨rfl, _, SqL.of h10⟩, al, _, _, rfl, rfl, h10, lt_small (by omega), ?_⟩
    have e11 : hidS [al] (upd H10 al (.lst (refs sb ++ [.non]))) = hidS [al] H10 := hidS_upd_in (List.mem_cons_self ..)
    have u11 : Same (hidS [al] H10) (upd H10 al (.lst (refs sb ++ [.non]))) := by
      rw [← e11]
      exact fun _ _ e => (hidS_some e).1
    generalize upd H10 al (.lst (refs sb ++ [.non])) = H11 at u11 ⊢
    have b11 : Same H5 H11 := (base7.trans (Same.hidS _ t10)).trans u11
    have n11 := (Same.hidS [al] t10).trans u11
    have g11 := n11 _ _ g7'
    have nA11 := AtL.same n11 _ _ nA
    have S11 := S5.trans b11
    have T11 := s5.trans b11
    -- passed is as it was
    refine ⟨_, rfl, E2, rfl, ⟨_, SqL.of (b11 _ _ g2)⟩, fun E6 hE6 => ?_⟩
    refine lc_rel (walk_list (xs := cs.map V.ref)) hE6 (by rw [List.length_map]; omega) (fun i F u => ∃ r, rs[i]? = some r ∧ At F (pairA (pr r)) u) (fun i F F' u s ⟨r, h1, h2⟩ => ⟨r, h1, At.same s _ _ h2⟩) (fun H' s => SqL.of (s _ _ (b11 _ _ g2))) (fun i y F zs H' hi sF hF hy => ⟨hy.1, fun Q kq => ?_⟩) fun F1 zs1 sF1 hF1 ez1 hr1 => ?_
    · obtain ⟨c, hc, rfl⟩ := at_ref hy.2
      obtain ⟨r, hr'⟩ := some_at (l := rs) (i := i) (by rw [← lc]; exact (List.getElem?_eq_some_iff.mp hc).1)
      have cA := (md.2 i c r hc hr').same (T11.trans sF)
      have cA' := cA
      obtain ⟨dx, vh, vc, vp, vq, eo, _⟩ := cA'
      exact ⟨_, rfl, c, dx, _, rfl, eo, rfl, c, r, rfl, cA, fun H' v' s' hA => kq H' v' s' ⟨r, hr', hA⟩⟩
    rw [List.length_map] at ez1
    have q1 : AtL F1 ((rs.map pr).map pairA) zs1 := AtL.of (by rw [List.length_map, List.length_map]; omega) fun i d u h1 h2 => by
      rw [List.getElem?_map, List.getElem?_map] at h1
      obtain ⟨r, hb, hA⟩ := hr1 i u h2
      rw [hb] at h1
      cases h1
      exact hA
    have w1 := Same.new (o := .lst zs1) hF1
    replace q1 := AtL.same w1 _ _ q1
    have g12 : (upd F1 E6 (.lst zs1)) E6 = some (.lst zs1) := upd_same
    have s12 := sF1.trans w1
    generalize upd F1 E6 (.lst zs1) = H12 at q1 g12 s12 ⊢
    obtain ⟨J, hJ, wk⟩ := sq_walk K ((S11.trans s12) _ _ hrv)
    refine ⟨rv, J, rfl, hJ, fun E7 hE7 => ?_⟩
    have lrx := hrl.length
    refine lc_rel wk hE7 (by omega) (fun i F u => ∃ r, rs[i]? = some r ∧ At F (pairA (pr r)) u) (fun i F F' u s ⟨r, h1, h2⟩ => ⟨r, h1, At.same s _ _ h2⟩) (fun H' s => s _ _ ((S11.trans s12) _ _ hrv)) (fun i y F zs H' hi sF hF hy => ⟨hy.1, fun Q kq => ?_⟩) fun F2 zs2 sF2 hF2 ez2 hr2 => ?_
    · obtain ⟨d, hd', hA⟩ := hrl.at hy.2
      rw [List.getElem?_map] at hd'
      cases hr' : rs[i]? with
      | none => rw [hr'] at hd'; cases hd'
      | some r =>
        rw [hr'] at hd'
        cases hd'
        have Sx := (S11.trans s12).trans sF
        refine ⟨_, rfl, H2, r, Sx, hA, .inl ⟨rfl, _, rfl, H2, r, Sx, hA, .inr (.inl ⟨rfl, (by show 2 ≤ sizeLine; decide), fun pp hpp => ?_⟩)⟩⟩
        exact kq _ _ (Same.new hpp) ⟨r, hr', pp, _, rfl, upd_same, AtL.cons rfl (AtL.one rfl), (by show 2 ≤ 16000000; decide)⟩
    have q2 : AtL F2 ((rs.map pr).map pairA) zs2 := AtL.of (by rw [List.length_map, List.length_map]; omega) fun i d u h1 h2 => by
      rw [List.getElem?_map, List.getElem?_map] at h1
      obtain ⟨r, hb, hA⟩ := hr2 i u h2
      rw [hb] at h1
      cases h1
      exact hA
    have w2 := Same.new (o := .lst zs2) hF2
    have s13 := sF2.trans w2
    refine ⟨_, _, .lst (SqL.of (s13 _ _ g12)) (dp_pairs (AtL.same s13 _ _ q1)), .lst (SqL.of upd_same) (dp_pairs (AtL.same w2 _ _ q2)), shaped_pairs _, shaped_pairs _, _, rfl, if_f (by rw [eqv_pairs]; rfl) ?_⟩
    generalize upd F2 E7 (.lst zs2) = H13 at s13 ⊢
    have r13 := s12.trans s13
    -- sorted again
    refine ⟨_, rfl, E2, cs.zip rs, rfl, by rw [zf]; exact (b11.trans r13) _ _ g2, zall (T11.trans r13), ?_⟩
    rw [hsb]
    intro al2 hal2
    have s14 := Same.new (o := .lst (refs sb)) hal2
    have g14 : (upd H13 al2 (.lst (refs sb))) al2 = some (.lst (refs sb)) := upd_same
    generalize upd H13 al2 (.lst (refs sb)) = H14 at s14 g14 ⊢
    have r14 := r13.trans s14
    refine ⟨al2, rfl, ⟨_, SqL.of g14⟩, fun E8 hE8 => ?_⟩
    refine lc_rel (walk_list (xs := refs sb)) hE8 (by omega) (fun i F u => ∃ b, sb[i]? = some b ∧ At F (pairA (prC b)) u) (fun i F F' u s ⟨b, h1, h2⟩ => ⟨b, h1, At.same s _ _ h2⟩) (fun H' s => SqL.of (s _ _ g14)) (fun i y F zs H' hi sF hF hy => ⟨hy.1, fun Q kq => ?_⟩) fun F3 zs3 sF3 hF3 ez3 hr3 => ?_
    · have hy2 : (sb.map fun b => V.ref b.a)[i]? = some y := hy.2
      rw [List.getElem?_map] at hy2
      cases hb : sb[i]? with
      | none => rw [hb] at hy2; cases hy2
      | some b =>
        rw [hb] at hy2
        obtain rfl := (Option.some.inj hy2).symm
        obtain ⟨k, r, h1, h2, e, cA⟩ := atb (List.mem_of_getElem? hb) (T11.trans (r14.trans sF))
        have cA' := cA
        obtain ⟨dx, vh, vc, vp, vq, eo, _⟩ := cA'
        refine ⟨_, rfl, b.a, dx, _, rfl, eo, rfl, b.a, r, rfl, cA, fun H' v' s' hA => kq H' v' s' ⟨b, hb, ?_⟩⟩
        have ep : prC b = pr r := by rw [e]; rfl
        rw [ep]
        exact hA
    have q3 : AtL F3 ((sb.map prC).map pairA) zs3 := AtL.of (by rw [List.length_map, List.length_map, ez3]; exact List.length_map _) fun i d u h1 h2 => by
      rw [List.getElem?_map, List.getElem?_map] at h1
      obtain ⟨b, hb, hA⟩ := hr3 i u h2
      rw [hb] at h1
      cases h1
      exact hA
    have w3 := Same.new (o := .lst zs3) hF3
    have r15 := r14.trans (sF3.trans w3)
    refine ⟨_, rfl, _, _, .lst (SqL.of upd_same) (dp_pairs (AtL.same w3 _ _ q3)), .lst (SqL.of (r15 _ _ g11)) (dp_pairs (AtL.same r15 _ _ nA11)), shaped_pairs _, shaped_pairs _, _, rfl, if_f (by rw [eqv_pairs]; rfl) ?_⟩
    generalize upd F3 E8 (.lst zs3) = H15 at r15 ⊢
    refine ⟨_, rfl, _, rfl, _, rfl, p, E1, _, ds, rs, cs, rfl, SqL.of ((S11.trans r15) _ _ hp2), hd, At.same (S11.trans r15) _ _ hv, ok, (T11.trans r15) _ _ g1, md.same (T11.trans r15), fun H' _ => q H'⟩
end
end Kw
set_option Elab.async false
set_option linter.all false
set_option maxRecDepth 100000
set_option maxHeartbeats 4000000
namespace Kw
open PySem PySem.Spec PyProof.Rows L2
theorem all_mk {P : Program} {w : World} {K : PySem.W.Frag} {h : Heap} {mg : Str → Option Value} {fa : Addr} (X : K.In h) (G : h.Ns mainGlobals mg) (hfa : mg "law" = some (.ref fa))
    {f0 : Addr} {od0 an0 : Option Addr} {sl0 : Array (Option Value)} {oc0 kV0 dc0 pm0 cd0 ct0 : Value}
    {f1 : Addr} {od1 an1 : Option Addr} {sl1 : Array (Option Value)} {oc1 kV1 dc1 pm1 cd1 ct1 : Value}
    {f2 : Addr} {od2 an2 : Option Addr} {sl2 : Array (Option Value)} {oc2 kV2 dc2 pm2 cd2 ct2 : Value}
    {f3 : Addr} {od3 an3 : Option Addr} {sl3 : Array (Option Value)} {oc3 kV3 dc3 pm3 cd3 ct3 : Value}
    {f4 : Addr} {od4 an4 : Option Addr} {sl4 : Array (Option Value)} {oc4 kV4 dc4 pm4 cd4 ct4 : Value}
    {f5 : Addr} {od5 an5 : Option Addr} {sl5 : Array (Option Value)} {oc5 kV5 dc5 pm5 cd5 ct5 : Value}
    {f6 : Addr} {od6 an6 : Option Addr} {sl6 : Array (Option Value)} {oc6 kV6 dc6 pm6 cd6 ct6 : Value}
    {f7 : Addr} {od7 an7 : Option Addr} {sl7 : Array (Option Value)} {oc7 kV7 dc7 pm7 cd7 ct7 : Value}
    {f8 : Addr} {od8 an8 : Option Addr} {sl8 : Array (Option Value)} {oc8 kV8 dc8 pm8 cd8 ct8 : Value}
    {f9 : Addr} {od9 an9 : Option Addr} {sl9 : Array (Option Value)} {oc9 kV9 dc9 pm9 cd9 ct9 : Value}
    {f10 : Addr} {od10 an10 : Option Addr} {sl10 : Array (Option Value)} {oc10 kV10 dc10 pm10 cd10 ct10 : Value}
    {f11 : Addr} {od11 an11 : Option Addr} {sl11 : Array (Option Value)} {oc11 kV11 dc11 pm11 cd11 ct11 : Value}
    {f12 : Addr} {od12 an12 : Option Addr} {sl12 : Array (Option Value)} {oc12 kV12 dc12 pm12 cd12 ct12 : Value}
    {f13 : Addr} {od13 an13 : Option Addr} {sl13 : Array (Option Value)} {oc13 kV13 dc13 pm13 cd13 ct13 : Value}
    {f14 : Addr} {od14 an14 : Option Addr} {sl14 : Array (Option Value)} {oc14 kV14 dc14 pm14 cd14 ct14 : Value}
    {f15 : Addr} {od15 an15 : Option Addr} {sl15 : Array (Option Value)} {oc15 kV15 dc15 pm15 cd15 ct15 : Value}
    {g0 : Addr} {ox0 ax0 : Option Addr} {sx0 : Array (Option Value)} {ocx0 kVx0 dcx0 pmx0 cdx0 ctx0 : Value}
    {g1 : Addr} {ox1 ax1 : Option Addr} {sx1 : Array (Option Value)} {ocx1 kVx1 dcx1 pmx1 cdx1 ctx1 : Value}
    {g2 : Addr} {ox2 ax2 : Option Addr} {sx2 : Array (Option Value)} {ocx2 kVx2 dcx2 pmx2 cdx2 ctx2 : Value}
    {g3 : Addr} {ox3 ax3 : Option Addr} {sx3 : Array (Option Value)} {ocx3 kVx3 dcx3 pmx3 cdx3 ctx3 : Value}
    {C : Addr}
    (a0 : PySem.W.nsIn K mainGlobals "in_past" = some (some (.ref f0))) (l0 : K.lookup f0 = some ⟨oc0, od0, .func (PySem.W.fnOf "in_past" "in_past" (defArgs s_in_past) (defBody s_in_past) (defScope s_in_past) .none kV0 dc0 pm0 an0 cd0 ct0), sl0⟩) (c0 : PySem.W.codeIn K cd0 "in_past" = true) (k0 : PySem.W.keepIn K (.ref f0) = true)
    (a1 : PySem.W.nsIn K mainGlobals "order_key" = some (some (.ref f1))) (l1 : K.lookup f1 = some ⟨oc1, od1, .func (PySem.W.fnOf "order_key" "order_key" (defArgs s_order_key) (defBody s_order_key) (defScope s_order_key) .none kV1 dc1 pm1 an1 cd1 ct1), sl1⟩) (c1 : PySem.W.codeIn K cd1 "order_key" = true) (k1 : PySem.W.keepIn K (.ref f1) = true)
    (a2 : PySem.W.nsIn K mainGlobals "in_order" = some (some (.ref f2))) (l2 : K.lookup f2 = some ⟨oc2, od2, .func (PySem.W.fnOf "in_order" "in_order" (defArgs s_in_order) (defBody s_in_order) (defScope s_in_order) .none kV2 dc2 pm2 an2 cd2 ct2), sl2⟩) (c2 : PySem.W.codeIn K cd2 "in_order" = true) (k2 : PySem.W.keepIn K (.ref f2) = true)
    (a3 : PySem.W.nsIn K mainGlobals "_law_mix" = some (some (.ref f3))) (l3 : K.lookup f3 = some ⟨oc3, od3, .func (PySem.W.fnOf "_law_mix" "_law_mix" (defArgs s_law_mix) (defBody s_law_mix) (defScope s_law_mix) .none kV3 dc3 pm3 an3 cd3 ct3), sl3⟩) (c3 : PySem.W.codeIn K cd3 "_law_mix" = true) (k3 : PySem.W.keepIn K (.ref f3) = true)
    (a4 : PySem.W.nsIn K mainGlobals "_law_draws" = some (some (.ref f4))) (l4 : K.lookup f4 = some ⟨oc4, od4, .func (PySem.W.fnOf "_law_draws" "_law_draws" (defArgs s_law_draws) (defBody s_law_draws) (defScope s_law_draws) .none kV4 dc4 pm4 an4 cd4 ct4), sl4⟩) (c4 : PySem.W.codeIn K cd4 "_law_draws" = true) (k4 : PySem.W.keepIn K (.ref f4) = true)
    (a5 : PySem.W.nsIn K mainGlobals "_law_at" = some (some (.ref f5))) (l5 : K.lookup f5 = some ⟨oc5, od5, .func (PySem.W.fnOf "_law_at" "_law_at" (defArgs s_law_at) (defBody s_law_at) (defScope s_law_at) .none kV5 dc5 pm5 an5 cd5 ct5), sl5⟩) (c5 : PySem.W.codeIn K cd5 "_law_at" = true) (k5 : PySem.W.keepIn K (.ref f5) = true)
    (a6 : PySem.W.nsIn K mainGlobals "_law_is_integer" = some (some (.ref f6))) (l6 : K.lookup f6 = some ⟨oc6, od6, .func (PySem.W.fnOf "_law_is_integer" "_law_is_integer" (defArgs s_law_is_integer) (defBody s_law_is_integer) (defScope s_law_is_integer) .none kV6 dc6 pm6 an6 cd6 ct6), sl6⟩) (c6 : PySem.W.codeIn K cd6 "_law_is_integer" = true) (k6 : PySem.W.keepIn K (.ref f6) = true)
    (a7 : PySem.W.nsIn K mainGlobals "_law_same" = some (some (.ref f7))) (l7 : K.lookup f7 = some ⟨oc7, od7, .func (PySem.W.fnOf "_law_same" "_law_same" (defArgs s_law_same) (defBody s_law_same) (defScope s_law_same) .none kV7 dc7 pm7 an7 cd7 ct7), sl7⟩) (c7 : PySem.W.codeIn K cd7 "_law_same" = true) (k7 : PySem.W.keepIn K (.ref f7) = true)
    (a8 : PySem.W.nsIn K mainGlobals "_law_rows" = some (some (.ref f8))) (l8 : K.lookup f8 = some ⟨oc8, od8, .func (PySem.W.fnOf "_law_rows" "_law_rows" (defArgs s_law_rows) (defBody s_law_rows) (defScope s_law_rows) .none kV8 dc8 pm8 an8 cd8 ct8), sl8⟩) (c8 : PySem.W.codeIn K cd8 "_law_rows" = true) (k8 : PySem.W.keepIn K (.ref f8) = true)
    (a9 : PySem.W.nsIn K mainGlobals "_law_part_lists" = some (some (.ref f9))) (l9 : K.lookup f9 = some ⟨oc9, od9, .func (PySem.W.fnOf "_law_part_lists" "_law_part_lists" (defArgs s_law_part_lists) (defBody s_law_part_lists) (defScope s_law_part_lists) .none kV9 dc9 pm9 an9 cd9 ct9), sl9⟩) (c9 : PySem.W.codeIn K cd9 "_law_part_lists" = true) (k9 : PySem.W.keepIn K (.ref f9) = true)
    (a10 : PySem.W.nsIn K mainGlobals "_law_change" = some (some (.ref f10))) (l10 : K.lookup f10 = some ⟨oc10, od10, .func (PySem.W.fnOf "_law_change" "_law_change" (defArgs s_law_change) (defBody s_law_change) (defScope s_law_change) .none kV10 dc10 pm10 an10 cd10 ct10), sl10⟩) (c10 : PySem.W.codeIn K cd10 "_law_change" = true) (k10 : PySem.W.keepIn K (.ref f10) = true)
    (a11 : PySem.W.nsIn K mainGlobals "_law_is_kept" = some (some (.ref f11))) (l11 : K.lookup f11 = some ⟨oc11, od11, .func (PySem.W.fnOf "_law_is_kept" "_law_is_kept" (defArgs s_law_is_kept) (defBody s_law_is_kept) (defScope s_law_is_kept) .none kV11 dc11 pm11 an11 cd11 ct11), sl11⟩) (c11 : PySem.W.codeIn K cd11 "_law_is_kept" = true) (k11 : PySem.W.keepIn K (.ref f11) = true)
    (a12 : PySem.W.nsIn K mainGlobals "_law_comes_first" = some (some (.ref f12))) (l12 : K.lookup f12 = some ⟨oc12, od12, .func (PySem.W.fnOf "_law_comes_first" "_law_comes_first" (defArgs s_law_comes_first) (defBody s_law_comes_first) (defScope s_law_comes_first) .none kV12 dc12 pm12 an12 cd12 ct12), sl12⟩) (c12 : PySem.W.codeIn K cd12 "_law_comes_first" = true) (k12 : PySem.W.keepIn K (.ref f12) = true)
    (a13 : PySem.W.nsIn K mainGlobals "_law_is_past" = some (some (.ref f13))) (l13 : K.lookup f13 = some ⟨oc13, od13, .func (PySem.W.fnOf "_law_is_past" "_law_is_past" (defArgs s_law_is_past) (defBody s_law_is_past) (defScope s_law_is_past) .none kV13 dc13 pm13 an13 cd13 ct13), sl13⟩) (c13 : PySem.W.codeIn K cd13 "_law_is_past" = true) (k13 : PySem.W.keepIn K (.ref f13) = true)
    (a14 : PySem.W.nsIn K mainGlobals "_law_asks_past" = some (some (.ref f14))) (l14 : K.lookup f14 = some ⟨oc14, od14, .func (PySem.W.fnOf "_law_asks_past" "_law_asks_past" (defArgs s_law_asks_past) (defBody s_law_asks_past) (defScope s_law_asks_past) .none kV14 dc14 pm14 an14 cd14 ct14), sl14⟩) (c14 : PySem.W.codeIn K cd14 "_law_asks_past" = true) (k14 : PySem.W.keepIn K (.ref f14) = true)
    (a15 : PySem.W.nsIn K mainGlobals "law" = some (some (.ref f15))) (l15 : K.lookup f15 = some ⟨oc15, od15, .func (PySem.W.fnOf "law" "law" (defArgs s_law) (defBody s_law) (defScope s_law) .none kV15 dc15 pm15 an15 cd15 ct15), sl15⟩) (c15 : PySem.W.codeIn K cd15 "law" = true) (k15 : PySem.W.keepIn K (.ref f15) = true)
    (b0 : PySem.W.findIn K (.ref C) "__init__" = some (some (.ref g0))) (i0 : PySem.W.isFn K (.ref g0) = true) (ll0 : K.lookup g0 = some ⟨ocx0, ox0, .func (PySem.W.fnOf "__init__" "Change.__init__" (defArgs s_Change_init) (defBody s_Change_init) (defScope s_Change_init) .none kVx0 dcx0 pmx0 ax0 cdx0 ctx0), sx0⟩) (cc0 : PySem.W.codeIn K cdx0 "Change.__init__" = true) (kk0 : PySem.W.keepIn K (.ref g0) = true)
    (b1 : PySem.W.findIn K (.ref C) "name" = some (some (.ref g1))) (i1 : PySem.W.isFn K (.ref g1) = true) (ll1 : K.lookup g1 = some ⟨ocx1, ox1, .func (PySem.W.fnOf "name" "Change.name" (defArgs s_Change_name) (defBody s_Change_name) (defScope s_Change_name) .none kVx1 dcx1 pmx1 ax1 cdx1 ctx1), sx1⟩) (cc1 : PySem.W.codeIn K cdx1 "Change.name" = true) (kk1 : PySem.W.keepIn K (.ref g1) = true)
    (b2 : PySem.W.findIn K (.ref C) "header" = some (some (.ref g2))) (i2 : PySem.W.isFn K (.ref g2) = true) (ll2 : K.lookup g2 = some ⟨ocx2, ox2, .func (PySem.W.fnOf "header" "Change.header" (defArgs s_Change_header) (defBody s_Change_header) (defScope s_Change_header) .none kVx2 dcx2 pmx2 ax2 cdx2 ctx2), sx2⟩) (cc2 : PySem.W.codeIn K cdx2 "Change.header" = true) (kk2 : PySem.W.keepIn K (.ref g2) = true)
    (b3 : PySem.W.findIn K (.ref C) "with_parts" = some (some (.ref g3))) (i3 : PySem.W.isFn K (.ref g3) = true) (ll3 : K.lookup g3 = some ⟨ocx3, ox3, .func (PySem.W.fnOf "with_parts" "Change.with_parts" (defArgs s_Change_with_parts) (defBody s_Change_with_parts) (defScope s_Change_with_parts) .none kVx3 dcx3 pmx3 ax3 cdx3 ctx3), sx3⟩) (cc3 : PySem.W.codeIn K cdx3 "Change.with_parts" = true) (kk3 : PySem.W.keepIn K (.ref g3) = true)
    (z_int : PySem.W.nsIn K mainGlobals "int" = some none)
    (z_str : PySem.W.nsIn K mainGlobals "str" = some none)
    (z_len : PySem.W.nsIn K mainGlobals "len" = some none)
    (z_min : PySem.W.nsIn K mainGlobals "min" = some none)
    (z_max : PySem.W.nsIn K mainGlobals "max" = some none)
    (z_sum : PySem.W.nsIn K mainGlobals "sum" = some none)
    (z_bool : PySem.W.nsIn K mainGlobals "bool" = some none)
    (z_list : PySem.W.nsIn K mainGlobals "list" = some none)
    (z_tuple : PySem.W.nsIn K mainGlobals "tuple" = some none)
    (z_range : PySem.W.nsIn K mainGlobals "range" = some none)
    (z_sorted : PySem.W.nsIn K mainGlobals "sorted" = some none)
    (z_isinstance : PySem.W.nsIn K mainGlobals "isinstance" = some none)
    (aC : PySem.W.nsIn K mainGlobals "Change" = some (some (.ref C)))
    (pg : PySem.W.plainGet K C Str.empty = true)
    (hd : PySem.W.hasDictIn K C = true)
    (po : PySem.W.plainOver K C = true)
    (sa : PySem.W.findIn K (.ref C) "__setattr__" = some (some (.builtin "object.__setattr__")))
    (mk : PySem.W.makesIn K C = true)
    (kc : PySem.W.keepIn K (.ref C) = true)
    (n0 : PySem.W.findIn K (.ref C) "author" = some none)
    (n1 : PySem.W.findIn K (.ref C) "number" = some none)
    (n2 : PySem.W.findIn K (.ref C) "heard" = some none)
    (n3 : PySem.W.findIn K (.ref C) "capability" = some none)
    (n4 : PySem.W.findIn K (.ref C) "publics" = some none)
    (n5 : PySem.W.findIn K (.ref C) "parts" = some none)
    : ∃ fd : FuncData, (∀ (s : Shared) (v : Value), BindsTo s fd ⟨[v], []⟩ [("script", v)]) ∧ ∀ base : Heap, K.In base → base.Ns mainGlobals mg → FnOk P w K mg base CX0 9 fa fd ["script"] (sp_law K) := by
  have e := hfa.symm.trans (PySem.W.mg_of X G a15)
  cases e
  have F_in_past := fun_mk (st := s_in_past) l0 c0 k0
  have N_in_past : Fn K mg "in_past" s_in_past ["name", "change"] f0 _ := ⟨F_in_past, PySem.W.mg_of X G a0, F_in_past.binds (ps := ["name", "change"]) fun _ _ _ _ _ _ us hl => match us, hl with | [_, _], _ => rfl⟩
  have F_order_key := fun_mk (st := s_order_key) l1 c1 k1
  have N_order_key : Fn K mg "order_key" s_order_key ["change"] f1 _ := ⟨F_order_key, PySem.W.mg_of X G a1, F_order_key.binds (ps := ["change"]) fun _ _ _ _ _ _ us hl => match us, hl with | [_], _ => rfl⟩
  have F_in_order := fun_mk (st := s_in_order) l2 c2 k2
  have N_in_order : Fn K mg "in_order" s_in_order ["changes"] f2 _ := ⟨F_in_order, PySem.W.mg_of X G a2, F_in_order.binds (ps := ["changes"]) fun _ _ _ _ _ _ us hl => match us, hl with | [_], _ => rfl⟩
  have F_law_mix := fun_mk (st := s_law_mix) l3 c3 k3
  have N_law_mix : Fn K mg "_law_mix" s_law_mix ["cell", "k"] f3 _ := ⟨F_law_mix, PySem.W.mg_of X G a3, F_law_mix.binds (ps := ["cell", "k"]) fun _ _ _ _ _ _ us hl => match us, hl with | [_, _], _ => rfl⟩
  have F_law_draws := fun_mk (st := s_law_draws) l4 c4 k4
  have N_law_draws : Fn K mg "_law_draws" s_law_draws ["script"] f4 _ := ⟨F_law_draws, PySem.W.mg_of X G a4, F_law_draws.binds (ps := ["script"]) fun _ _ _ _ _ _ us hl => match us, hl with | [_], _ => rfl⟩
  have F_law_at := fun_mk (st := s_law_at) l5 c5 k5
  have N_law_at : Fn K mg "_law_at" s_law_at ["draws", "index"] f5 _ := ⟨F_law_at, PySem.W.mg_of X G a5, F_law_at.binds (ps := ["draws", "index"]) fun _ _ _ _ _ _ us hl => match us, hl with | [_, _], _ => rfl⟩
  have F_law_is_integer := fun_mk (st := s_law_is_integer) l6 c6 k6
  have N_law_is_integer : Fn K mg "_law_is_integer" s_law_is_integer ["actual"] f6 _ := ⟨F_law_is_integer, PySem.W.mg_of X G a6, F_law_is_integer.binds (ps := ["actual"]) fun _ _ _ _ _ _ us hl => match us, hl with | [_], _ => rfl⟩
  have F_law_same := fun_mk (st := s_law_same) l7 c7 k7
  have N_law_same : Fn K mg "_law_same" s_law_same ["actual", "expected"] f7 _ := ⟨F_law_same, PySem.W.mg_of X G a7, F_law_same.binds (ps := ["actual", "expected"]) fun _ _ _ _ _ _ us hl => match us, hl with | [_, _], _ => rfl⟩
  have F_law_rows := fun_mk (st := s_law_rows) l8 c8 k8
  have N_law_rows : Fn K mg "_law_rows" s_law_rows ["draws"] f8 _ := ⟨F_law_rows, PySem.W.mg_of X G a8, F_law_rows.binds (ps := ["draws"]) fun _ _ _ _ _ _ us hl => match us, hl with | [_], _ => rfl⟩
  have F_law_part_lists := fun_mk (st := s_law_part_lists) l9 c9 k9
  have N_law_part_lists : Fn K mg "_law_part_lists" s_law_part_lists ["parts"] f9 _ := ⟨F_law_part_lists, PySem.W.mg_of X G a9, F_law_part_lists.binds (ps := ["parts"]) fun _ _ _ _ _ _ us hl => match us, hl with | [_], _ => rfl⟩
  have F_law_change := fun_mk (st := s_law_change) l10 c10 k10
  have N_law_change : Fn K mg "_law_change" s_law_change ["row", "as_lists"] f10 _ := ⟨F_law_change, PySem.W.mg_of X G a10, F_law_change.binds (ps := ["row", "as_lists"]) fun _ _ _ _ _ _ us hl => match us, hl with | [_, _], _ => rfl⟩
  have F_law_is_kept := fun_mk (st := s_law_is_kept) l11 c11 k11
  have N_law_is_kept : Fn K mg "_law_is_kept" s_law_is_kept ["change", "row"] f11 _ := ⟨F_law_is_kept, PySem.W.mg_of X G a11, F_law_is_kept.binds (ps := ["change", "row"]) fun _ _ _ _ _ _ us hl => match us, hl with | [_, _], _ => rfl⟩
  have F_law_comes_first := fun_mk (st := s_law_comes_first) l12 c12 k12
  have N_law_comes_first : Fn K mg "_law_comes_first" s_law_comes_first ["row", "other"] f12 _ := ⟨F_law_comes_first, PySem.W.mg_of X G a12, F_law_comes_first.binds (ps := ["row", "other"]) fun _ _ _ _ _ _ us hl => match us, hl with | [_, _], _ => rfl⟩
  have F_law_is_past := fun_mk (st := s_law_is_past) l13 c13 k13
  have N_law_is_past : Fn K mg "_law_is_past" s_law_is_past ["name", "row"] f13 _ := ⟨F_law_is_past, PySem.W.mg_of X G a13, F_law_is_past.binds (ps := ["name", "row"]) fun _ _ _ _ _ _ us hl => match us, hl with | [_, _], _ => rfl⟩
  have F_law_asks_past := fun_mk (st := s_law_asks_past) l14 c14 k14
  have N_law_asks_past : Fn K mg "_law_asks_past" s_law_asks_past ["draws", "rows", "changes"] f14 _ := ⟨F_law_asks_past, PySem.W.mg_of X G a14, F_law_asks_past.binds (ps := ["draws", "rows", "changes"]) fun _ _ _ _ _ _ us hl => match us, hl with | [_, _, _], _ => rfl⟩
  have F_law := fun_mk (st := s_law) l15 c15 k15
  have F_Change_init := fun_mk (st := s_Change_init) ll0 cc0 kk0
  have B_Change_init := F_Change_init.binds (ps := ["self", "author", "number", "heard", "capability", "publics", "parts"]) fun _ _ _ _ _ _ us hl => match us, hl with | [_, _, _, _, _, _, _], _ => rfl
  have F_Change_name := fun_mk (st := s_Change_name) ll1 cc1 kk1
  have B_Change_name := F_Change_name.binds (ps := ["self"]) fun _ _ _ _ _ _ us hl => match us, hl with | [_], _ => rfl
  have F_Change_header := fun_mk (st := s_Change_header) ll2 cc2 kk2
  have B_Change_header := F_Change_header.binds (ps := ["self"]) fun _ _ _ _ _ _ us hl => match us, hl with | [_], _ => rfl
  have F_Change_with_parts := fun_mk (st := s_Change_with_parts) ll3 cc3 kk3
  have B_Change_with_parts := F_Change_with_parts.binds (ps := ["self", "parts"]) fun _ _ _ _ _ _ us hl => match us, hl with | [_, _], _ => rfl
  have T : Txt K mg := { n_int := PySem.W.mg_none_of X G z_int, n_str := PySem.W.mg_none_of X G z_str, n_len := PySem.W.mg_none_of X G z_len, n_min := PySem.W.mg_none_of X G z_min, n_max := PySem.W.mg_none_of X G z_max, n_sum := PySem.W.mg_none_of X G z_sum, n_bool := PySem.W.mg_none_of X G z_bool, n_list := PySem.W.mg_none_of X G z_list, n_tuple := PySem.W.mg_none_of X G z_tuple, n_range := PySem.W.mg_none_of X G z_range, n_sorted := PySem.W.mg_none_of X G z_sorted, n_isinstance := PySem.W.mg_none_of X G z_isinstance }
  have cc : ChgC K C := ⟨⟨pg, hd, po, sa⟩, n0, n1, n2, n3, n4, n5⟩
  have TO : TxtO K mg f1 _ := { toTxt := T, key := ⟨F_order_key, N_order_key.bd, sc_order_key, rfl, rfl, ⟨_, _, _, _, _, _, _, _, _, _, _, rfl⟩⟩, g_order_key := ⟨_, PySem.W.mg_of X G a1, rfl⟩ }
  refine ⟨PySem.W.fnOf "law" "law" (defArgs s_law) (defBody s_law) (defScope s_law) .none kV15 dc15 pm15 an15 cd15 ct15, fun s v => .of_eq rfl, fun base _ _ => ?_⟩
  have cmk : MakX P w K mg base 1 "Change" C (sp_init C) [] := ⟨_, _, _, [], ⟨mk, b0, i0, kc⟩, ok_init F_Change_init T cc, PySem.W.mg_of X G aC, B_Change_init, .nil⟩
  have mname : MetX P w K mg base 1 C "name" (sp_name C) := ⟨_, _, _, cc.cl, ⟨b1, i1, kk1⟩, ok_name F_Change_name T cc, B_Change_name⟩
  have mhead : MetX P w K mg base 1 C "header" (sp_header C) := ⟨_, _, _, cc.cl, ⟨b2, i2, kk2⟩, ok_header F_Change_header T cc, B_Change_header⟩
  have mwith : MetX P w K mg base 3 C "with_parts" (sp_with C) := ⟨_, _, _, cc.cl, ⟨b3, i3, kk3⟩, ok_with F_Change_with_parts T cc cmk, B_Change_with_parts⟩
  have cpast := N_in_past.cal (ok_past (P := P) (w := w) (base := base) F_in_past T cc)
  have ckey := N_order_key.cal (ok_key (P := P) (w := w) (base := base) F_order_key T cc)
  have corder := N_in_order.cal (ok_order (P := P) (w := w) (base := base) F_in_order TO cc)
  have cmix := N_law_mix.cal (ok_mix (P := P) (w := w) (base := base) F_law_mix T)
  have cdraws := N_law_draws.cal (ok_draws F_law_draws T cmix)
  have cat := N_law_at.cal (ok_at F_law_at T cmix)
  have cint := N_law_is_integer.cal (ok_is_integer (P := P) (w := w) (base := base) F_law_is_integer T)
  have csame := ok_same N_law_same T cint
  have crows := N_law_rows.cal (ok_rows F_law_rows T cat)
  have cpl := N_law_part_lists.cal (ok_part_lists (P := P) (w := w) (base := base) F_law_part_lists T)
  have cchg := N_law_change.cal (ok_change F_law_change T cmk cpl)
  have ckept := N_law_is_kept.cal (ok_kept F_law_is_kept T cc (csame 5) ckey mname mhead mwith)
  have cfirst := N_law_comes_first.cal (ok_first (P := P) (w := w) (base := base) F_law_comes_first T)
  have cisp := N_law_is_past.cal (ok_is_past (P := P) (w := w) (base := base) F_law_is_past T)
  have casks := N_law_asks_past.cal (ok_asks F_law_asks_past T cat cpast cisp)
  exact ok_law F_law T cdraws crows cchg cat ckept corder mname cfirst casks
theorem walk {l : PySem.W.OpenLaw} {q : Program} {loose : List Str} {XP : (Str → Option Value) → Heap → Prop} {YP : World → Heap → Prop} {d : DefRec} {K : Params → PySem.W.Frag} (hn : l.most = some 63) (hdf : d.params.defaults = [])
    (hY : ∀ (w : World) (h : Heap), YP w h → (K w.params).In h)
    (F : ∀ (w : World) (mg : Str → Option Value) (fa : Addr) (h : Heap), (K w.params).In h → h.Ns mainGlobals mg → mg d.name = some (.ref fa) →
      ∃ fd : FuncData, (∀ (s : Shared) (u : Value), BindsTo s fd ⟨[u], []⟩ [("script", u)]) ∧ ∀ base : Heap, (K w.params).In base → base.Ns mainGlobals mg → FnOk l.prog w (K w.params) mg base CX0 9 fa fd ["script"] (sp_law (K w.params))) :
    PySem.W.WalkO q loose XP YP l.row.toRowW d [] (fun f vs => PySem.call f vs) :=
  L2.walk_of (n := 63) (k := 9) (x := "script") (CX := fun _ => CX0) (sp := fun w => sp_law (K w.params)) hn (by decide) hdf ⟨rfl, by decide, by decide⟩ hY F (fun _ _ a ns hl _ hS => ⟨a, ns, rfl, hS, hl, fun _ => rfl⟩) fun _ _ _ _ _ z => z
end Kw
open PySem PySem.W PyProof.Rows
set_option maxRecDepth 100000 in
set_option maxHeartbeats 0 in
theorem PySem.Challenge.cw_kithwhole_k02_order_of_changes_holds : PySem.Challenge.rw_kithwhole_k02_order_of_changes.Holds := by
  w_on; o_law; k_head; (case hw => w_witness2)
  k_fill
  refine Kw.walk (l := PySem.Challenge.rw_kithwhole_k02_order_of_changes) rfl rfl (fun w h Y => PySem.W.kIn_of Y) ?F
  case F =>
    intro w mg fa h KX G hmg
    refine' Kw.all_mk KX G hmg ?a0 ?l0 ?c0 ?k0 ?a1 ?l1 ?c1 ?k1 ?a2 ?l2 ?c2 ?k2 ?a3 ?l3 ?c3 ?k3 ?a4 ?l4 ?c4 ?k4 ?a5 ?l5 ?c5 ?k5 ?a6 ?l6 ?c6 ?k6 ?a7 ?l7 ?c7 ?k7 ?a8 ?l8 ?c8 ?k8 ?a9 ?l9 ?c9 ?k9 ?a10 ?l10 ?c10 ?k10 ?a11 ?l11 ?c11 ?k11 ?a12 ?l12 ?c12 ?k12 ?a13 ?l13 ?c13 ?k13 ?a14 ?l14 ?c14 ?k14 ?a15 ?l15 ?c15 ?k15 ?b0 ?i0 ?ll0 ?cc0 ?kk0 ?b1 ?i1 ?ll1 ?cc1 ?kk1 ?b2 ?i2 ?ll2 ?cc2 ?kk2 ?b3 ?i3 ?ll3 ?cc3 ?kk3 ?z_int ?z_str ?z_len ?z_min ?z_max ?z_sum ?z_bool ?z_list ?z_tuple ?z_range ?z_sorted ?z_isinstance ?aC ?pg ?hd ?po ?sa ?mk ?kc ?n0 ?n1 ?n2 ?n3 ?n4 ?n5
    (case aC => k_is)
    (case a0 => k_is)
    (case l0 => k_is)
    (case c0 => k_is)
    (case k0 => k_is)
    (case a1 => k_is)
    (case l1 => k_is)
    (case c1 => k_is)
    (case k1 => k_is)
    (case a2 => k_is)
    (case l2 => k_is)
    (case c2 => k_is)
    (case k2 => k_is)
    (case a3 => k_is)
    (case l3 => k_is)
    (case c3 => k_is)
    (case k3 => k_is)
    (case a4 => k_is)
    (case l4 => k_is)
    (case c4 => k_is)
    (case k4 => k_is)
    (case a5 => k_is)
    (case l5 => k_is)
    (case c5 => k_is)
    (case k5 => k_is)
    (case a6 => k_is)
    (case l6 => k_is)
    (case c6 => k_is)
    (case k6 => k_is)
    (case a7 => k_is)
    (case l7 => k_is)
    (case c7 => k_is)
    (case k7 => k_is)
    (case a8 => k_is)
    (case l8 => k_is)
    (case c8 => k_is)
    (case k8 => k_is)
    (case a9 => k_is)
    (case l9 => k_is)
    (case c9 => k_is)
    (case k9 => k_is)
    (case a10 => k_is)
    (case l10 => k_is)
    (case c10 => k_is)
    (case k10 => k_is)
    (case a11 => k_is)
    (case l11 => k_is)
    (case c11 => k_is)
    (case k11 => k_is)
    (case a12 => k_is)
    (case l12 => k_is)
    (case c12 => k_is)
    (case k12 => k_is)
    (case a13 => k_is)
    (case l13 => k_is)
    (case c13 => k_is)
    (case k13 => k_is)
    (case a14 => k_is)
    (case l14 => k_is)
    (case c14 => k_is)
    (case k14 => k_is)
    (case a15 => k_is)
    (case l15 => k_is)
    (case c15 => k_is)
    (case k15 => k_is)
    (case b0 => k_is)
    (case i0 => k_is)
    (case ll0 => k_is)
    (case cc0 => k_is)
    (case kk0 => k_is)
    (case b1 => k_is)
    (case i1 => k_is)
    (case ll1 => k_is)
    (case cc1 => k_is)
    (case kk1 => k_is)
    (case b2 => k_is)
    (case i2 => k_is)
    (case ll2 => k_is)
    (case cc2 => k_is)
    (case kk2 => k_is)
    (case b3 => k_is)
    (case i3 => k_is)
    (case ll3 => k_is)
    (case cc3 => k_is)
    (case kk3 => k_is)
    (case z_int => k_is)
    (case z_str => k_is)
    (case z_len => k_is)
    (case z_min => k_is)
    (case z_max => k_is)
    (case z_sum => k_is)
    (case z_bool => k_is)
    (case z_list => k_is)
    (case z_tuple => k_is)
    (case z_range => k_is)
    (case z_sorted => k_is)
    (case z_isinstance => k_is)
    (case pg => k_is)
    (case hd => k_is)
    (case po => k_is)
    (case sa => k_is)
    (case mk => k_is)
    (case kc => k_is)
    (case n0 => k_is)
    (case n1 => k_is)
    (case n2 => k_is)
    (case n3 => k_is)
    (case n4 => k_is)
    (case n5 => k_is)
#print axioms PySem.Challenge.cw_kithwhole_k02_order_of_changes_holds
