import PyProof.Rows.All
import Wide.All
import OpenK.AllK
import Wide.FinOn
import HandS.Base
import HandS.Call
import HandS.List
import HandS.Comp
import HandS.Ends
import HandS.Iter
import HandS.Walk
import HandS.Text
import HandS.Words
import HandS.WordsList
import HandS.Exc
import HandS.TryOnly
import HandS.ExcOwn
import HandS.WordsExc
import HandS.Dict
import HandS.ExcIs
import HandS.FStr
import HandS.Small
import HandS.IsInst
import HandS.More
import HandS.Codes
import KE.SortKeyHeap
import KE.KTupSum
import HandS.SortKw
import HandS.Sort
import HandS.TupAny
import HandS.Wide
import HandS.TupLe
import PyProof.NeKinds
import PyProof.FString5
import PyProof.AutoSeq1
import KE.KxText
import KE.RegKIsAll
import PySem.Challenge.RW_kithwhole_k38_came_and_went
set_option Elab.async false
set_option linter.all false
set_option maxRecDepth 100000
set_option maxHeartbeats 2000000
namespace Kw
open PySem PySem.Spec PyProof.Rows L2
/-! ### calls of a def by what is known of it -/
structure CalX (P : Program) (w : World) (K : PySem.W.Frag) (mg : Str → Option Value) (base : Heap) (CX : CXT) (k : Nat) (x : Str) (sp : Sp) : Prop where
  ex : ∃ (f : Addr) (fd : FuncData) (ps : List Str), FnOk P w K mg base CX k f fd ps sp ∧ mg x = some (.ref f) ∧ PySem.W.keepIn K (.ref f) = true ∧ Binds K fd ps []
section
variable {X : Cx} {CX : CXT} {k j : Nat} {x : Str} {sp : Sp} {E : L2.St → XK} {p pos : Pos} {e : Expr} {es : List Expr} {t : TA}
theorem pe_cx (c : CalX X.prog X.w X.K X.mg X.base CX k x sp) (hr : Room k X.A) (hg : Gl X x) (hx : Passes CX X E0) (ha : PA X (e :: es) t)
    (hdb : (x == ("__debug__" : Str)) = false := by decide) (he : starEach (e :: es) X.env = (false, eval e X.env) :: starEach es X.env := by rfl) (hpl : (backTo pos (starEach es X.env)).any (·.1) = false := by rfl) :
    PE X (.Call (.Name x p) (e :: es) [] pos) (tCall sp [] E0 t) := by
  obtain ⟨f, fd, ps, F, hm, kp, b⟩ := c.ex
  exact pe_call F hr hg hm kp b .nil hx ha hdb he hpl
theorem pe_cxS (c : CalX X.prog X.w X.K X.mg X.base CX k x sp) (hr : Room k X.A) (hg : Gl X x) (hx : ∀ σ, PassesAt CX X σ (E σ)) (ha : PA X (e :: es) t)
    (hdb : (x == ("__debug__" : Str)) = false := by decide) (he : starEach (e :: es) X.env = (false, eval e X.env) :: starEach es X.env := by rfl) (hpl : (backTo pos (starEach es X.env)).any (·.1) = false := by rfl) :
    PE X (.Call (.Name x p) (e :: es) [] pos) (tCallS sp E t) := by
  obtain ⟨f, fd, ps, F, hm, kp, b⟩ := c.ex
  exact pe_callS F hr hg hm kp b hx ha hdb he hpl
end
/-! ### rules in a plainer form -/
section
variable {X : Cx}
theorem CallR.imp {f : Value} {r r' : List V → Hp → VK → Prop} (h : CallR X f r) (i : ∀ xs H Q, r' xs H Q → r xs H Q) : CallR X f r' :=
  fun pins s σ H xs us Q I v q => h pins s σ H xs us Q I v (i _ _ _ q)
theorem call_intI : CallR X (.type "int") (fun xs H Q => ∃ i, xs = [.int i] ∧ Q (.int i) H) :=
  CallR.imp call_int1 fun _ _ _ h => .inl h
theorem call_lenL : CallR X (.builtin "len") (fun xs H Q => ∃ p ys, xs = [.ref p] ∧ SqL X.K H p ys ∧ Q (.int ys.length) H) :=
  CallR.imp call_len_seq fun _ _ _ ⟨p, ys, a, b, c⟩ => ⟨p, ys, a, .inl b, c⟩
theorem call_lenT : CallR X (.builtin "len") (fun xs H Q => ∃ p ys, xs = [.ref p] ∧ SqT X.K H p ys ∧ Q (.int ys.length) H) :=
  CallR.imp call_len_seq fun _ _ _ ⟨p, ys, a, b, c⟩ => ⟨p, ys, a, .inr b, c⟩
/-- a text that is repeated -/
def repS (z : Str) (k : Nat) : Str := ⟨(List.replicate k z.cps).foldl (· ++ ·) #[]⟩
theorem rep_size (z : Array Nat) : ∀ (k : Nat) (a : Array Nat), ((List.replicate k z).foldl (· ++ ·) a).size = a.size + k * z.size
  | 0, a => by simp
  | k + 1, a => by
    rw [List.replicate_succ, List.foldl_cons, rep_size z k, Array.size_append, Nat.succ_mul]
    omega
theorem repS_length (z : Str) (k : Nat) : (repS z k).length = k * z.length := by
  show ((List.replicate k z.cps).foldl (· ++ ·) #[]).size = _
  rw [rep_size]
  show 0 + k * z.cps.size = k * z.cps.size
  omega
theorem op_mul_str : OpR X (binaryOp .Mult) (fun x y H Q => ∃ z k, x = .str z ∧ y = .int k ∧ 0 ≤ k ∧ k ≤ 1000 ∧ z.length ≤ 1000 ∧ ∀ r : Str, r.length = k.toNat * z.length → Q (.str r) H) := by
  intro pins s σ H x y v u Q I rx ry h
  obtain ⟨z, k, rfl, rfl, h0, h1, hz, q⟩ := h
  obtain ⟨t, rfl⟩ := rx
  obtain ⟨t', rfl⟩ := ry
  have hm : z.length * k.toNat ≤ 1000 * 1000 := Nat.mul_le_mul hz (by omega)
  have hs : z.length * k.toNat ≤ sizeLine := Nat.le_trans hm (by rw [sizeLine_eq]; decide)
  refine PySem.P.mul_str ?_ ?_ ?_ ?_
  · have a : ¬ k < -(2 ^ 63 : Int) := by omega
    have b : ¬ k ≥ 2 ^ 63 := by omega
    rw [decide_eq_false a, decide_eq_false b]
    rfl
  · intro hk _
    have hk : (2 ^ 63 - 1 : Int) / k ≥ 1000 := by
      have : (1000 : Int) * k ≤ 2 ^ 63 - 1 := by omega
      exact (Int.le_ediv_iff_mul_le (by omega)).mpr this
    have : (z.length : Int) ≤ 1000 := by omega
    omega
  · intro _ _
    show decide (z.length * k.toNat > sizeLine) = false
    exact decide_eq_false (by omega)
  · by_cases c : k < 1
    · rw [if_pos c]
      exact ⟨by show (0 : Nat) ≤ sizeLine; exact Nat.zero_le _, .str Str.empty, H, I.tok _, ⟨_, rfl⟩, q _ (by
        have : k.toNat = 0 := by omega
        rw [this]
        show (0 : Nat) = _
        omega)⟩
    · rw [if_neg c]
      by_cases d : (k == 1 || z.length == 0) = true
      · rw [if_pos d]
        refine ⟨.str z, H, I.tok _, ⟨_, rfl⟩, q _ ?_⟩
        rw [Bool.or_eq_true, beq_iff_eq, beq_iff_eq] at d
        rcases d with d | d
        · subst d
          show z.length = 1 * z.length
          omega
        · rw [d]
          omega
      · rw [if_neg d]
        refine ⟨?_, .str (repS z k.toNat), H, I.tok _, ⟨_, rfl⟩, q _ (repS_length z _)⟩
        show (repS z k.toNat).length ≤ sizeLine
        rw [repS_length, Nat.mul_comm]
        exact hs
end
/-! ### heaps, lists -/
theorem same_upd {H H' : Hp} {l : Addr} {o : HO} (hl : H l = none) (s : Same H H') : Same H (upd H' l o) := fun b u e => by
  rw [upd_ne (ne_of_none e hl)]
  exact s b u e
theorem same_new {H H' : Hp} {l : Addr} {o : HO} (hl : H' l = none) (s : Same H H') : Same H (upd H' l o) := same_upd (s.free hl) s
theorem int_at {ns : List Int} {i : Nat} {y : V} (h : (ns.map V.int)[i]? = some y) : ∃ z, ns[i]? = some z ∧ y = V.int z := by
  rw [List.getElem?_map] at h
  cases e : ns[i]? with
  | none =>
    rw [e] at h
    cases h
  | some z =>
    rw [e] at h
    exact ⟨z, rfl, (Option.some.inj h).symm⟩
theorem at_int {ns : List Int} {i : Nat} {z : Int} (h : ns[i]? = some z) : (ns.map V.int)[i]? = some (V.int z) := by
  rw [List.getElem?_map, h]
  rfl
theorem some_at {α : Type} {l : List α} {i : Nat} (h : i < l.length) : ∃ x, l[i]? = some x := ⟨l[i], List.getElem?_eq_getElem h⟩
theorem sz_small {n : Nat} (h : n ≤ 16000000) : n ≤ sizeLine := by
  rw [sizeLine_eq]
  omega
theorem lt_small {n : Nat} (h : n ≤ 16000000) : n < sizeLine := by
  rw [sizeLine_eq]
  omega
theorem map_snoc {α β : Type} {f : α → β} {l : List α} {x : α} : l.map f ++ [f x] = (l ++ [x]).map f := by
  rw [List.map_append]
  rfl
theorem all_snoc {α : Type} {p : α → Prop} {l : List α} {x : α} (h : ∀ y ∈ l, p y) (hx : p x) : ∀ y ∈ l ++ [x], p y := fun y hy => by
  rcases List.mem_append.mp hy with h1 | h1
  · exact h y h1
  · rw [List.mem_singleton.mp h1]
    exact hx
theorem ite_some {c : Prop} [Decidable c] {A B : Prop} (h1 : c → A) (h2 : ¬ c → B) : if (decide c) = true then A else B := ite2 (fun h => h1 (of_decide_eq_true h)) fun h => h2 (fun e => h (decide_eq_true e))
theorem ite_not {c : Prop} [Decidable c] {A B : Prop} (h1 : ¬ c → A) (h2 : c → B) : if (!decide c) = true then A else B := by
  by_cases e : c
  · rw [decide_eq_true e]
    exact h2 e
  · rw [decide_eq_false e]
    exact h1 e
theorem int_eq {i j : Int} {A B : Prop} (h1 : i = j → A) (h2 : i ≠ j → B) : if (decide (V.int i = V.int j)) = true then A else B :=
  ite_some (fun e => h1 (V.int.inj e)) fun e => h2 fun q => e (by rw [q])
/-! ### lists and tuples alike -/
def Sq (K : PySem.W.Frag) (H : Hp) (a : Addr) (xs : List V) : Prop := SqL K H a xs ∨ SqT K H a xs
section
variable {X : Cx}
theorem IxR.imp {r r' : R2} (h : IxR X r) (i : ∀ x y H Q, r' x y H Q → r x y H Q) : IxR X r' :=
  fun value slice pins s σ H x y v u Q I rx ry q hs => h value slice pins s σ H x y v u Q I rx ry (i _ _ _ _ q) hs
theorem ix_sq : IxR X (fun x y H Q => ∃ p xs i v, x = .ref p ∧ y = .int i ∧ Sq X.K H p xs ∧ atI xs i = some v ∧ Q v H) :=
  IxR.imp ix_seq fun x y H Q ⟨p, xs, i, v, e1, e2, hs, ha, q⟩ => by
    rcases hs with hs | hs
    · exact .inl ⟨p, xs, i, v, e1, e2, hs, ha, q⟩
    · exact .inr (.inl ⟨p, xs, i, v, e1, e2, hs, ha, q⟩)
theorem some_at0 {α : Type} {l : List α} {i : Nat} (h : i < l.length) : ∃ x, l[i]? = some x := ⟨l[i], List.getElem?_eq_getElem h⟩
theorem atI_pos {α : Type} {xs : List α} {i : Int} {v : α} (h0 : 0 ≤ i) (h : xs[i.toNat]? = some v) : atI xs i = some v := by
  have e : i = ((i.toNat : Nat) : Int) := by omega
  rw [e]
  exact atI_nat h
theorem ix_listA : IxR X (fun x y H Q => ∃ p xs i, x = .ref p ∧ y = .int i ∧ SqL X.K H p xs ∧ 0 ≤ i ∧ i < xs.length ∧ ∀ v, xs[i.toNat]? = some v → Q v H) :=
  IxR.imp ix_list fun x y H Q ⟨p, xs, i, e1, e2, hs, h0, h1, q⟩ => by
    obtain ⟨v, hv⟩ := some_at0 (l := xs) (i := i.toNat) (by omega)
    exact ⟨p, xs, i, v, e1, e2, hs, atI_pos h0 hv, q v hv⟩
theorem ix_tupA : IxR X (fun x y H Q => ∃ p xs i, x = .ref p ∧ y = .int i ∧ SqT X.K H p xs ∧ 0 ≤ i ∧ i < xs.length ∧ ∀ v, xs[i.toNat]? = some v → Q v H) :=
  IxR.imp ix_tup fun x y H Q ⟨p, xs, i, e1, e2, hs, h0, h1, q⟩ => by
    obtain ⟨v, hv⟩ := some_at0 (l := xs) (i := i.toNat) (by omega)
    exact ⟨p, xs, i, v, e1, e2, hs, atI_pos h0 hv, q v hv⟩
theorem ix_strA : IxR X (fun x y H Q => ∃ z i, x = .str z ∧ y = .int i ∧ z.length ≤ sizeLine ∧ 0 ≤ i ∧ i < z.length ∧ ∀ c, z.cps.toList[i.toNat]? = some c → Q (.str ⟨#[c]⟩) H) :=
  IxR.imp ix_str fun x y H Q ⟨z, i, e1, e2, hs, h0, h1, q⟩ => by
    obtain ⟨c, hc⟩ := some_at0 (l := z.cps.toList) (i := i.toNat) (by rw [Array.length_toList]; show i.toNat < z.length; omega)
    exact ⟨z, i, c, e1, e2, hs, atI_pos h0 hc, q c hc⟩
theorem call_lenS : CallR X (.builtin "len") (fun xs H Q => ∃ p ys, xs = [.ref p] ∧ Sq X.K H p ys ∧ Q (.int ys.length) H) := call_len_seq
end
/-! ### data as a whole -/
inductive D where
  | non
  | bl (b : Bool)
  | int (i : Int)
  | str (z : Str)
  | seq (l : Bool) (xs : List D)
def seqO (l : Bool) (xs : List V) : HO := if l = true then .lst xs else .tup xs
mutual
def At (H : Hp) : D → V → Prop
  | .non, v => v = .non
  | .bl b, v => v = .bl b
  | .int i, v => v = .int i
  | .str z, v => v = .str z
  | .seq l ds, v => ∃ (a : Addr) (xs : List V), v = .ref a ∧ H a = some (seqO l xs) ∧ AtL H ds xs ∧ ds.length ≤ 16000000
def AtL (H : Hp) : List D → List V → Prop
  | [], xs => xs = []
  | d :: ds, xs => ∃ (x : V) (ys : List V), xs = x :: ys ∧ At H d x ∧ AtL H ds ys
end
mutual
def D.dep : D → Nat
  | .seq _ ds => depL ds + 1
  | _ => 0
def depL : List D → Nat
  | [] => 0
  | d :: ds => max d.dep (depL ds)
end
mutual
theorem At.same {H H' : Hp} (s : Same H H') : ∀ (d : D) (v : V), At H d v → At H' d v
  | .non, _, h => h
  | .bl _, _, h => h
  | .int _, _, h => h
  | .str _, _, h => h
  | .seq l ds, v, h => by
    obtain ⟨a, xs, e, ha, hl, z⟩ := h
    exact ⟨a, xs, e, s _ _ ha, AtL.same s ds xs hl, z⟩
theorem AtL.same {H H' : Hp} (s : Same H H') : ∀ (ds : List D) (xs : List V), AtL H ds xs → AtL H' ds xs
  | [], _, h => h
  | d :: ds, xs, h => by
    obtain ⟨x, ys, e, h1, h2⟩ := h
    exact ⟨x, ys, e, At.same s d x h1, AtL.same s ds ys h2⟩
end
theorem AtL.length {H : Hp} : ∀ {ds : List D} {xs : List V}, AtL H ds xs → xs.length = ds.length
  | [], xs, h => by
    rw [show xs = [] from h]
    rfl
  | d :: ds, xs, h => by
    obtain ⟨x, ys, e, _, h2⟩ := h
    rw [e, List.length_cons, List.length_cons, AtL.length h2]
theorem AtL.get {H : Hp} : ∀ {ds : List D} {xs : List V} {i : Nat} {d : D}, AtL H ds xs → ds[i]? = some d → ∃ x, xs[i]? = some x ∧ At H d x
  | [], xs, i, d, h, e => by simp at e
  | c :: ds, xs, 0, d, h, e => by
    obtain ⟨x, ys, ex, h1, _⟩ := h
    have q : c = d := by simpa using e
    subst q
    exact ⟨x, by rw [ex]; rfl, h1⟩
  | c :: ds, xs, i + 1, d, h, e => by
    obtain ⟨x, ys, ex, _, h2⟩ := h
    obtain ⟨z, hz, hA⟩ := AtL.get (i := i) (d := d) h2 (by simpa using e)
    exact ⟨z, by rw [ex]; simpa using hz, hA⟩
theorem dep_get : ∀ {ds : List D} {i : Nat} {d : D}, ds[i]? = some d → d.dep ≤ depL ds
  | [], i, d, e => by simp at e
  | c :: ds, 0, d, e => by
    have q : c = d := by simpa using e
    subst q
    show c.dep ≤ max c.dep (depL ds)
    exact Nat.le_max_left _ _
  | c :: ds, i + 1, d, e => by
    have q := dep_get (ds := ds) (i := i) (d := d) (by simpa using e)
    exact Nat.le_trans q (by show depL ds ≤ max c.dep (depL ds); exact Nat.le_max_right _ _)
def D.ty : D → String
  | .non => "NoneType"
  | .bl _ => "bool"
  | .int _ => "int"
  | .str _ => "str"
  | .seq l _ => if l = true then "list" else "tuple"
theorem At.ty {K : PySem.W.Frag} {H : Hp} {v : V} : ∀ {d : D}, At H d v → TyX K H v (.type d.ty)
  | .non, h => by
    rw [show v = .non from h]
    exact .base .non
  | .bl b, h => by
    rw [show v = .bl b from h]
    exact .base (.bl b)
  | .int b, h => by
    rw [show v = .int b from h]
    exact .base (.int b)
  | .str b, h => by
    rw [show v = .str b from h]
    exact .base (.str b)
  | .seq true ds, h => by
    obtain ⟨a, xs, e, ha, _⟩ := h
    rw [e]
    exact .base (.lst ha)
  | .seq false ds, h => by
    obtain ⟨a, xs, e, ha, _⟩ := h
    rw [e]
    exact .base (.tup ha)
theorem sq_of {K : PySem.W.Frag} {H : Hp} {a : Addr} {l : Bool} {xs : List V} (h : H a = some (seqO l xs)) : Sq K H a xs := by
  cases l with
  | true => exact .inl (SqL.of h)
  | false => exact .inr (SqT.of h)
/-- a def by what is known of it -/
structure Fn (K : PySem.W.Frag) (mg : Str → Option Value) (x : Str) (st : Stmt) (ps : List Str) (f : Addr) (fd : FuncData) : Prop where
  fn : Fun K x x st f fd
  mgf : mg x = some (.ref f)
  bd : Binds K fd ps []
theorem Fn.cal {P : Program} {w : World} {K : PySem.W.Frag} {mg : Str → Option Value} {base : Heap} {CX : CXT} {k : Nat} {x : Str} {st : Stmt} {ps : List Str} {f : Addr} {fd : FuncData} {sp : Sp} (F : Fn K mg x st ps f fd)
    (h : FnOk P w K mg base CX k f fd ps sp) : CalX P w K mg base CX k x sp := ⟨f, fd, ps, h, F.mgf, F.fn.kp, F.bd⟩
theorem CalX.mono {P : Program} {w : World} {K : PySem.W.Frag} {mg : Str → Option Value} {base : Heap} {CX : CXT} {j k : Nat} {x : Str} {sp : Sp} (c : CalX P w K mg base CX j x sp) (h : j ≤ k) : CalX P w K mg base CX k x sp := by
  obtain ⟨f, fd, ps, F, a, b, d⟩ := c.ex
  exact ⟨f, fd, ps, F.mono h, a, b, d⟩
theorem CalX.imp {P : Program} {w : World} {K : PySem.W.Frag} {mg : Str → Option Value} {base : Heap} {CX : CXT} {k : Nat} {x : Str} {sp sp' : Sp} (c : CalX P w K mg base CX k x sp) (h : ∀ vs H Q E, sp' vs H Q E → sp vs H Q E) : CalX P w K mg base CX k x sp' := by
  obtain ⟨f, fd, ps, F, a, b, d⟩ := c.ex
  exact ⟨f, fd, ps, F.imp h, a, b, d⟩
theorem ixN_pos {n : Nat} {i : Int} (h0 : 0 ≤ i) (h1 : i < n) : ixN n i = some i.toNat := by
  unfold ixN
  rw [if_pos h0, if_pos h1]
theorem all_set {α : Type} {p : α → Prop} {l : List α} {i : Nat} {x : α} (h : ∀ y ∈ l, p y) (hx : p x) : ∀ y ∈ l.set i x, p y := fun y hy => by
  rcases List.mem_or_eq_of_mem_set hy with h1 | h1
  · exact h y h1
  · rw [h1]
    exact hx
theorem str_at {ns : List Str} {i : Nat} {y : V} (h : (ns.map V.str)[i]? = some y) : ∃ z, z ∈ ns ∧ ns[i]? = some z ∧ y = V.str z := by
  rw [List.getElem?_map] at h
  cases e : ns[i]? with
  | none =>
    rw [e] at h
    cases h
  | some z =>
    rw [e] at h
    exact ⟨z, List.mem_of_getElem? e, rfl, (Option.some.inj h).symm⟩
/-- a comprehension of one for: the new list, if each element's value is told -/
theorem lc_map {J : It} {n : Nat} {G : Hp → Prop} {Y : Nat → Hp → V → Hp → Prop} (w : L2.Walk J n G Y) {j : Nat} {te : TE} {σ : L2.St} {H1 : Hp} {D : Addr} {Qd : Hp → Prop} (hD : H1 D = none) (hn : n ≤ 16000000) (f : Nat → V)
    (hG : ∀ H, Same H1 H → G H)
    (hs : ∀ i x H H', i < n → Same H1 H → Y i H x H' → Same H H' ∧ ∀ Q : VK, (∀ H2, Same H' H2 → Q (f i) H2) → te ((σ.set j none).set j (some x)) H' Q)
    (hd : ∀ H, Same H1 H → H D = some (.lst ((List.range n).map f)) → Qd H) :
    ∃ W : Nat → Nat → Hp → Prop, (∃ m, W 0 m (upd H1 D (.lst []))) ∧ ∀ i m H, W i m H →
      (J.stop i H ∧ Qd H) ∨ (J.go i H ∧ ∃ Nx : Hp → Prop, (∀ H', Nx H' → ∃ m', m' < m ∧ W (i + 1) m' H') ∧ ∀ x H', J.yld i H x H' → gName j x (wipe σ [j]) H' fun σ2 H2 => wipe σ2 [j] = wipe σ [j] ∧ tYes σ2 H2 fun b H3 =>
        if b = true then te σ2 H3 fun y H4 => ∃ acc, H4 D = some (.lst acc) ∧ acc.length < sizeLine ∧ Nx (upd H4 D (.lst (acc ++ [y]))) else Nx H3) := by
  have hn2 : n < sizeLine := by
    rw [sizeLine_eq]
    omega
  refine lc_it w (fun i H => Same H1 H ∧ H D = some (.lst ((List.range i).map f))) ⟨same_new hD (Same.refl _), upd_same⟩ (fun i H _ h => hG H h.1) ?_ (fun H h => hd H h.1 h.2)
  rintro i x H H' hi ⟨s1, hd1⟩ y
  obtain ⟨s2, q⟩ := hs i x H H' hi s1 y
  refine ⟨by show (((σ.set j none).set j (some x)).set j none) = σ.set j none; rw [List.set_set, List.set_set], ?_⟩
  refine iteT (A := te ((σ.set j none).set j (some x)) H' _) (B := Same H1 H' ∧ H' D = some (.lst ((List.range (i + 1)).map f))) ?_
  refine q _ fun H2 s3 => ⟨_, s3 _ _ (s2 _ _ hd1), by rw [List.length_map, List.length_range]; omega, same_upd hD (s1.trans (s2.trans s3)), ?_⟩
  rw [upd_same, List.range_succ, List.map_append]
  rfl
theorem range_map {α : Type} (xs : List α) (f : Nat → V) (g : α → V) (h : ∀ i x, xs[i]? = some x → f i = g x) : (List.range xs.length).map f = xs.map g := by
  apply List.ext_getElem?
  intro i
  rw [List.getElem?_map, List.getElem?_map]
  by_cases hi : i < xs.length
  · rw [List.getElem?_range hi, List.getElem?_eq_getElem hi]
    exact congrArg some (h i _ (List.getElem?_eq_getElem hi))
  · rw [List.getElem?_eq_none (by rw [List.length_range]; omega), List.getElem?_eq_none (by omega)]
    rfl
/-- isinstance of the error that a suite holds: its class is D's -/
theorem call_isE2 {X : Cx} {a D : Addr} {oe : Obj} {cls : Value} {d : Option Addr} {pn : List (Addr × Obj)} (C : ExcC X.K D) (hz : Zc cls d oe) (hf : ∃ vs, oe.data = .fields vs) :
    CallR (X.suite a ((a, oe) :: pn)) (.builtin "isinstance") (fun xs H Q => cls = .ref D ∧ d = none ∧ rIsE X.K D a xs H Q) := by
  intro pins s σ H xs us Q I r h
  obtain ⟨e1, e2, q⟩ := h
  subst e1 e2
  exact call_isE C hz hf pins s σ H xs us Q I r q
/-! ### classes by what is known of them -/
structure MakX (P : Program) (w : World) (K : PySem.W.Frag) (mg : Str → Option Value) (base : Heap) (k : Nat) (x : Str) (C : Addr) (sp : Sp) (dvs : List V) : Prop where
  ex : ∃ (f : Addr) (fd : FuncData) (ps : List Str) (ds : List Value), Mk K C f ∧ FnOk P w K mg base CX0 k f fd ps sp ∧ mg x = some (.ref C) ∧ Binds K fd ps ds ∧ Vals dvs ds
structure MetX (P : Program) (w : World) (K : PySem.W.Frag) (mg : Str → Option Value) (base : Heap) (k : Nat) (C : Addr) (m : Str) (sp : Sp) : Prop where
  ex : ∃ (f : Addr) (fd : FuncData) (ps : List Str), Cls K C ∧ Meth K C m f ∧ FnOk P w K mg base CX0 k f fd ps sp ∧ Binds K fd ps []
section
variable {X : Cx} {k j : Nat} {C : Addr} {x m : Str} {sp : Sp} {dvs : List V} {p pos apos : Pos} {e o : Expr} {es : List Expr} {ta : TE} {t : TA}
theorem pe_mkx (c : MakX X.prog X.w X.K X.mg X.base k x C sp dvs) (hr : Room j X.A) (hk : k + 1 ≤ j) (hg : Gl X x) (ha : PA X (e :: es) t)
    (hdb : (x == ("__debug__" : Str)) = false := by decide) (he : starEach (e :: es) X.env = (false, eval e X.env) :: starEach es X.env := by rfl) (hpl : (backTo pos (starEach es X.env)).any (·.1) = false := by rfl) :
    PE X (.Call (.Name x p) (e :: es) [] pos) (tMake C sp dvs E0 t) := by
  obtain ⟨f, fd, ps, ds, M, F, hm, b, d⟩ := c.ex
  exact pe_make M F (hr.mono hk) hg hm b d pass0 ha hdb he hpl
theorem pe_mtx {pl : Sem Bool} (c : MetX X.prog X.w X.K X.mg X.base k C m sp) (hr : Room j X.A) (hk : k ≤ j) (he : PE X o ta) (ha : PA X (e :: es) t)
    (hst : starEach (e :: es) X.env = (false, eval e X.env) :: starEach es X.env := by rfl) (hpl : (backTo pos (starEach es X.env)).any (·.1) = false := by rfl)
    (ht : eval (.Call (.Attribute o m apos) (e :: es) [] pos) X.env = (do
      let ov ← eval o X.env
      standAt apos.atName
      let (f, first) ← holding [ov] (getMethod ov m pl)
      callWith pos f first (backTo pos (starEach (e :: es) X.env)) (backToKw pos (keywordEach [] X.env))) := by rfl) :
    PE X (.Call (.Attribute o m apos) (e :: es) [] pos) (tMeth C m sp [] E0 ta t) := by
  obtain ⟨f, fd, ps, hc, hm, F, b⟩ := c.ex
  exact pe_meth (pl := pl) he hc hm F (hr.mono hk) b .nil pass0 ha hst hpl ht
theorem pe_mtx0 {pl : Sem Bool} (c : MetX X.prog X.w X.K X.mg X.base k C m sp) (hr : Room j X.A) (hk : k ≤ j) (he : PE X o ta)
    (ht : eval (.Call (.Attribute o m apos) [] [] pos) X.env = (do
      let ov ← eval o X.env
      standAt apos.atName
      let (f, first) ← holding [ov] (getMethod ov m pl)
      callWith pos f first (backTo pos (starEach [] X.env)) (backToKw pos (keywordEach [] X.env))) := by rfl) :
    PE X (.Call (.Attribute o m apos) [] [] pos) (tMeth C m sp [] E0 ta tNil) := by
  obtain ⟨f, fd, ps, hc, hm, F, b⟩ := c.ex
  exact pe_meth0 (pl := pl) he hc hm F (hr.mono hk) b .nil pass0 ht
end
end Kw
set_option Elab.async false
set_option linter.all false
set_option maxRecDepth 100000
set_option maxHeartbeats 4000000
namespace Kw
open PySem PySem.Spec PyProof.Rows L2
open PySem.W (KeyPure ktm_sumG)
section
variable {X : Cx}
/-- sum of a tuple of ints -/
theorem sum_tup_raw {prog : Program} {w : World} {A : Around} {E : Value → Shared → Prop} {s : Shared} {t : Addr} {its : List Value} {ns : List Int} {Q : Value → Shared → Prop} (hh : A.handled = none) (hl : s.heap.IsTuple t its.toArray) (hi : IntsAre its ns)
    (h : ∀ h' tk t', (∀ b o, s.heap.get? b = some o → h'.get? b = some o) → Q (.int ns.sum t') { s with heap := h', toks := tk }) : wpAny (model prog w) A (call (.builtin "sum") [.ref t]) Q E s := by
  obtain ⟨xs, e⟩ := hi.allInts.items
  have hn : numsOf (intItems xs).toList = ns := by rw [← e]; exact hi.numsOf
  rw [nums_intItems] at hn
  rw [e] at hl
  refine ktm_sumG hh hl fun h' tk t' hk => ?_
  have := h h' tk t' hk
  rw [preSum_eq, List.take_of_length_le (by simp), hn]
  exact this
theorem cr_sumT (hc : X.calm = true) : CallR X (.builtin "sum") (fun vs H Q => ∃ (a : Addr) (ns : List Int), vs = [V.ref a] ∧ SqT X.K H a (ns.map V.int) ∧ Q (.int ns.sum) H) := by
  intro pins s σ H vs us Q I r h
  obtain ⟨a, ns, rfl, hs, q⟩ := h
  obtain ⟨its, rv, hl, _⟩ := I.tuple hs
  rw [Vals.ref1 r]
  exact sum_tup_raw (I.ok.hd hc) hl rv.ints fun h' tk t' hk => ⟨.int _, H, I.kept hk, ⟨_, rfl⟩, q⟩
end
section
variable {X : Cx}
theorem cr_range1 : CallR X (.type "range") (fun vs H Q => ∃ j, vs = [V.int j] ∧ ∀ p, H p = none → Q (.ref p) (upd H p (.rng 0 j))) := by
  intro pins s σ H vs us Q I r h
  obtain ⟨j, rfl, q⟩ := h
  obtain ⟨u1, rfl, t, rfl⟩ := vals1 r
  refine call_range_1 ⟨.ref s.heap.objs.size, upd H s.heap.objs.size (.rng 0 j), I.laid (t' := s.toks + 1 + 1) (fun b o e => Heap.get?_push_of_some _ e) (Nat.le_refl _) ?_, rfl, q _ (I.hok.fresh (Nat.le_refl _))⟩
  exact ⟨s.toks, t, s.toks + 1, Heap.get?_push_size _ rfl⟩
theorem op_notin_rng : OpR X (compareOp .NotIn) (fun x y H Q => ∃ i a lo hi, x = V.int i ∧ y = V.ref a ∧ H a = some (.rng lo hi) ∧ Q (.bl (!decide (lo ≤ i ∧ i < hi))) H) := by
  intro pins s σ H x y v u Q I rx ry h
  obtain ⟨i, a, lo, hi, rfl, rfl, ha, q⟩ := h
  obtain ⟨k, rfl⟩ := rx
  obtain rfl : u = Value.ref a := ry
  obtain ⟨t1, t2, t3, ho⟩ := I.hok a _ ha
  show wpAny _ _ (do return Value.bool (!(← contains (Value.ref a) (Value.int i k)))) _ _ s
  refine wpAny_bind (wpAny_contains_slot (T := "range") ⟨_, ho, rfl⟩ PySem.F.slot_range_contains (call_meets PySem.F.slot_range_contains ⟨_, ho, rfl⟩ PySem.F.entry_range_contains (PySem.F.args_range_contains_2 _ _) (q_contains a lo hi i t1 t2 t3 k)
    ⟨ho, wpAny_truthy_bool (wpAny_pure ⟨.bl _, H, I, rfl, ?_⟩)⟩))
  rw [place1]
  exact q
end
/-- what a change's key is read from -/
structure KeyAt (h : Heap) (K : PySem.W.Frag) (c : Addr) (tot au nu : Int) : Prop where
  ex : ∃ (dx C t : Addr) (mA : Str → Option Value) (its : List Value) (hs : List Int) (ta tn : Tok), ObjM h c dx C mA ∧ Cls K C ∧ NoAttr K C "author" ∧ NoAttr K C "number" ∧ NoAttr K C "heard" ∧
    mA "author" = some (.int au ta) ∧ mA "number" = some (.int nu tn) ∧ mA "heard" = some (.ref t) ∧ h.IsTuple t its.toArray ∧ IntsAre its hs ∧ hs.sum = tot
theorem KeyAt.keeps {h h' : Heap} {K : PySem.W.Frag} {c : Addr} {tot au nu : Int} (x : KeyAt h K c tot au nu) (k : ∀ b o, h.get? b = some o → h'.get? b = some o) : KeyAt h' K c tot au nu := by
  obtain ⟨dx, C, t, mA, its, hs, ta, tn, O, cl, a, b, d, e1, e2, e3, ⟨o, ho, hr⟩, hi, es⟩ := x.ex
  exact ⟨dx, C, t, mA, its, hs, ta, tn, ⟨k _ _ O.obj, O.ns.at (fun o e => k _ o e), O.ne⟩, cl, a, b, d, e1, e2, e3, ⟨o, k _ _ ho, hr⟩, hi, es⟩
/-- the key function's text -/
structure KeyDef (K : PySem.W.Frag) (st : Stmt) (f : Addr) (fd : FuncData) : Prop where
  fn : Fun K "order_key" "order_key" st f fd
  bd : Binds K fd ["change"] []
  sc : FnScope ["change"] ["change"] (defScope st)
  loc : (defScope st).names.lookup ("change" : Str) = some NameKind.local
  glo : (defScope st).names.lookup ("sum" : Str) = some NameKind.globalImplicit
  body : ∃ (p1 p2 p3 p4 p5 p6 p7 p8 p9 p10 : Pos) (x1 : Nat), defBody st = [.Return (some (.Tuple [.Call (.Name "sum" p1) [.Attribute (.Name "change" p2) "heard" p3] [] p4, .Attribute (.Name "change" p5) "author" p6, .Attribute (.Name "change" p7) "number" p8] x1 p9)) p10]
theorem key_call {prog : Program} {w : World} {A : Around} {E : Value → Shared → Prop} {s : Shared} {K : PySem.W.Frag} {mg : Str → Option Value} {base : Heap} {st : Stmt} {f c : Addr} {fd : FuncData} {tot au nu : Int}
    (F : KeyDef K st f fd) (M : Mod K mg base) (kb : ∀ b o, base.get? b = some o → s.heap.get? b = some o) (hsum : mg "sum" = none) (hr : Room 1 A) (x : KeyAt s.heap K c tot au nu) :
    wpAny (model prog w) A (call (.ref f) [.ref c]) (KeyPure (.tuple [.int tot, .int au, .int nu]) s) E s := by
  obtain ⟨oc, od, kV, doc, pm, an, cdv, ct, osl, rfl, lk, hcd⟩ := F.fn.ex
  have KX : K.In s.heap := M.kin.keeps kb
  obtain ⟨p1, p2, p3, p4, p5, p6, p7, p8, p9, p10, x1, hb⟩ := F.body
  obtain ⟨mb, hmb1, hmb2⟩ := M.blt
  refine wpAny_call (_root_.Att.call_fn (binds := [("change", .ref c)]) KX (M.nolimit.keeps kb) lk hcd hr.depth (F.bd s [.ref c] KX rfl) (by
    show ((_ == _ || _) && true) = true
    rw [F.loc]
    decide) (fun s1 IC => ?_) F.sc.co F.sc.gen F.sc.kind)
  rw [hb]
  obtain ⟨h1, tk1, rfl⟩ := IC.toInCall.same
  have k1 := IC.toInCall.keep
  have hn := IC.toInCall.ns
  have hc : ∀ (h2 : Heap) (tk2 : Nat) (p : Pos) {Q : Value → Shared → Prop} {E : Value → Shared → Prop} {A : Around}, h2.Ns s.heap.objs.size (bindL (envOfC "order_key" (defScope st) s.heap.objs.size f cdv).kindOf [("change", Value.ref c)] fun _ => none) →
      Q (.ref c) { s with heap := h2, toks := tk2 } → wpAny (model prog w) A (eval (.Name "change" p) (envOfC "order_key" (defScope st) s.heap.objs.size f cdv)) Q E { s with heap := h2, toks := tk2 } := fun h2 tk2 p Q E A hn2 q =>
    wpAny_Name (wpAny_loadName_local F.sc.kind F.loc hn2 (bindL_get (P := ["change"]) (vs := [Value.ref c]) (i := 0) (by decide) rfl rfl F.loc) q) (by decide)
  have hsumN : ∀ (h2 : Heap) (tk2 : Nat) (p : Pos) {Q : Value → Shared → Prop} {E : Value → Shared → Prop} {A : Around}, (∀ b o, s.heap.get? b = some o → h2.get? b = some o) →
      Q (.builtin "sum") { s with heap := h2, toks := tk2 } → wpAny (model prog w) A (eval (.Name "sum" p) (envOfC "order_key" (defScope st) s.heap.objs.size f cdv)) Q E { s with heap := h2, toks := tk2 } := fun h2 tk2 p Q E A k2 q =>
    Calls.Name_function_global F.sc.kind F.glo (Calls.loadGlobal_builtin (M.glob.keeps fun b o e => k2 b o (kb b o e)) hsum (hmb1.keeps fun b o e => k2 b o (kb b o e)) ((hmb2 "sum" (by decide)).trans (by decide +kernel)) q) (by decide)
  have hh : (A.deeper (envOfC "order_key" (defScope st) s.heap.objs.size f cdv)).handled = none := hr.hd
  refine wpAny_execs_cons (wpAny_Return_some (wpAny_Tuple_spliced ?_))
  show wpAny _ _ (spliced ((false, eval _ _) :: (false, eval _ _) :: (false, eval _ _) :: [])) _ _ _
  refine Calls.spliced_cons ?_
  -- the sum
  refine wpAny_Call_Name_kw (hsumN h1 tk1 p1 k1 ?_)
  refine PyProof.Rows.callWith_builtin1 ?_ (by rfl) (by rfl)
  show wpAny _ _ (spliced ((false, eval _ _) :: [])) _ _ _
  refine Calls.spliced_cons ?_
  obtain ⟨dx, C, t, mA, its, hs, ta, tn, O, cl, nA, nN, nH, eA, eN, eH, hT, hI, es⟩ := (x.keeps k1).ex
  refine attr_of (by rfl) (hc h1 tk1 p2 hn ?_)
  refine get_map (KX.keeps k1) O (cl.get _) cl.hd nH eH (by rfl) ?_
  refine Calls.spliced_nil ?_
  refine sum_tup_raw hh hT hI fun h2 tk2 t2 k2 => ?_
  refine Calls.spliced_cons ?_
  have k12 : ∀ b o, s.heap.get? b = some o → h2.get? b = some o := fun b o e => k2 b o (k1 b o e)
  have x2 := x.keeps k12
  have hn2 := hn.keeps k2
  -- the author
  obtain ⟨dx2, C2, t2', mA2, its2, hs2, ta2, tn2, O2, cl2, nA2, nN2, nH2, eA2, eN2, eH2, _⟩ := x2.ex
  refine attr_of (by rfl) (hc h2 tk2 p5 hn2 ?_)
  refine get_map (KX.keeps k12) O2 (cl2.get _) cl2.hd nA2 eA2 (by rfl) ?_
  refine Calls.spliced_cons ?_
  -- the number
  refine attr_of (by rfl) (hc h2 (tk2 + 1) p7 hn2 ?_)
  refine get_map (KX.keeps k12) O2 (cl2.get _) cl2.hd nN2 eN2 (by rfl) ?_
  refine Calls.spliced_nil ?_
  subst es
  refine ⟨by show 3 ≤ sizeLine; decide, ?_⟩
  refine ⟨_, _, rfl, fun b o e => Heap.get?_push_of_some _ (k12 b o e), ?_⟩
  exact .tuple (Heap.get?_push_size _ rfl) rfl rfl (.cons (.int _ _) (.cons (.int _ _) (.cons (.int _ _) .nil)))
/-! ### sorted(changes, key=order_key) -/
structure Chg where
  a : Addr
  tot : Int
  au : Int
  nu : Int
def Chg.key (b : Chg) : PyData := .tuple [.int b.tot, .int b.au, .int b.nu]
def sortC (bs : List Chg) : List Chg := bs.mergeSort (PySem.W.dataLe false Chg.key)
def refs (bs : List Chg) : List V := bs.map fun b => V.ref b.a
def ChgAt (K : PySem.W.Frag) (H : Hp) (b : Chg) : Prop := ∃ (C dx t : Addr) (fs : List (Str × V)) (hs : List Int), H b.a = some (.ins C dx fs) ∧ Cls K C ∧ NoAttr K C "author" ∧ NoAttr K C "number" ∧ NoAttr K C "heard" ∧
  fs.lookup ("author" : Str) = some (V.int b.au) ∧ fs.lookup ("number" : Str) = some (V.int b.nu) ∧ fs.lookup ("heard" : Str) = some (V.ref t) ∧ SqT K H t (hs.map V.int) ∧ hs.sum = b.tot
theorem ChgAt.key {X : Cx} {pins : List (Addr × Obj)} {σ : L2.St} {H : Hp} {s : Shared} {b : Chg} (I : Inv X pins σ H s) (h : ChgAt X.K H b) : KeyAt s.heap X.K b.a b.tot b.au b.nu := by
  obtain ⟨C, dx, t, fs, hs, e, cl, nA, nN, nH, eA, eN, eH, hT, es⟩ := h
  obtain ⟨mA, O, r, _, _, _⟩ := ins_get I.hok e
  obtain ⟨u1, hu1, t1, rfl⟩ := RelO.some_of (v := .int b.au) (o := mA "author") (by rw [← eA]; exact r "author")
  obtain ⟨u2, hu2, t2, rfl⟩ := RelO.some_of (v := .int b.nu) (o := mA "number") (by rw [← eN]; exact r "number")
  obtain ⟨u3, hu3, r3⟩ := RelO.some_of (v := .ref t) (o := mA "heard") (by rw [← eH]; exact r "heard")
  obtain rfl : u3 = Value.ref t := r3
  obtain ⟨its, rv, hl, _⟩ := I.tuple hT
  exact ⟨dx, C, t, mA, its, hs, t1, t2, O, cl, nA, nN, nH, hu1, hu2, hu3, hl, rv.ints, es⟩
theorem each_refs : ∀ {bs : List Chg} {vs : List Value}, Vals (refs bs) vs → PySem.W.EachIs (fun v b => v = Value.ref b.a) vs bs
  | [], vs, h => by
    cases (show Vals [] vs from h)
    exact .nil
  | b :: bs, vs, h => by
    cases (show Vals (V.ref b.a :: refs bs) vs from h) with
    | cons r t => exact .cons r (each_refs t)
theorem vals_each : ∀ {bs : List Chg} {vs : List Value}, PySem.W.EachIs (fun v b => v = Value.ref b.a) vs bs → Vals (refs bs) vs
  | _, _, .nil => .nil
  | _, _, .cons h t => .cons h (vals_each t)
theorem sortC_length (bs : List Chg) : (sortC bs).length = bs.length := List.length_mergeSort _
theorem cr_sortedBy {X : Cx} {st : Stmt} {f : Addr} {fd : FuncData} {k : Nat} (F : KeyDef X.K st f fd) (hsum : X.mg "sum" = none) (hr : Room k X.A) (hk : 3 ≤ k) :
    CallRK X (.builtin "sorted") [Str.ofString "key"] (fun vs zs H Q => ∃ (a : Addr) (bs : List Chg), vs = [V.ref a] ∧ zs = [V.ref f] ∧ SqL X.K H a (refs bs) ∧ (∀ b ∈ bs, ChgAt X.K H b) ∧ ∀ p, H p = none → Q (.ref p) (upd H p (.lst (refs (sortC bs))))) := by
  intro pins s σ H vs zs us ws Q I r rz h
  obtain ⟨a, bs, rfl, rfl, hs, hall, q⟩ := h
  obtain rfl := Vals.ref1 r
  obtain rfl := Vals.ref1 rz
  obtain ⟨its, rv, hl, hz⟩ := I.list hs
  have hz2 : bs.length ≤ sizeLine := by
    have e : (refs bs).length = bs.length := List.length_map _
    rw [← e]
    exact hz
  show wpAny _ _ (call (.builtin "sorted") [.ref a] [(Str.ofString "key", Value.ref f)]) _ _ _
  refine PySem.W.sorted_key_data (b := false) Chg.key hl.isList (each_refs rv) (PySem.W.AllAlike.of fun _ _ => by simp [PySem.W.alike, PySem.W.alikeAll, Chg.key]) (PySem.W.Sortable.tuples fun _ => ⟨_, _, rfl⟩) hz2 (fun p _ => ?_) (PyProof.Rows.ksk_s1 _ _) (fun _ => PyProof.Rows.ksk_l1 _ _) (fun _ => PyProof.Rows.ksk_t1 _ _)
    (fun v b hv hb h tk kp => ?_) fun out c h' tk kp fresh hD hlen eo => ?_
  · have hd : (Chg.key p).depth = 1 := by simp [Chg.key, PyData.depth, PyData.depthAll]
    have := hr.un
    omega
  · subst hv
    have hr2 : Room 1 X.A.in1.in1 := ((hr.mono (by omega : 3 ≤ k)).in1).in1
    exact key_call (s := { s with heap := h, toks := tk }) F I.mod (fun b o e => kp b o (I.bk b o e)) hsum hr2 ((hall b hb).key I |>.keeps kp)
  · refine ⟨.ref (s.heap.objs.size + 1), _, I.laid (a := s.heap.objs.size + 1) (o := .lst (refs (sortC bs))) (t' := tk) kp (Nat.le_succ _) ⟨?_, out, c, vals_each eo, hD⟩, rfl, q _ (I.hok.fresh (Nat.le_succ _))⟩
    show (refs (sortC bs)).length ≤ sizeLine
    rw [show (refs (sortC bs)).length = (sortC bs).length from List.length_map _, sortC_length]
    exact hz2
end Kw
set_option Elab.async false
set_option linter.all false
set_option maxRecDepth 100000
set_option maxHeartbeats 4000000
namespace Kw
open PySem PySem.Spec PyProof.Rows L2
/-! ### a list that an expression does not touch is put aside while it is evaluated -/
def hide (D : Addr) (H : Hp) : Hp := fun b => if b = D then none else H b
theorem hide_self {D : Addr} {H : Hp} : hide D H D = none := by unfold hide; rw [if_pos rfl]
theorem hide_ne {D b : Addr} {H : Hp} (h : b ≠ D) : hide D H b = H b := by unfold hide; rw [if_neg h]
theorem hide_some {D b : Addr} {H : Hp} {o : HO} (h : hide D H b = some o) : H b = some o ∧ b ≠ D := by
  by_cases e : b = D
  · rw [e, hide_self] at h
    cases h
  · exact ⟨by rw [hide_ne e] at h; exact h, e⟩
theorem hide_upd {D : Addr} {F : Hp} {o : HO} (h : F D = none) : hide D (upd F D o) = F := by
  funext b
  by_cases e : b = D
  · rw [e, hide_self, h]
  · rw [hide_ne e, upd_ne e]
/-- what stands of the heap without D -/
theorem HOk.hide {P : Program} {w : World} {H : Hp} {h : Heap} {D : Addr} {xs : List V} (ok : HOk P w H h) (hD : H D = some (.lst xs)) : HOk P w (hide D H) h := fun b o e => by
  obtain ⟨e1, _⟩ := hide_some e
  refine (ok b o e1).stay (fun _ _ _ q => q) (fun c q => ?_) fun c ys q => ?_
  · rw [hide_ne (fun z => by rw [z, hD] at q; cases q)]
    exact q
  · rw [hide_ne (fun z => by rw [z, hD] at q; cases q)]
    exact q
theorem Inv.hide {X : Cx} {pins : List (Addr × Obj)} {σ : L2.St} {H : Hp} {s : Shared} {D : Addr} {xs : List V} (I : Inv X pins σ H s) (hD : H D = some (.lst xs)) : Inv X pins σ (hide D H) s := by
  have none_of : ∀ b, H b = none → Kw.hide D H b = none := fun b e => by
    by_cases z : b = D
    · rw [z]
      exact hide_self
    · rw [hide_ne z]
      exact e
  have keep : ∀ b o, H b = some o → (∀ xs, o ≠ .lst xs) → Kw.hide D H b = some o := fun b o e n => by
    rw [hide_ne (fun z => by rw [z, hD] at e; exact n _ (Option.some.inj e).symm)]
    exact e
  refine ⟨I.ok, I.os, I.bare, ⟨I.base.keep, I.base.slot, fun b o e n hx => none_of b (I.base.free b o e n hx), I.base.there, fun b ys q => keep b _ (I.base.tups b ys q) (fun _ z => nomatch z), fun b o u q => keep b _ (I.base.frzs b o u q) (fun _ z => nomatch z), fun b ps q => ?_⟩, I.loc, I.cell, none_of _ I.free, fun x c e => none_of c (I.freeC x c e),
    fun p hp => ?_, Kw.HOk.hide I.hok hD, I.len⟩
  · obtain ⟨m, e⟩ := I.base.tbls b ps q
    exact ⟨m, keep b _ e (fun _ z => nomatch z)⟩
  · obtain ⟨a, b, c⟩ := I.pin p hp
    exact ⟨a, none_of _ b, c⟩
/-- the frame rule -/
def tFr (t : TE) : TE := fun σ H Q => ∃ D xs, H D = some (.lst xs) ∧ t σ (hide D H) fun v H2 => H2 D = none → Q v (upd H2 D (.lst xs))
theorem pe_fr {X : Cx} {e : Expr} {t : TE} (h : PE X e t) : PE X e (tFr t) := by
  refine ⟨fun pins s σ H Q I q => ?_⟩
  obtain ⟨D, xs, hD, q⟩ := q
  obtain ⟨hz, its, n, rv, hobj⟩ := (show ObjOk X.prog X.w H s.heap D (.lst xs) from I.hok D _ hD)
  have nloc : D ≠ X.env.locals := fun z => by
    have f := I.free
    rw [← z, hD] at f
    cases f
  have nfs : D ∉ X.fs := fun hb => by
    obtain ⟨_, o, ho, _⟩ := I.ok.funs.mem hb
    have := I.base.free D o ho (I.ok.frf D hb) (fun z => I.ok.exfs D z hb)
    rw [hD] at this
    cases this
  have J : Inv X (pins ++ [(D, { cls := .type "list", data := .seq its.toArray n })]) σ (hide D H) s := by
    refine (Inv.hide I hD).pins_of fun p hp => ?_
    rcases List.mem_append.mp hp with hp | hp
    · obtain ⟨a, b, c⟩ := (Inv.hide I hD).pin p (List.mem_append_right _ hp)
      exact ⟨a, b, c⟩
    · rw [List.mem_singleton.mp hp]
      exact ⟨hobj, hide_self, nloc, nfs, fun v z => by cases z⟩
  refine thn (h.run _ s σ (hide D H) _ J q) fun v s1 hh => ?_
  obtain ⟨x, H2, I2, rx, q2⟩ := hh
  obtain ⟨hget, hn, _⟩ := I2.pin (D, { cls := .type "list", data := .seq its.toArray n }) (List.mem_append_right _ (List.mem_append_right _ (List.mem_singleton.mpr rfl)))
  refine ⟨x, upd H2 D (.lst xs), ?_, rx, q2 hn⟩
  have hn' : H2 D = none := hn
  have nD : ∀ b o, H2 b = some o → b ≠ D := fun b o e z => by rw [z, hn'] at e; cases e
  have ND : ∀ b, H b = none → b ≠ D := fun b e z => by rw [z, hD] at e; cases e
  refine ⟨I2.ok, I2.os, I2.bare, ⟨I2.base.keep, I2.base.slot, fun b o e n hx => ?_, I2.base.there, fun b ys q => ?_, fun b o u q => ?_, fun b ps q => ?_⟩, I2.loc, I2.cell, ?_, fun x c e => ?_, fun p hp => ?_, fun b o e => ?_, I2.len⟩
  · rw [upd_ne (ND b (I.base.free b o e n hx))]
    exact I2.base.free b o e n hx
  · have := I2.base.tups b ys q
    rw [upd_ne (nD b _ this)]
    exact this
  · have := I2.base.frzs b o u q
    rw [upd_ne (nD b _ this)]
    exact this
  · obtain ⟨m, this⟩ := I2.base.tbls b ps q
    refine ⟨m, ?_⟩
    rw [upd_ne (nD b _ this)]
    exact this
  · rw [upd_ne (ND _ I.free)]
    exact I2.free
  · rw [upd_ne (ND _ (I.freeC x c e))]
    exact I2.freeC x c e
  · obtain ⟨a, b, c⟩ := I2.pin p (by
      rcases List.mem_append.mp hp with z | z
      · exact List.mem_append_left _ z
      · exact List.mem_append_right _ (List.mem_append_left _ z))
    refine ⟨a, ?_, c⟩
    rw [upd_ne (ND _ (I.pin p hp).2.1)]
    exact b
  · by_cases z : b = D
    · subst z
      rw [upd, if_pos rfl] at e
      cases e
      exact ⟨hz, its, n, rv, hget⟩
    · rw [upd_ne z] at e
      refine (I2.hok b o e).stay (fun _ _ _ q => q) (fun c q => ?_) fun c ys q => ?_
      · rw [upd_ne (nD c _ q)]
        exact q
      · rw [upd_ne (nD c _ q)]
        exact q
end Kw
set_option Elab.async false
set_option linter.all false
set_option maxRecDepth 100000
set_option maxHeartbeats 4000000
namespace Kw
open PySem PySem.Spec PyProof.Rows L2
/-! ### what is put aside -/
theorem Same.hid {H H' : Hp} (D : Addr) (s : Same H H') : Same (hide D H) (hide D H') := fun b o e => by
  obtain ⟨e1, n⟩ := hide_some e
  rw [hide_ne n]
  exact s b o e1
theorem Same.unhid {D : Addr} {H : Hp} : Same (hide D H) H := fun b o e => (hide_some e).1
theorem hide_upd_self {D : Addr} {F : Hp} {o : HO} : hide D (upd F D o) = hide D F := by
  funext b
  by_cases e : b = D
  · rw [e, hide_self, hide_self]
  · rw [hide_ne e, hide_ne e, upd_ne e]
theorem hide_upd_ne {D p : Addr} {F : Hp} {o : HO} (h : p ≠ D) : hide D (upd F p o) = upd (hide D F) p o := by
  funext b
  by_cases e : b = D
  · rw [e, hide_self, upd_ne (fun z => h z.symm), hide_self]
  · rw [hide_ne e]
    by_cases z : b = p
    · rw [z, upd_same, upd_same]
    · rw [upd_ne z, upd_ne z, hide_ne e]
theorem hide_free {D : Addr} {H : Hp} {b : Addr} (h : H b = none) : hide D H b = none := by
  by_cases e : b = D
  · rw [e, hide_self]
  · rw [hide_ne e, h]
theorem hide_comm {D E : Addr} {H : Hp} : hide D (hide E H) = hide E (hide D H) := by
  funext b
  by_cases e : b = D
  · rw [e, hide_self]
    exact (hide_free hide_self).symm
  · rw [hide_ne e]
    by_cases z : b = E
    · rw [z, hide_self, hide_self]
    · rw [hide_ne z, hide_ne z, hide_ne e]
theorem Same.new {H : Hp} {l : Addr} {o : HO} (hl : H l = none) : Same H (upd H l o) := same_new hl (Same.refl H)
/-! ### lists of data -/
theorem AtL.nil {H : Hp} : AtL H [] [] := rfl
theorem AtL.cons {H : Hp} {d : D} {ds : List D} {x : V} {xs : List V} (h : At H d x) (t : AtL H ds xs) : AtL H (d :: ds) (x :: xs) := ⟨x, xs, rfl, h, t⟩
theorem AtL.append {H : Hp} : ∀ {ds es : List D} {xs ys : List V}, AtL H ds xs → AtL H es ys → AtL H (ds ++ es) (xs ++ ys)
  | [], _, xs, _, h, g => by
    rw [show xs = [] from h]
    exact g
  | d :: ds, _, xs, _, h, g => by
    obtain ⟨x, ys, rfl, h1, h2⟩ := h
    exact ⟨x, _, rfl, h1, AtL.append h2 g⟩
theorem AtL.one {H : Hp} {d : D} {x : V} (h : At H d x) : AtL H [d] [x] := AtL.cons h AtL.nil
theorem AtL.take {H : Hp} : ∀ (n : Nat) {ds : List D} {xs : List V}, AtL H ds xs → AtL H (ds.take n) (xs.take n)
  | 0, ds, xs, h => by
    rw [List.take_zero, List.take_zero]
    exact AtL.nil
  | n + 1, [], xs, h => by
    rw [show xs = [] from h]
    exact AtL.nil
  | n + 1, d :: ds, xs, h => by
    obtain ⟨x, ys, rfl, h1, h2⟩ := h
    exact ⟨x, _, rfl, h1, AtL.take n h2⟩
theorem AtL.drop {H : Hp} : ∀ (n : Nat) {ds : List D} {xs : List V}, AtL H ds xs → AtL H (ds.drop n) (xs.drop n)
  | 0, ds, xs, h => h
  | n + 1, [], xs, h => by
    rw [show xs = [] from h]
    exact AtL.nil
  | n + 1, d :: ds, xs, h => by
    obtain ⟨x, ys, rfl, h1, h2⟩ := h
    exact AtL.drop n h2
def cutD (ds : List D) (lo hi : Option Int) : List D := List.take (HT.sIx ds.length ds.length hi - HT.sIx ds.length 0 lo) (List.drop (HT.sIx ds.length 0 lo) ds)
theorem AtL.cut {H : Hp} {ds : List D} {xs : List V} (h : AtL H ds xs) (lo hi : Option Int) : AtL H (cutD ds lo hi) (cutV xs lo hi) := by
  show AtL H (List.take _ (List.drop _ ds)) (List.take _ (List.drop _ xs))
  rw [h.length]
  exact (h.drop _).take _
theorem cutD_mem {ds : List D} {lo hi : Option Int} {d : D} (h : d ∈ cutD ds lo hi) : d ∈ ds := List.mem_of_mem_drop (List.mem_of_mem_take h)
theorem cutD_len {ds : List D} {lo hi : Option Int} : (cutD ds lo hi).length ≤ ds.length := by
  show (List.take _ (List.drop _ ds)).length ≤ _
  rw [List.length_take, List.length_drop]
  omega
theorem AtL.of {H : Hp} : ∀ {ds : List D} {xs : List V}, xs.length = ds.length → (∀ (i : Nat) d v, ds[i]? = some d → xs[i]? = some v → At H d v) → AtL H ds xs
  | [], [], _, _ => AtL.nil
  | d :: ds, x :: xs, e, h => ⟨x, xs, rfl, h 0 d x rfl rfl, AtL.of (by simpa using e) fun i d v h1 h2 => h (i + 1) d v (by simpa using h1) (by simpa using h2)⟩
theorem AtL.at {H : Hp} {ds : List D} {xs : List V} {i : Nat} {v : V} (h : AtL H ds xs) (e : xs[i]? = some v) : ∃ d, ds[i]? = some d ∧ At H d v := by
  obtain ⟨d, hd⟩ := some_at (l := ds) (i := i) (by rw [← h.length]; exact (List.getElem?_eq_some_iff.mp e).1)
  obtain ⟨x, hx, ha⟩ := h.get hd
  rw [hx] at e
  cases e
  exact ⟨d, hd, ha⟩
theorem AtL.ints {H : Hp} : ∀ {ns : List Int} {xs : List V}, AtL H (ns.map D.int) xs → xs = ns.map V.int
  | [], xs, h => h
  | n :: ns, xs, h => by
    obtain ⟨x, ys, rfl, h1, h2⟩ := h
    rw [show x = V.int n from h1, AtL.ints h2]
    rfl
theorem AtL.ofInts {H : Hp} : ∀ {ns : List Int}, AtL H (ns.map D.int) (ns.map V.int)
  | [] => AtL.nil
  | n :: ns => ⟨_, _, rfl, rfl, AtL.ofInts⟩
theorem depL_le {n : Nat} : ∀ {ds : List D}, (∀ d ∈ ds, d.dep ≤ n) → depL ds ≤ n
  | [], _ => Nat.zero_le _
  | d :: ds, h => by
    show max d.dep (depL ds) ≤ n
    exact Nat.max_le.mpr ⟨h d (List.mem_cons_self ..), depL_le fun e he => h e (List.mem_cons_of_mem _ he)⟩
theorem dep_mem {ds : List D} {d : D} (h : d ∈ ds) : d.dep ≤ depL ds := by
  obtain ⟨i, hi⟩ := List.getElem?_of_mem h
  exact dep_get hi
theorem depL_ints : ∀ (ns : List Int), depL (ns.map D.int) = 0
  | [] => rfl
  | n :: ns => by
    show max 0 (depL (ns.map D.int)) = 0
    rw [depL_ints ns]
    rfl
/-- values that are ints -/
theorem ints_of {P : Int → Prop} : ∀ {zs : List V}, (∀ (i : Nat) v, zs[i]? = some v → ∃ z, v = V.int z ∧ P z) → ∃ hs : List Int, zs = hs.map V.int ∧ hs.length = zs.length ∧ ∀ z ∈ hs, P z
  | [], _ => ⟨[], rfl, rfl, fun z h => by cases h⟩
  | v :: vs, h => by
    obtain ⟨z, rfl, hz⟩ := h 0 v rfl
    obtain ⟨hs, e, el, hp⟩ := ints_of (zs := vs) fun i v hv => h (i + 1) v (by simpa using hv)
    exact ⟨z :: hs, by rw [e]; rfl, by simp [el], fun y hy => by
      rcases List.mem_cons.mp hy with q | q
      · rw [q]; exact hz
      · exact hp y q⟩
/-! ### rules that read data; the addresses of S are put aside -/
def hidS (S : List Addr) (H : Hp) : Hp := S.foldr hide H
theorem Same.hidS {H H' : Hp} : ∀ (S : List Addr), Same H H' → Same (hidS S H) (hidS S H')
  | [], s => s
  | x :: S, s => Same.hid x (Same.hidS S s)
theorem hidS_some : ∀ {S : List Addr} {H : Hp} {b : Addr} {o : HO}, hidS S H b = some o → H b = some o ∧ b ∉ S
  | [], H, b, o, h => ⟨h, by simp⟩
  | x :: S, H, b, o, h => by
    obtain ⟨h1, n⟩ := hide_some (show hide x (hidS S H) b = some o from h)
    obtain ⟨h2, n2⟩ := hidS_some h1
    exact ⟨h2, by simp [n, n2]⟩
theorem hidS_upd {p : Addr} {o : HO} : ∀ {S : List Addr} {H : Hp}, p ∉ S → hidS S (upd H p o) = upd (hidS S H) p o
  | [], _, _ => rfl
  | x :: S, H, h => by
    show hide x (hidS S (upd H p o)) = upd (hide x (hidS S H)) p o
    rw [hidS_upd (fun z => h (List.mem_cons_of_mem _ z)), hide_upd_ne (fun z => h (by rw [z]; exact List.mem_cons_self ..))]
theorem not_in_S {S : List Addr} {H : Hp} {p : Addr} (hS : ∀ x ∈ S, H x ≠ none) (hp : H p = none) : p ∉ S := fun z => hS p z hp
theorem At.out {S : List Addr} {H : Hp} {d : D} {v : V} (h : At (hidS S H) d v) : At H d v := At.same (fun _ _ e => (hidS_some e).1) d v h
section
variable {X : Cx}
theorem call_tuD : CallR X (.type "tuple") (fun vs H Q => ∃ (S : List Addr) (l : Bool) (ds : List D) (v : V), vs = [v] ∧ (∀ x ∈ S, H x ≠ none) ∧ At (hidS S H) (.seq l ds) v ∧ ∀ H' v', Same H H' → At (hidS S H') (.seq false ds) v' → Q v' H') :=
  CallR.imp call_tuple_of fun vs H Q h => by
    obtain ⟨S, l, ds, v, rfl, hS, ⟨a, xs, rfl, ha, hx, hz⟩, q⟩ := h
    refine ⟨a, xs, rfl, ?_⟩
    cases l with
    | true =>
      refine .inl ⟨SqL.of (hidS_some ha).1, fun p hp => q _ _ (Same.new hp) ⟨p, xs, rfl, ?_, AtL.same (Same.hidS S (Same.new hp)) _ _ hx, hz⟩⟩
      rw [hidS_upd (not_in_S hS hp)]
      exact upd_same
    | false => exact .inr ⟨SqT.of (hidS_some ha).1, q _ _ (Same.refl _) ⟨a, xs, rfl, ha, hx, hz⟩⟩
theorem call_liD : CallR X (.type "list") (fun vs H Q => ∃ (l : Bool) (a : Addr) (xs : List V), vs = [.ref a] ∧ H a = some (seqO l xs) ∧ ∀ p, H p = none → Q (.ref p) (upd H p (.lst xs))) :=
  CallR.imp call_list_of fun vs H Q h => by
    obtain ⟨l, a, xs, rfl, ha, q⟩ := h
    refine ⟨a, xs, rfl, ?_, q⟩
    cases l with
    | true => exact .inl (SqL.of ha)
    | false => exact .inr (SqT.of ha)
theorem call_lenD : CallR X (.builtin "len") (fun vs H Q => ∃ (S : List Addr) (l : Bool) (ds : List D) (v : V), vs = [v] ∧ At (hidS S H) (.seq l ds) v ∧ Q (.int ds.length) H) :=
  CallR.imp call_lenS fun vs H Q h => by
    obtain ⟨S, l, ds, v, rfl, ⟨a, xs, rfl, ha, hx, hz⟩, q⟩ := h
    rw [← hx.length] at q
    exact ⟨a, xs, rfl, sq_of (hidS_some ha).1, q⟩
theorem ix_D : IxR X (fun x y H Q => ∃ (S : List Addr) (l : Bool) (ds : List D) (i : Int), y = .int i ∧ At (hidS S H) (.seq l ds) x ∧ 0 ≤ i ∧ i < ds.length ∧ ∀ d u, ds[i.toNat]? = some d → At (hidS S H) d u → Q u H) :=
  IxR.imp ix_sq fun x y H Q h => by
    obtain ⟨S, l, ds, i, rfl, ⟨a, xs, rfl, ha, hx, hz⟩, h0, h1, q⟩ := h
    have e := hx.length
    obtain ⟨d, hd⟩ := some_at0 (l := ds) (i := i.toNat) (by omega)
    obtain ⟨u, hu, hA⟩ := hx.get hd
    exact ⟨a, xs, i, u, rfl, rfl, sq_of (hidS_some ha).1, atI_pos h0 hu, q d u hd hA⟩
theorem cr_sumD (hc : X.calm = true) : CallR X (.builtin "sum") (fun vs H Q => ∃ (S : List Addr) (l : Bool) (ns : List Int) (v : V), vs = [v] ∧ At (hidS S H) (.seq l (ns.map D.int)) v ∧ Q (.int ns.sum) H) := by
  intro pins s σ H vs us Q I r h
  obtain ⟨S, l, ns, v, rfl, ⟨a, xs, rfl, ha, hx, hz⟩, q⟩ := h
  have e := AtL.ints hx
  subst e
  cases l with
  | true => exact cr_sum hc pins s σ H _ us Q I r ⟨a, ns, rfl, SqL.of (hidS_some ha).1, q⟩
  | false => exact cr_sumT hc pins s σ H _ us Q I r ⟨a, ns, rfl, SqT.of (hidS_some ha).1, q⟩
end
/-! ### sequences whose items alone avoid S -/
theorem hidS_eq : ∀ (S : List Addr) (H : Hp) (b : Addr), hidS S H b = if b ∈ S then none else H b
  | [], H, b => by simp [hidS]
  | x :: S, H, b => by
    show hide x (hidS S H) b = _
    by_cases e : b = x
    · rw [e, hide_self, if_pos (List.mem_cons_self ..)]
    · rw [hide_ne e, hidS_eq S H b]
      by_cases c : b ∈ S
      · rw [if_pos c, if_pos (List.mem_cons_of_mem _ c)]
      · rw [if_neg c, if_neg (by simp [e, c])]
theorem hidS_upd_in {S : List Addr} {H : Hp} {x : Addr} {o : HO} (h : x ∈ S) : hidS S (upd H x o) = hidS S H := by
  funext b
  rw [hidS_eq, hidS_eq]
  by_cases c : b ∈ S
  · rw [if_pos c, if_pos c]
  · rw [if_neg c, if_neg c, upd_ne (fun z => c (by rw [z]; exact h))]
theorem hidS_swap {S : List Addr} {H : Hp} {x : Addr} : hidS (x :: S) H = hidS S (hide x H) := by
  funext b
  rw [hidS_eq, hidS_eq]
  by_cases c : b ∈ S
  · rw [if_pos c, if_pos (List.mem_cons_of_mem _ c)]
  · rw [if_neg c]
    by_cases e : b = x
    · rw [if_pos (by rw [e]; exact List.mem_cons_self ..), e, hide_self]
    · rw [if_neg (by simp [e, c]), hide_ne e]
theorem Same.hidIn {S : List Addr} {H H' : Hp} (s : Same H H') (f : ∀ x ∈ S, H x = none) : Same H (Kw.hidS S H') := fun b o e => by
  rw [hidS_eq, if_neg (fun z => by rw [f b z] at e; cases e)]
  exact s b o e
def AtTop (S : List Addr) (H : Hp) (l : Bool) (ds : List D) (v : V) : Prop := ∃ (a : Addr) (xs : List V), v = .ref a ∧ H a = some (seqO l xs) ∧ AtL (hidS S H) ds xs ∧ ds.length ≤ 16000000
theorem At.top {S : List Addr} {H : Hp} {l : Bool} {ds : List D} {v : V} (h : At (hidS S H) (.seq l ds) v) : AtTop S H l ds v := by
  obtain ⟨a, xs, rfl, ha, hx, hz⟩ := h
  exact ⟨a, xs, rfl, (hidS_some ha).1, hx, hz⟩
theorem call_tuT {X : Cx} : CallR X (.type "tuple") (fun vs H Q => ∃ (S : List Addr) (l : Bool) (ds : List D) (v : V), vs = [v] ∧ (∀ x ∈ S, H x ≠ none ∧ ∀ xs, H x ≠ some (.tup xs)) ∧ AtTop S H l ds v ∧ ∀ H' v', Same H H' → At (hidS S H') (.seq false ds) v' → Q v' H') :=
  CallR.imp call_tuple_of fun vs H Q h => by
    obtain ⟨S, l, ds, v, rfl, hS, ⟨a, xs, rfl, ha, hx, hz⟩, q⟩ := h
    refine ⟨a, xs, rfl, ?_⟩
    cases l with
    | true =>
      refine .inl ⟨SqL.of ha, fun p hp => q _ _ (Same.new hp) ⟨p, xs, rfl, ?_, AtL.same (Same.hidS S (Same.new hp)) _ _ hx, hz⟩⟩
      rw [hidS_upd (not_in_S (fun x hx => (hS x hx).1) hp)]
      exact upd_same
    | false =>
      refine .inr ⟨SqT.of ha, q _ _ (Same.refl _) ⟨a, xs, rfl, ?_, hx, hz⟩⟩
      rw [hidS_eq, if_neg (fun z => (hS a z).2 xs ha)]
      exact ha
/-- the items: None, or a sequence -/
def AtTop2 (S : List Addr) (H : Hp) (ps : List D) (xs : List V) : Prop := xs.length = ps.length ∧ ∀ (i : Nat) d x, ps[i]? = some d → xs[i]? = some x → (d = .non ∧ x = .non) ∨ ∃ l ds, d = .seq l ds ∧ AtTop S H l ds x
/-! ### comprehensions -/
/-- each element's value is known by what it stands for; the list that is made is put aside meanwhile -/
theorem lc_rel {J : It} {n : Nat} {G : Hp → Prop} {Y : Nat → Hp → V → Hp → Prop} (w : L2.Walk J n G Y) {j : Nat} {te : TE} {σ : L2.St} {H1 : Hp} {D : Addr} {Qd : Hp → Prop} (hD : H1 D = none) (hn : n ≤ 16000000) (R : Nat → Hp → V → Prop)
    (hR : ∀ i F F' v, Same F F' → R i F v → R i F' v)
    (hG : ∀ H, Same H1 H → G H)
    (hs : ∀ i x F zs H', i < n → Same H1 F → F D = none → Y i (upd F D (.lst zs)) x H' → H' = upd F D (.lst zs) ∧ ∀ Q : VK, (∀ F2 v, Same F F2 → R i F2 v → Q v F2) → te ((σ.set j none).set j (some x)) F Q)
    (hd : ∀ F zs, Same H1 F → F D = none → zs.length = n → (∀ i v, zs[i]? = some v → R i F v) → Qd (upd F D (.lst zs))) :
    ∃ W : Nat → Nat → Hp → Prop, (∃ m, W 0 m (upd H1 D (.lst []))) ∧ ∀ i m H, W i m H →
      (J.stop i H ∧ Qd H) ∨ (J.go i H ∧ ∃ Nx : Hp → Prop, (∀ H', Nx H' → ∃ m', m' < m ∧ W (i + 1) m' H') ∧ ∀ x H', J.yld i H x H' → gName j x (wipe σ [j]) H' fun σ2 H2 => wipe σ2 [j] = wipe σ [j] ∧ tYes σ2 H2 fun b H3 =>
        if b = true then tFr te σ2 H3 fun y H4 => ∃ acc, H4 D = some (.lst acc) ∧ acc.length < sizeLine ∧ Nx (upd H4 D (.lst (acc ++ [y]))) else Nx H3) := by
  have hn2 : n < sizeLine := by
    rw [sizeLine_eq]
    omega
  refine lc_it w (fun i H => ∃ F zs, H = upd F D (.lst zs) ∧ Same H1 F ∧ F D = none ∧ zs.length = i ∧ ∀ j v, zs[j]? = some v → R j F v) ⟨H1, [], rfl, Same.refl _, hD, rfl, fun j v h => by simp at h⟩ (fun i H _ h => ?_) ?_ (fun H h => ?_)
  · obtain ⟨F, zs, rfl, s, hF, _⟩ := h
    exact hG _ (s.trans (Same.new hF))
  · rintro i x H H' hi ⟨F, zs, rfl, s, hF, hz, hr⟩ y
    obtain ⟨rfl, q⟩ := hs i x F zs H' hi s hF y
    refine ⟨by show (((σ.set j none).set j (some x)).set j none) = σ.set j none; rw [List.set_set, List.set_set], ?_⟩
    refine iteT (B := ∃ F2 zs2, upd F D (.lst zs) = upd F2 D (.lst zs2) ∧ Same H1 F2 ∧ F2 D = none ∧ zs2.length = i + 1 ∧ ∀ j v, zs2[j]? = some v → R j F2 v) ?_
    refine ⟨D, zs, upd_same, ?_⟩
    rw [hide_upd hF]
    refine q _ fun F2 v s2 rv hF2 => ⟨zs, upd_same, by omega, F2, zs ++ [v], upd_upd, s.trans s2, hF2, by rw [List.length_append, hz]; rfl, fun k u hu => ?_⟩
    by_cases c : k < zs.length
    · rw [List.getElem?_append_left c] at hu
      exact hR _ _ _ _ s2 (hr k u hu)
    · have : k = zs.length := by
        have := (List.getElem?_eq_some_iff.mp hu).1
        rw [List.length_append, List.length_singleton] at this
        omega
      rw [this, List.getElem?_append_right (Nat.le_refl _), Nat.sub_self] at hu
      have e : v = u := by simpa using hu
      rw [this, hz, ← e]
      exact rv
  · obtain ⟨F, zs, rfl, s, hF, hz, hr⟩ := h
    exact hd F zs s hF hz hr
/-- some of the items, by a test that is told -/
theorem lc_filt {J : It} {n : Nat} {G : Hp → Prop} {Y : Nat → Hp → V → Hp → Prop} (w : L2.Walk J n G Y) {j : Nat} {tt : TT} {te : TE} {σ : L2.St} {H1 : Hp} {D : Addr} {Qd : Hp → Prop} (hD : H1 D = none) (hn : n ≤ 16000000) (p : Nat → Bool) (f : Nat → V)
    (hG : ∀ H, Same H1 H → G H)
    (hs : ∀ i x H H', i < n → Same H1 H → Y i H x H' → Same H H' ∧ ∀ Q : Bool → Hp → Prop, (∀ H2, Same H' H2 → Q (p i) H2) → tt ((σ.set j none).set j (some x)) H' fun b H2 => Q b H2)
    (he : ∀ i x H H' H2, i < n → Same H1 H → Y i H x H' → Same H1 H2 → ∀ Q : VK, Q (f i) H2 → te ((σ.set j none).set j (some x)) H2 Q)
    (hd : ∀ H, Same H1 H → H D = some (.lst (((List.range n).filter p).map f)) → Qd H) :
    ∃ W : Nat → Nat → Hp → Prop, (∃ m, W 0 m (upd H1 D (.lst []))) ∧ ∀ i m H, W i m H →
      (J.stop i H ∧ Qd H) ∨ (J.go i H ∧ ∃ Nx : Hp → Prop, (∀ H', Nx H' → ∃ m', m' < m ∧ W (i + 1) m' H') ∧ ∀ x H', J.yld i H x H' → gName j x (wipe σ [j]) H' fun σ2 H2 => wipe σ2 [j] = wipe σ [j] ∧ tt σ2 H2 fun b H3 =>
        if b = true then te σ2 H3 fun y H4 => ∃ acc, H4 D = some (.lst acc) ∧ acc.length < sizeLine ∧ Nx (upd H4 D (.lst (acc ++ [y]))) else Nx H3) := by
  have hn2 : n < sizeLine := by
    rw [sizeLine_eq]
    omega
  refine lc_it w (fun i H => Same H1 H ∧ H D = some (.lst (((List.range i).filter p).map f))) ⟨same_new hD (Same.refl _), upd_same⟩ (fun i H _ h => hG H h.1) ?_ (fun H h => hd H h.1 h.2)
  rintro i x H H' hi ⟨s1, hd1⟩ y
  obtain ⟨s2, q⟩ := hs i x H H' hi s1 y
  refine ⟨by show (((σ.set j none).set j (some x)).set j none) = σ.set j none; rw [List.set_set, List.set_set], ?_⟩
  refine q _ fun H2 s3 => ?_
  have sA := s1.trans (s2.trans s3)
  cases hp : p i with
  | true =>
    rw [if_pos rfl]
    refine he i x H H' H2 hi s1 y sA _ ⟨_, s3 _ _ (s2 _ _ hd1), ?_, same_upd hD sA, ?_⟩
    · have := List.length_filter_le p (List.range i)
      rw [List.length_map]
      rw [List.length_range] at this
      omega
    · rw [upd_same, List.range_succ, List.filter_append, List.filter_cons, if_pos hp, List.filter_nil, List.map_append]
      rfl
  | false =>
    rw [if_neg (by decide)]
    refine ⟨sA, ?_⟩
    rw [s3 _ _ (s2 _ _ hd1), List.range_succ, List.filter_append, List.filter_cons, if_neg (by rw [hp]; decide), List.filter_nil, List.append_nil]
/-! ### rules within a comprehension -/
section
variable {X : Cx} {K : PySem.W.Frag}
theorem call_tuple_ofK (h : X.K = K) : CallR X (.type "tuple") (fun xs H Q => ∃ p ys, xs = [V.ref p] ∧ ((SqL K H p ys ∧ ∀ l, H l = none → Q (V.ref l) (upd H l (HO.tup ys))) ∨ SqT K H p ys ∧ Q (V.ref p) H)) := by
  subst h
  exact call_tuple_of
theorem ix_listAK (h : X.K = K) : IxR X (fun x y H Q => ∃ p xs i, x = .ref p ∧ y = .int i ∧ SqL K H p xs ∧ 0 ≤ i ∧ i < xs.length ∧ ∀ v, xs[i.toNat]? = some v → Q v H) := by
  subst h
  exact ix_listA
theorem op_eqDK (h : X.K = K) (hu : X.A.units + 64 < cLine) : OpR X (compareOp .Eq) (rEqD K) := by
  subst h
  exact op_eqD hu
end
/-! ### for x in xs, xs a list or a tuple -/
def iSqV (K : PySem.W.Frag) (i : Nat) : TI := fun σ H R => ∃ a J, σ[i]? = some (some (.ref a)) ∧ ((J = Itl K a ∧ ∃ xs, SqL K H a xs) ∨ (J = Itt K a ∧ ∃ xs, SqT K H a xs)) ∧ R J H
theorem pi_sqv {X : Cx} {tg : Expr} (i : Nat) {x : Str} {pos : Pos} (hN : X.N[i]? = some x := by rfl) (hv : Vis X.env.scope x := by first | exact Or.inl rfl | exact Or.inr (Or.inl rfl) | exact Or.inr (Or.inr rfl)) (h1 : (x == Str.ofString "__debug__") = false := by decide) (h2 : (x == Str.ofString "__classdict__") = false := by decide) :
    PI X tg (.Name x pos) (iSqV X.K i) := by
  refine ⟨fun pins s σ H R I q => ?_⟩
  obtain ⟨a, J, e, h, q⟩ := q
  rcases h with ⟨rfl, hs⟩ | ⟨rfl, hs⟩
  · exact (pi_list (pv i hN hv h1 h2)).run pins s σ H R I ⟨_, e, a, rfl, hs, q⟩
  · exact (pi_tup (pv i hN hv h1 h2)).run pins s σ H R I ⟨_, e, a, rfl, hs, q⟩
theorem sq_walk (K : PySem.W.Frag) {H : Hp} {a : Addr} {l : Bool} {xs : List V} (h : H a = some (seqO l xs)) :
    ∃ J, ((J = Itl K a ∧ ∃ xs, SqL K H a xs) ∨ (J = Itt K a ∧ ∃ xs, SqT K H a xs)) ∧ L2.Walk J xs.length (fun H' => H' a = some (seqO l xs)) (YAt xs) := by
  cases l with
  | true =>
    have w := walk_list (K := K) (a := a) (xs := xs)
    exact ⟨_, .inl ⟨rfl, xs, SqL.of h⟩, ⟨fun i H g z => w.goes i H g (SqL.of z), fun H z => w.stops H (SqL.of z), fun i H x H' g z => w.yields i H x H' g (SqL.of z)⟩⟩
  | false =>
    have w := walk_tup (K := K) (a := a) (xs := xs)
    exact ⟨_, .inr ⟨rfl, xs, SqT.of h⟩, ⟨fun i H g z => w.goes i H g (SqT.of z), fun H z => w.stops H (SqT.of z), fun i H x H' g z => w.yields i H x H' g (SqT.of z)⟩⟩
end Kw
set_option Elab.async false
set_option linter.all false
set_option maxRecDepth 100000
set_option maxHeartbeats 4000000
namespace Kw
open PySem PySem.Spec PyProof.Rows L2
/-- lc_rel with any target -/
theorem lc_relG {J : It} {n : Nat} {G : Hp → Prop} {Y : Nat → Hp → V → Hp → Prop} (w : L2.Walk J n G Y) {vs : List Nat} {g : TG} {te : TE} {σ : L2.St} {H1 : Hp} {D : Addr} {Qd : Hp → Prop} (hD : H1 D = none) (hn : n ≤ 16000000) (R : Nat → Hp → V → Prop)
    (hR : ∀ i F F' v, Same F F' → R i F v → R i F' v)
    (hG : ∀ H, Same H1 H → G H)
    (hs : ∀ i x F zs H', i < n → Same H1 F → F D = none → Y i (upd F D (.lst zs)) x H' → H' = upd F D (.lst zs) ∧ ∃ σ2 : L2.St, wipe σ2 vs = wipe σ vs ∧ (∀ k : L2.St → Hp → Prop, k σ2 (upd F D (.lst zs)) → g x (wipe σ vs) (upd F D (.lst zs)) k) ∧ ∀ Q : VK, (∀ F2 v, Same F F2 → R i F2 v → Q v F2) → te σ2 F Q)
    (hd : ∀ F zs, Same H1 F → F D = none → zs.length = n → (∀ i v, zs[i]? = some v → R i F v) → Qd (upd F D (.lst zs))) :
    ∃ W : Nat → Nat → Hp → Prop, (∃ m, W 0 m (upd H1 D (.lst []))) ∧ ∀ i m H, W i m H →
      (J.stop i H ∧ Qd H) ∨ (J.go i H ∧ ∃ Nx : Hp → Prop, (∀ H', Nx H' → ∃ m', m' < m ∧ W (i + 1) m' H') ∧ ∀ x H', J.yld i H x H' → g x (wipe σ vs) H' fun σ2 H2 => wipe σ2 vs = wipe σ vs ∧ tYes σ2 H2 fun b H3 =>
        if b = true then tFr te σ2 H3 fun y H4 => ∃ acc, H4 D = some (.lst acc) ∧ acc.length < sizeLine ∧ Nx (upd H4 D (.lst (acc ++ [y]))) else Nx H3) := by
  have hn2 : n < sizeLine := by
    rw [sizeLine_eq]
    omega
  refine lc_it w (fun i H => ∃ F zs, H = upd F D (.lst zs) ∧ Same H1 F ∧ F D = none ∧ zs.length = i ∧ ∀ j v, zs[j]? = some v → R j F v) ⟨H1, [], rfl, Same.refl _, hD, rfl, fun j v h => by simp at h⟩ (fun i H _ h => ?_) ?_ (fun H h => ?_)
  · obtain ⟨F, zs, rfl, s, hF, _⟩ := h
    exact hG _ (s.trans (Same.new hF))
  · rintro i x H H' hi ⟨F, zs, rfl, s, hF, hz, hr⟩ y
    obtain ⟨rfl, σ2, e2, hg, q⟩ := hs i x F zs H' hi s hF y
    refine hg _ ⟨e2, ?_⟩
    refine iteT (B := ∃ F2 zs2, upd F D (.lst zs) = upd F2 D (.lst zs2) ∧ Same H1 F2 ∧ F2 D = none ∧ zs2.length = i + 1 ∧ ∀ j v, zs2[j]? = some v → R j F2 v) ?_
    refine ⟨D, zs, upd_same, ?_⟩
    rw [hide_upd hF]
    refine q _ fun F2 v s2 rv hF2 => ⟨zs, upd_same, by omega, F2, zs ++ [v], upd_upd, s.trans s2, hF2, by rw [List.length_append, hz]; rfl, fun k u hu => ?_⟩
    by_cases c : k < zs.length
    · rw [List.getElem?_append_left c] at hu
      exact hR _ _ _ _ s2 (hr k u hu)
    · have : k = zs.length := by
        have := (List.getElem?_eq_some_iff.mp hu).1
        rw [List.length_append, List.length_singleton] at this
        omega
      rw [this, List.getElem?_append_right (Nat.le_refl _), Nat.sub_self] at hu
      have e : v = u := by simpa using hu
      rw [this, hz, ← e]
      exact rv
  · obtain ⟨F, zs, rfl, s, hF, hz, hr⟩ := h
    exact hd F zs s hF hz hr
/-- the pair as a target: two names -/
theorem g_pair {K : PySem.W.Frag} {H : Hp} {x : V} {i j : Nat} {σ : L2.St} {a : Addr} {u v : V} {k : L2.St → Hp → Prop} (e : x = .ref a) (ha : H a = some (.tup [u, v])) (q : k ((σ.set i (some u)).set j (some v)) H) : gTup K 2 (gCons (gName i) (gCons (gName j) gNil)) x σ H k :=
  ⟨a, _, e, SqT.of ha, rfl, _, _, rfl, _, _, rfl, rfl, q⟩
/-- two fors, the items of lists: all of them, one after another -/
theorem lc2_told {J : It} {n : Nat} {G : Hp → Prop} {Y : Nat → Hp → V → Hp → Prop} (w : L2.Walk J n G Y) {a b : Nat} (hab : a ≠ b) {wi1 : TI} {te : TE} {σ : L2.St} {H1 : Hp} {D : Addr} {Qd : Hp → Prop} (hD : H1 D = none) (f : Nat → List V)
    (sz : ((List.range n).flatMap f).length < sizeLine)
    (hG : ∀ H, Same H1 H → G H)
    (hs : ∀ i x H H', i < n → Same H1 H → Y i H x H' → H' = H ∧ ∃ (J1 : It) (G1 : Hp → Prop) (Y1 : Nat → Hp → V → Hp → Prop), L2.Walk J1 (f i).length G1 Y1 ∧ (∀ H2, Same H1 H2 → G1 H2) ∧ (∀ R : It → Hp → Prop, R J1 H → wi1 ((wipe σ [a, b]).set a (some x)) H R) ∧
      ∀ j y H2 H3, j < (f i).length → Same H1 H2 → Y1 j H2 y H3 → H3 = H2 ∧ ∀ (Q : VK) (z : V), (f i)[j]? = some z → Q z H2 → te (((((wipe σ [a, b]).set a (some x)).set b none)).set b (some y)) H2 Q)
    (hd : ∀ H, Same H1 H → H D = some (.lst ((List.range n).flatMap f)) → Qd H) :
    ∃ W : Nat → Nat → Hp → Prop, (∃ m, W 0 m (upd H1 D (.lst []))) ∧ ∀ i m H, W i m H →
      (J.stop i H ∧ Qd H) ∨ (J.go i H ∧ ∃ Nx : Hp → Prop, (∀ H', Nx H' → ∃ m', m' < m ∧ W (i + 1) m' H') ∧ ∀ x H', J.yld i H x H' → gName a x (wipe σ [a, b]) H' fun σ2 H2 => wipe σ2 [a, b] = wipe σ [a, b] ∧ tYes σ2 H2 fun c H3 =>
        if c = true then wi1 σ2 H3 fun J1 H4 => ∃ W1 : Nat → Nat → Hp → Prop, (∃ m, W1 0 m H4) ∧ ∀ j k H, W1 j k H → (J1.stop j H ∧ Nx H) ∨ (J1.go j H ∧ ∃ Nx1 : Hp → Prop, (∀ H', Nx1 H' → ∃ k', k' < k ∧ W1 (j + 1) k' H') ∧ ∀ x H', J1.yld j H x H' →
          gName b x (wipe σ2 [b]) H' fun σ3 H5 => wipe σ3 [b] = wipe σ2 [b] ∧ tYes σ3 H5 fun c H6 => if c = true then te σ3 H6 fun y H7 => ∃ acc, H7 D = some (.lst acc) ∧ acc.length < sizeLine ∧ Nx1 (upd H7 D (.lst (acc ++ [y]))) else Nx1 H6)
        else Nx H3) := by
  have part : ∀ i j, i < n → j ≤ (f i).length → ((List.range i).flatMap f ++ (f i).take j).length ≤ ((List.range n).flatMap f).length := by
    intro i j hi hj
    have e : ((List.range (i + 1)).flatMap f) = (List.range i).flatMap f ++ f i := by rw [List.range_succ, List.flatMap_append]; simp
    have le : ((List.range (i + 1)).flatMap f).length ≤ ((List.range n).flatMap f).length := by
      have : ∀ d, ((List.range (i + 1)).flatMap f).length ≤ ((List.range (i + 1 + d)).flatMap f).length := by
        intro d
        induction d with
        | zero => exact Nat.le_refl _
        | succ d ih =>
          have e : i + 1 + (d + 1) = (i + 1 + d) + 1 := by omega
          rw [e, List.range_succ (n := i + 1 + d), List.flatMap_append, List.length_append]
          omega
      have q := this (n - (i + 1))
      rwa [show i + 1 + (n - (i + 1)) = n by omega] at q
    rw [e, List.length_append] at le
    rw [List.length_append, List.length_take]
    omega
  let P : Nat → Hp → Prop := fun i H => Same H1 H ∧ H D = some (.lst ((List.range i).flatMap f))
  refine ⟨fun i m H => i ≤ n ∧ m = n - i ∧ P i H, ⟨n, Nat.zero_le _, by omega, Same.new hD, upd_same⟩, ?_⟩
  rintro i m H ⟨hi, rfl, s, hd1⟩
  by_cases c : i = n
  · subst c
    exact Or.inl ⟨w.stops H (hG H s), hd H s hd1⟩
  have hi2 : i < n := by omega
  refine Or.inr ⟨w.goes i H hi2 (hG H s), fun H' => P (i + 1) H', fun H' h => ⟨n - (i + 1), by omega, by omega, rfl, h⟩, fun x H' hy => ?_⟩
  obtain ⟨rfl, J1, G1, Y1, w1, hG1, hwi, hin⟩ := hs i x H H' hi2 s (w.yields i H x H' hi2 (hG H s) hy)
  have e1 : wipe ((wipe σ [a, b]).set a (some x)) [a, b] = wipe σ [a, b] := by
    apply List.ext_getElem?
    intro k
    show ((((σ.set b none).set a none).set a (some x)).set b none |>.set a none)[k]? = ((σ.set b none).set a none)[k]?
    simp only [List.getElem?_set, List.length_set]
    by_cases c1 : a = k
    · simp [c1]
    · by_cases c2 : b = k
      · simp [c1, c2]
      · simp [c1, c2]
  refine ⟨e1, ?_⟩
  refine iteT (A := wi1 ((wipe σ [a, b]).set a (some x)) H' _) (B := P (i + 1) H') ?_
  refine hwi _ ?_
  refine ⟨fun j k H2 => j ≤ (f i).length ∧ k = (f i).length - j ∧ Same H1 H2 ∧ H2 D = some (.lst ((List.range i).flatMap f ++ (f i).take j)), ⟨(f i).length, Nat.zero_le _, by omega, s, by rw [List.take_zero, List.append_nil]; exact hd1⟩, ?_⟩
  rintro j k H2 ⟨hj, rfl, s2, h2⟩
  by_cases cj : j = (f i).length
  · subst cj
    refine Or.inl ⟨w1.stops H2 (hG1 H2 s2), s2, ?_⟩
    rw [h2, List.take_length, List.range_succ, List.flatMap_append]
    simp
  have hj2 : j < (f i).length := by omega
  refine Or.inr ⟨w1.goes j H2 hj2 (hG1 H2 s2), fun H3 => Same H1 H3 ∧ H3 D = some (.lst ((List.range i).flatMap f ++ (f i).take (j + 1))), fun H3 h => ⟨(f i).length - (j + 1), by omega, by omega, rfl, h.1, h.2⟩, fun y H3 hy2 => ?_⟩
  obtain ⟨rfl, q⟩ := hin j y H2 H3 hj2 s2 (w1.yields j H2 y H3 hj2 (hG1 H2 s2) hy2)
  obtain ⟨z, hz⟩ := some_at hj2
  refine ⟨?_, ?_⟩
  · show ((((wipe σ [a, b]).set a (some x)).set b none).set b (some y)).set b none = ((wipe σ [a, b]).set a (some x)).set b none
    rw [List.set_set, List.set_set]
  refine iteT (B := Same H1 H3 ∧ H3 D = some (.lst ((List.range i).flatMap f ++ (f i).take (j + 1)))) ?_
  refine q _ z hz ⟨_, h2, Nat.lt_of_le_of_lt (part i j hi2 hj) sz, same_upd hD s2, ?_⟩
  rw [upd_same, List.take_add_one, hz, ← List.append_assoc]
  rfl
/-! ### an item of a list that is read and written back -/
section
variable {X : Cx}
theorem get_listA : PGet X (fun x y H Q => ∃ p xs i, x = .ref p ∧ y = .int i ∧ SqL X.K H p xs ∧ 0 ≤ i ∧ i < xs.length ∧ ∀ v, xs[i.toNat]? = some v → Q v H) := by
  intro pins s σ H x y v u Q I rx ry h
  obtain ⟨p, xs, i, rfl, rfl, hq, h0, h1, q⟩ := h
  cases rx
  obtain ⟨t, rfl⟩ := ry
  obtain ⟨its, r, pl, hz⟩ := I.list hq
  obtain ⟨z, hzz⟩ := some_at0 (l := xs) (i := i.toNat) (by omega)
  obtain ⟨w, ew, rw'⟩ := r.get hzz
  have hn : xs.length ≤ 16777216 := by
    rw [← sizeLine_eq]
    exact hz
  exact wpAny_getItem_list pl.isList h0 (by omega) (by simpa using ew) ⟨z, H, I, rw', q z hzz⟩
end
/-! ### sorted(keys), the keys tuples of three ints -/
structure T3 where
  a : Addr
  i : Int
  j : Int
  k : Int
def T3.enc (b : T3) : PyData := .tuple [.int b.i, .int b.j, .int b.k]
def sort3 (bs : List T3) : List T3 := bs.mergeSort (PySem.W.dataLe false T3.enc)
def refs3 (bs : List T3) : List V := bs.map fun b => V.ref b.a
theorem each_refs3 : ∀ {bs : List T3} {vs : List Value}, Vals (refs3 bs) vs → PySem.W.EachIs (fun v b => v = Value.ref b.a) vs bs
  | [], vs, h => by
    cases (show Vals [] vs from h)
    exact .nil
  | b :: bs, vs, h => by
    cases (show Vals (V.ref b.a :: refs3 bs) vs from h) with
    | cons r t => exact .cons r (each_refs3 t)
theorem vals_each3 : ∀ {bs : List T3} {vs : List Value}, PySem.W.EachIs (fun v b => v = Value.ref b.a) vs bs → Vals (refs3 bs) vs
  | _, _, .nil => .nil
  | _, _, .cons h t => .cons h (vals_each3 t)
theorem each_reads {h : Heap} : ∀ {bs : List T3} {vs : List Value}, PySem.W.EachIs (fun v b => v = Value.ref b.a) vs bs → (∀ b ∈ bs, ∃ as, Reads h (Value.ref b.a) b.enc as) → PySem.W.EachIs (fun v b => ∃ as, Reads h v (T3.enc b) as) vs bs
  | _, _, .nil, _ => .nil
  | b :: bs, _, .cons e t, q => .cons (by rw [e]; exact q b (List.mem_cons_self ..)) (each_reads t fun c hc => q c (List.mem_cons_of_mem _ hc))
theorem sort3_length (bs : List T3) : (sort3 bs).length = bs.length := List.length_mergeSort _
theorem cr_sorted3 {X : Cx} {n : Nat} (hr : Room n X.A) (hk : 3 ≤ n) : CallR X (.builtin "sorted") (fun vs H Q => ∃ (a : Addr) (bs : List T3), vs = [V.ref a] ∧ SqL X.K H a (refs3 bs) ∧ (∀ b ∈ bs, H b.a = some (.tup [.int b.i, .int b.j, .int b.k])) ∧ ∀ p, H p = none → Q (.ref p) (upd H p (.lst (refs3 (sort3 bs))))) := by
  intro pins s σ H vs us Q I r h
  obtain ⟨a, bs, rfl, hs, hall, q⟩ := h
  obtain rfl := Vals.ref1 r
  obtain ⟨its, rv, hl, hz⟩ := I.list hs
  have hz2 : bs.length ≤ sizeLine := by
    have e : (refs3 bs).length = bs.length := List.length_map _
    rw [← e]
    exact hz
  have ev := each_refs3 rv
  refine PySem.W.sorted_data (enc := T3.enc) hl.isList ev (each_reads ev fun b hb => ?_) (PySem.W.AllAlike.of fun _ _ => by simp [PySem.W.alike, PySem.W.alikeAll, T3.enc]) (PySem.W.Sortable.tuples fun _ => ⟨_, _, rfl⟩) hz2 (fun p _ => ?_) fun out hlen eo => ?_
  · obtain ⟨_, its2, r2, o, ho, hc, m, hd⟩ := I.hok _ _ (hall b hb)
    cases r2 with
    | cons r1 t1 =>
      cases t1 with
      | cons r2 t2 =>
        cases t2 with
        | cons r3 t3 =>
          cases t3
          obtain ⟨x1, rfl⟩ := r1
          obtain ⟨x2, rfl⟩ := r2
          obtain ⟨x3, rfl⟩ := r3
          exact ⟨_, .tuple ho hc hd (.cons (.int _ _) (.cons (.int _ _) (.cons (.int _ _) .nil)))⟩
  · have hd : (T3.enc p).depth = 1 := by simp [T3.enc, PyData.depth, PyData.depthAll]
    have := hr.un
    omega
  · obtain ⟨c, hc⟩ := sortedAll_at s.heap its out.toArray
    refine ⟨.ref (s.heap.objs.size + 1), _, I.laid (a := s.heap.objs.size + 1) (o := .lst (refs3 (sort3 bs))) (t' := s.toks) (fun b o e => sortedAll_old e) (Nat.le_succ _) ⟨?_, out, c, vals_each3 eo, hc⟩, rfl, q _ (I.hok.fresh (Nat.le_succ _))⟩
    show (refs3 (sort3 bs)).length ≤ sizeLine
    rw [show (refs3 (sort3 bs)).length = (sort3 bs).length from List.length_map _, sort3_length]
    exact hz2
section
variable {X : Cx} {K : PySem.W.Frag}
theorem op_catTK (h : X.K = K) : OpR X (binaryOp .Add) (rCatT K) := by
  subst h
  exact op_catT
theorem pe_fldK {e : Expr} {f : Str} {pos : Pos} {ta : TE} (h : X.K = K) (he : PE X e ta) (hb : attributeBase e f X.env (eval e X.env) = eval e X.env) : PE X (.Attribute e f pos) (tFld K ta f) := by
  subst h
  exact pe_fld he hb
end
end Kw
set_option Elab.async false
set_option linter.all false
set_option maxRecDepth 100000
set_option maxHeartbeats 4000000
namespace Kw
open PySem PySem.Spec PyProof.Rows L2
section
variable {X : Cx}
theorem SlR.imp' {r r' : V → Option Int → Option Int → Hp → VK → Prop} (h : SlR X r) (i : ∀ x lo hi H Q, r' x lo hi H Q → r x lo hi H Q) : SlR X r' :=
  fun pins s σ H x v vl vu lo hi sl Q I rx hs pl pu q => h pins s σ H x v vl vu lo hi sl Q I rx hs pl pu (i _ _ _ _ _ q)
/-- a slice of a tuple of data -/
theorem sl_tupD : SlR X (fun x lo hi H Q => ∃ (S : List Addr) (ds : List D), (∀ y ∈ S, H y ≠ none) ∧ At (hidS S H) (.seq false ds) x ∧ ∀ H' u, Same H H' → At (hidS S H') (.seq false (cutD ds lo hi)) u → Q u H') :=
  SlR.imp' sl_tupA fun x lo hi H Q h => by
    obtain ⟨S, ds, hS, ⟨a, xs, rfl, ha, hx, hz⟩, q⟩ := h
    have cz : (cutD ds lo hi).length ≤ 16000000 := Nat.le_trans cutD_len hz
    refine ⟨a, xs, rfl, SqT.of (hidS_some ha).1, fun z => ?_, fun _ p hp => ?_⟩
    · refine q _ _ (Same.refl _) ⟨a, xs, rfl, ha, ?_, cz⟩
      have e : cutV xs lo hi = xs := by
        show List.take _ (List.drop _ xs) = xs
        rw [z.1, z.2, List.drop_zero, Nat.sub_zero, List.take_length]
      have := hx.cut lo hi
      rw [e] at this
      exact this
    · refine q _ _ (Same.new hp) ⟨p, _, rfl, ?_, AtL.same (Same.hidS S (Same.new hp)) _ _ (hx.cut lo hi), cz⟩
      rw [hidS_upd (not_in_S hS hp)]
      exact upd_same
/-- tuples of data, one behind the other -/
theorem op_catD : OpR X (binaryOp .Add) (fun x y H Q => ∃ (S : List Addr) (ds es : List D), (∀ y ∈ S, H y ≠ none) ∧ At (hidS S H) (.seq false ds) x ∧ At (hidS S H) (.seq false es) y ∧ ds.length + es.length ≤ 16000000 ∧ ∀ H' u, Same H H' → At (hidS S H') (.seq false (ds ++ es)) u → Q u H') := by
  intro pins s σ H x y v u Q I rx ry h
  refine op_catA pins s σ H x y v u Q I rx ry ?_
  obtain ⟨S, ds, es, hS, ⟨a, xs, rfl, ha, hx, hz⟩, ⟨b, ys, rfl, hb, hy, hw⟩, len, q⟩ := h
  have l1 := hx.length
  have l2 := hy.length
  refine ⟨a, b, xs, ys, rfl, rfl, SqT.of (hidS_some ha).1, SqT.of (hidS_some hb).1, sz_small (by omega), fun e => ?_, fun _ e => ?_, fun _ _ p hp => ?_⟩
  · subst e
    have : ds = [] := List.eq_nil_of_length_eq_zero (by simpa using l1.symm)
    subst this
    exact q _ _ (Same.refl _) ⟨b, ys, rfl, hb, hy, hw⟩
  · subst e
    have : es = [] := List.eq_nil_of_length_eq_zero (by simpa using l2.symm)
    subst this
    rw [List.append_nil] at q
    exact q _ _ (Same.refl _) ⟨a, xs, rfl, ha, hx, hz⟩
  · refine q _ _ (Same.new hp) ⟨p, _, rfl, ?_, AtL.append (AtL.same (Same.hidS S (Same.new hp)) _ _ hx) (AtL.same (Same.hidS S (Same.new hp)) _ _ hy), by rw [List.length_append]; omega⟩
    rw [hidS_upd (not_in_S hS hp)]
    exact upd_same
end
end Kw
set_option Elab.async false
set_option linter.all false
set_option maxRecDepth 100000
set_option maxHeartbeats 4000000
/-! A layer of data over the hand layer: what a def computes, as a function of trees (D), the lists that it changes being its own. -/
namespace Kd
open PySem PySem.Spec PyProof.Rows L2 Kw
/-- the values of the names, by slot; none: no value, or not known -/
abbrev DE := List (Option D)
/-- a run of a def: addresses that are out of reach, the lists that are handed in to be changed, the heap at the start -/
structure Fr where
  T : List Addr
  I : List (Nat × Addr)
  H0 : Hp
abbrev Own := List (Nat × Addr)
def SA (f : Fr) (A : Own) : List Addr := f.T ++ A.map (·.2)
structure Rl (f : Fr) (A : Own) (H : Hp) (σ : L2.St) (δ : DE) : Prop where
  len : σ.length = δ.length
  tq : ∀ x ∈ f.T, H x = f.H0 x ∧ f.H0 x ≠ none
  sm : Same (hidS (SA f f.I) f.H0) (hidS (SA f f.I) H)
  sub : ∀ p ∈ f.I, p ∈ A
  nw : ∀ p ∈ A, p ∈ f.I ∨ f.H0 p.2 = none
  n1 : (A.map (·.1)).Nodup
  n2 : (A.map (·.2)).Nodup
  dj : ∀ p ∈ A, p.2 ∉ f.T
  own : ∀ p ∈ A, ∃ ds xs, δ[p.1]? = some (some (.seq true ds)) ∧ σ[p.1]? = some (some (.ref p.2)) ∧ H p.2 = some (.lst xs) ∧ AtL (hidS (SA f A) H) ds xs ∧ ds.length ≤ 16000000
  dat : ∀ i d, δ[i]? = some (some d) → i ∉ A.map (·.1) → ∃ v, σ[i]? = some (some v) ∧ At (hidS (SA f A) H) d v
theorem same_hid_sub {S S' : List Addr} {H : Hp} (h : ∀ x ∈ S', x ∈ S) : Same (hidS S H) (hidS S' H) := fun b o e => by
  obtain ⟨e1, n⟩ := hidS_some e
  rw [hidS_eq, if_neg fun z => n (h b z)]
  exact e1
theorem hidS_congr {S : List Addr} {H H' : Hp} (h : ∀ b, b ∉ S → H b = H' b) : hidS S H = hidS S H' := by
  funext b
  rw [hidS_eq, hidS_eq]
  by_cases c : b ∈ S
  · rw [if_pos c, if_pos c]
  · rw [if_neg c, if_neg c, h b c]
section
variable {f : Fr} {A : Own} {H H' : Hp} {σ : L2.St} {δ : DE}
theorem mem_SA {x : Addr} : x ∈ SA f A ↔ x ∈ f.T ∨ ∃ p ∈ A, p.2 = x := by
  unfold SA
  rw [List.mem_append, List.mem_map]
theorem Rl.alive (R : Rl f A H σ δ) : ∀ x ∈ SA f A, H x ≠ none := fun x hx => by
  rcases mem_SA.mp hx with h | ⟨p, hp, rfl⟩
  · obtain ⟨e, n⟩ := R.tq x h
    rw [e]
    exact n
  · obtain ⟨ds, xs, _, _, e, _⟩ := R.own p hp
    rw [e]
    exact fun z => by cases z
theorem Rl.fresh (R : Rl f A H σ δ) {p : Addr} (hp : H p = none) : p ∉ SA f A := fun z => R.alive p z hp
theorem Rl.ssub (R : Rl f A H σ δ) : ∀ x ∈ SA f f.I, x ∈ SA f A := fun x hx => by
  rcases mem_SA.mp hx with h | ⟨p, hp, e⟩
  · exact mem_SA.mpr (.inl h)
  · exact mem_SA.mpr (.inr ⟨p, R.sub p hp, e⟩)
theorem Rl.free0 (R : Rl f A H σ δ) {p : Addr} (hp : H p = none) : f.H0 p = none := by
  cases e : f.H0 p with
  | none => rfl
  | some o =>
    by_cases c : p ∈ SA f f.I
    · exact absurd hp (R.alive p (R.ssub p c))
    · have := R.sm p o (by rw [hidS_eq, if_neg c]; exact e)
      rw [(hidS_some this).1] at hp
      cases hp
/-- the heap grows -/
theorem Rl.grow (R : Rl f A H σ δ) (s : Same H H') : Rl f A H' σ δ := by
  have eq : ∀ x ∈ SA f A, H' x = H x := fun x hx => by
    cases e : H x with
    | none => exact absurd e (R.alive x hx)
    | some o => exact s x o e
  have sh : Same (hidS (SA f A) H) (hidS (SA f A) H') := Same.hidS _ s
  refine ⟨R.len, fun x hx => ?_, R.sm.trans (Same.hidS _ s), R.sub, R.nw, R.n1, R.n2, R.dj, fun p hp => ?_, fun i d hd hi => ?_⟩
  · obtain ⟨e, n⟩ := R.tq x hx
    exact ⟨(eq x (mem_SA.mpr (.inl hx))).trans e, n⟩
  · obtain ⟨ds, xs, e1, e2, e3, e4, e5⟩ := R.own p hp
    exact ⟨ds, xs, e1, e2, s _ _ e3, AtL.same sh _ _ e4, e5⟩
  · obtain ⟨v, e1, e2⟩ := R.dat i d hd hi
    exact ⟨v, e1, At.same sh _ _ e2⟩
/-- what else a step may do: T stays, the rest grows, the own lists are told anew -/
theorem Rl.step (R : Rl f A H σ δ) {δ' : DE} (ht : ∀ x ∈ f.T, H' x = H x) (s : Same (hidS (SA f A) H) (hidS (SA f A) H')) (hl : δ'.length = δ.length)
    (hd : ∀ i, i ∉ A.map (·.1) → δ'[i]? = δ[i]?)
    (ho : ∀ p ∈ A, ∃ ds xs, δ'[p.1]? = some (some (.seq true ds)) ∧ H' p.2 = some (.lst xs) ∧ AtL (hidS (SA f A) H') ds xs ∧ ds.length ≤ 16000000) : Rl f A H' σ δ' := by
  refine ⟨by rw [hl]; exact R.len, fun x hx => ?_, fun b o e => ?_, R.sub, R.nw, R.n1, R.n2, R.dj, fun p hp => ?_, fun i d h hi => ?_⟩
  · obtain ⟨e, n⟩ := R.tq x hx
    exact ⟨(ht x hx).trans e, n⟩
  · have e1 := R.sm b o e
    obtain ⟨e2, n2⟩ := hidS_some e1
    rw [hidS_eq, if_neg n2]
    by_cases c : b ∈ SA f A
    · rcases mem_SA.mp c with h | ⟨p, hp, rfl⟩
      · exact absurd (mem_SA.mpr (.inl h)) n2
      · rcases R.nw p hp with z | z
        · exact absurd (mem_SA.mpr (.inr ⟨p, z, rfl⟩)) n2
        · rw [(hidS_some e).1] at z
          cases z
    · have := s b o (by rw [hidS_eq, if_neg c]; exact e2)
      exact (hidS_some this).1
  · obtain ⟨ds, xs, e1, e2, e3, e4⟩ := ho p hp
    obtain ⟨_, _, _, q, _⟩ := R.own p hp
    exact ⟨ds, xs, e1, q, e2, e3, e4⟩
  · rw [hd i hi] at h
    obtain ⟨v, e1, e2⟩ := R.dat i d h hi
    exact ⟨v, e1, At.same s _ _ e2⟩
theorem get_set_ne {α : Type} {l : List α} {i j : Nat} {x : α} (h : i ≠ j) : (l.set i x)[j]? = l[j]? := List.getElem?_set_ne h
theorem fst_inj {A : Own} (n1 : (A.map (·.1)).Nodup) {p q : Nat × Addr} (hp : p ∈ A) (hq : q ∈ A) (e : p.1 = q.1) : p = q := by
  induction A with
  | nil => cases hp
  | cons a A ih =>
    rw [List.map_cons, List.nodup_cons] at n1
    rcases List.mem_cons.mp hp with rfl | hp'
    · rcases List.mem_cons.mp hq with rfl | hq'
      · rfl
      · exact (n1.1 (List.mem_map.mpr ⟨q, hq', e.symm⟩)).elim
    · rcases List.mem_cons.mp hq with rfl | hq'
      · exact (n1.1 (List.mem_map.mpr ⟨p, hp', e⟩)).elim
      · exact ih n1.2 hp' hq'
theorem snd_inj {A : Own} (n2 : (A.map (·.2)).Nodup) {p q : Nat × Addr} (hp : p ∈ A) (hq : q ∈ A) (e : p.2 = q.2) : p = q := by
  induction A with
  | nil => cases hp
  | cons a A ih =>
    rw [List.map_cons, List.nodup_cons] at n2
    rcases List.mem_cons.mp hp with rfl | hp'
    · rcases List.mem_cons.mp hq with rfl | hq'
      · rfl
      · exact (n2.1 (List.mem_map.mpr ⟨q, hq', e.symm⟩)).elim
    · rcases List.mem_cons.mp hq with rfl | hq'
      · exact (n2.1 (List.mem_map.mpr ⟨p, hp', e⟩)).elim
      · exact ih n2.2 hp' hq'
/-- an own list is written -/
theorem Rl.write (R : Rl f A H σ δ) {p : Nat × Addr} (hp : p ∈ A) {es : List D} {ys : List V} (h : AtL (hidS (SA f A) H) es ys) (hz : es.length ≤ 16000000) :
    Rl f A (upd H p.2 (.lst ys)) σ (δ.set p.1 (some (.seq true es))) := by
  have e : hidS (SA f A) (upd H p.2 (.lst ys)) = hidS (SA f A) H := hidS_upd_in (mem_SA.mpr (.inr ⟨p, hp, rfl⟩))
  obtain ⟨_, _, q1, _⟩ := R.own p hp
  have hi : p.1 < δ.length := (List.getElem?_eq_some_iff.mp q1).1
  refine R.step (fun x hx => upd_ne (fun z => R.dj p hp (z ▸ hx))) (by rw [e]; exact Same.refl _) (List.length_set ..) (fun i hi => get_set_ne (fun z => hi (List.mem_map.mpr ⟨p, hp, z⟩))) fun q hq => ?_
  by_cases c : q = p
  · subst c
    exact ⟨es, ys, by rw [List.getElem?_set_self hi], upd_same, by rw [e]; exact h, hz⟩
  · obtain ⟨ds, xs, e1, _, e3, e4, e5⟩ := R.own q hq
    exact ⟨ds, xs, by rw [get_set_ne (fun z => c (fst_inj R.n1 hq hp z.symm))]; exact e1, by rw [upd_ne (fun z => c (snd_inj R.n2 hq hp z))]; exact e3, by rw [e]; exact e4, e5⟩
/-- a name takes data -/
theorem Rl.setD (R : Rl f A H σ δ) {i : Nat} (hi : i ∉ A.map (·.1)) {d : D} {v : V} (h : At (hidS (SA f A) H) d v) : Rl f A H (σ.set i (some v)) (δ.set i (some d)) := by
  refine ⟨by rw [List.length_set, List.length_set]; exact R.len, R.tq, R.sm, R.sub, R.nw, R.n1, R.n2, R.dj, fun p hp => ?_, fun j e hj hn => ?_⟩
  · obtain ⟨ds, xs, e1, e2, r⟩ := R.own p hp
    have ne : i ≠ p.1 := fun z => hi (List.mem_map.mpr ⟨p, hp, z.symm⟩)
    exact ⟨ds, xs, by rw [get_set_ne ne]; exact e1, by rw [get_set_ne ne]; exact e2, r⟩
  · by_cases c : i = j
    · subst c
      have hl : i < δ.length := by
        have := (List.getElem?_eq_some_iff.mp hj).1
        rwa [List.length_set] at this
      rw [List.getElem?_set_self hl] at hj
      cases hj
      exact ⟨v, List.getElem?_set_self (by rw [R.len]; exact hl), h⟩
    · rw [get_set_ne c] at hj ⊢
      exact R.dat j e hj hn
/-- a name is forgotten, or its value -/
theorem Rl.drop (R : Rl f A H σ δ) {i : Nat} (hi : i ∉ A.map (·.1)) (o : Option V) : Rl f A H (σ.set i o) (δ.set i none) := by
  refine ⟨by rw [List.length_set, List.length_set]; exact R.len, R.tq, R.sm, R.sub, R.nw, R.n1, R.n2, R.dj, fun p hp => ?_, fun j e hj hn => ?_⟩
  · obtain ⟨ds, xs, e1, e2, r⟩ := R.own p hp
    have ne : i ≠ p.1 := fun z => hi (List.mem_map.mpr ⟨p, hp, z.symm⟩)
    exact ⟨ds, xs, by rw [get_set_ne ne]; exact e1, by rw [get_set_ne ne]; exact e2, r⟩
  · by_cases c : i = j
    · subst c
      have hl : i < δ.length := by
        have := (List.getElem?_eq_some_iff.mp hj).1
        rwa [List.length_set] at this
      rw [List.getElem?_set_self hl] at hj
      cases hj
    · rw [get_set_ne c] at hj ⊢
      exact R.dat j e hj hn
/-- a name takes a new list of its own -/
theorem Rl.newL (R : Rl f A H σ δ) {i : Nat} (hi : i ∉ A.map (·.1)) (hl : i < δ.length) {p : Addr} (hp : H p = none) {ds : List D} {xs : List V} (h : AtL (hidS (SA f A) H) ds xs) (hz : ds.length ≤ 16000000) :
    Rl f ((i, p) :: A) (upd H p (.lst xs)) (σ.set i (some (.ref p))) (δ.set i (some (.seq true ds))) := by
  have np := R.fresh hp
  have s : Same H (upd H p (.lst xs)) := Same.new hp
  have G := R.grow s
  have up : ∀ {d : D} {v : V}, At (hidS (SA f A) H) d v → At (hidS (SA f ((i, p) :: A)) (upd H p (.lst xs))) d v := fun {d v} h => by
    refine At.same (fun b o e => ?_) d v h
    obtain ⟨e1, n⟩ := hidS_some e
    have ne : b ≠ p := fun z => by rw [z, hp] at e1; cases e1
    rw [hidS_eq, if_neg (fun z => ?_), upd_ne ne]
    · exact e1
    · rcases mem_SA.mp z with z | ⟨q, hq, z⟩
      · exact n (mem_SA.mpr (.inl z))
      · rcases List.mem_cons.mp hq with rfl | hq
        · exact ne z.symm
        · exact n (mem_SA.mpr (.inr ⟨q, hq, z⟩))
  have upL : ∀ {ds : List D} {xs' : List V}, AtL (hidS (SA f A) H) ds xs' → AtL (hidS (SA f ((i, p) :: A)) (upd H p (.lst xs))) ds xs' := fun {ds xs'} h =>
    AtL.of h.length fun j d v h1 h2 => by
      obtain ⟨w, hw, ha⟩ := h.get h1
      rw [h2] at hw
      cases hw
      exact up ha
  refine ⟨by rw [List.length_set, List.length_set]; exact R.len, G.tq, G.sm, fun q hq => List.mem_cons_of_mem _ (R.sub q hq), fun q hq => ?_, ?_, ?_, fun q hq => ?_, fun q hq => ?_, fun j e hj hn => ?_⟩
  · rcases List.mem_cons.mp hq with rfl | hq
    · exact .inr (R.free0 hp)
    · exact R.nw q hq
  · rw [List.map_cons, List.nodup_cons]
    exact ⟨hi, R.n1⟩
  · rw [List.map_cons, List.nodup_cons]
    refine ⟨fun z => ?_, R.n2⟩
    obtain ⟨q, hq, e⟩ := List.mem_map.mp z
    exact np (mem_SA.mpr (.inr ⟨q, hq, e⟩))
  · rcases List.mem_cons.mp hq with rfl | hq
    · exact fun z => np (mem_SA.mpr (.inl z))
    · exact R.dj q hq
  · rcases List.mem_cons.mp hq with rfl | hq
    · exact ⟨ds, xs, List.getElem?_set_self hl, List.getElem?_set_self (by rw [R.len]; exact hl), upd_same, upL h, hz⟩
    · obtain ⟨ds', xs', e1, e2, e3, e4, e5⟩ := R.own q hq
      have ne : i ≠ q.1 := fun z => hi (List.mem_map.mpr ⟨q, hq, z.symm⟩)
      exact ⟨ds', xs', by rw [get_set_ne ne]; exact e1, by rw [get_set_ne ne]; exact e2, s _ _ e3, upL e4, e5⟩
  · rw [List.map_cons, List.mem_cons, not_or] at hn
    rw [get_set_ne (Ne.symm hn.1)] at hj ⊢
    obtain ⟨v, e1, e2⟩ := R.dat j e hj hn.2
    exact ⟨v, e1, up e2⟩
/-- an own list is one's own no more: data -/
def outO (i : Nat) (A : Own) : Own := A.filter fun p => decide (p.1 ≠ i)
def outN (i : Nat) (O : List Nat) : List Nat := O.filter fun j => decide (j ≠ i)
theorem outO_fst (i : Nat) (A : Own) : (outO i A).map (·.1) = outN i (A.map (·.1)) := by
  unfold outO outN
  rw [List.filter_map]
  rfl
theorem outO_mem {i : Nat} {A : Own} {p : Nat × Addr} : p ∈ outO i A ↔ p ∈ A ∧ p.1 ≠ i := by
  unfold outO
  rw [List.mem_filter, decide_eq_true_iff]
theorem Rl.freeze (R : Rl f A H σ δ) {i : Nat} (hi : ∀ p ∈ f.I, p.1 ≠ i) : Rl f (outO i A) H σ δ := by
  have sb : ∀ x ∈ SA f (outO i A), x ∈ SA f A := fun x hx => by
    rcases mem_SA.mp hx with h | ⟨p, hp, e⟩
    · exact mem_SA.mpr (.inl h)
    · exact mem_SA.mpr (.inr ⟨p, (outO_mem.mp hp).1, e⟩)
  have s : Same (hidS (SA f A) H) (hidS (SA f (outO i A)) H) := same_hid_sub sb
  refine ⟨R.len, R.tq, R.sm, fun p hp => outO_mem.mpr ⟨R.sub p hp, hi p hp⟩, fun p hp => R.nw p (outO_mem.mp hp).1, ?_, ?_, fun p hp => R.dj p (outO_mem.mp hp).1, fun p hp => ?_, fun j d hj hn => ?_⟩
  · exact R.n1.sublist (List.filter_sublist.map _)
  · exact R.n2.sublist (List.filter_sublist.map _)
  · obtain ⟨ds, xs, e1, e2, e3, e4, e5⟩ := R.own p (outO_mem.mp hp).1
    exact ⟨ds, xs, e1, e2, e3, AtL.same s _ _ e4, e5⟩
  · by_cases c : j ∈ A.map (·.1)
    · obtain ⟨p, hp, rfl⟩ := List.mem_map.mp c
      have ep : p.1 = i := by
        refine Classical.byContradiction fun z => hn ?_
        exact List.mem_map.mpr ⟨p, outO_mem.mpr ⟨hp, z⟩, rfl⟩
      obtain ⟨ds, xs, e1, e2, e3, e4, e5⟩ := R.own p hp
      rw [e1] at hj
      cases hj
      refine ⟨.ref p.2, e2, p.2, xs, rfl, ?_, AtL.same s _ _ e4, e5⟩
      rw [hidS_eq, if_neg (fun z => ?_)]
      · exact e3
      · rcases mem_SA.mp z with z | ⟨q, hq, z⟩
        · exact R.dj p hp z
        · obtain ⟨hq1, hq2⟩ := outO_mem.mp hq
          exact hq2 ((congrArg Prod.fst (snd_inj R.n2 hq1 hp z)).trans ep)
    · obtain ⟨v, e1, e2⟩ := R.dat j d hj c
      exact ⟨v, e1, At.same s _ _ e2⟩
/-- an own list as data, the others out of reach -/
theorem Rl.lend (R : Rl f A H σ δ) {p : Nat × Addr} (hp : p ∈ A) {ds : List D} (hd : δ[p.1]? = some (some (.seq true ds))) :
    σ[p.1]? = some (some (.ref p.2)) ∧ At (hidS (f.T ++ (outO p.1 A).map (·.2)) H) (.seq true ds) (.ref p.2) := by
  obtain ⟨ds', xs, e1, e2, e3, e4, e5⟩ := R.own p hp
  rw [e1] at hd
  cases hd
  have sb : ∀ x ∈ SA f (outO p.1 A), x ∈ SA f A := fun x hx => by
    rcases mem_SA.mp hx with h | ⟨p, hp, e⟩
    · exact mem_SA.mpr (.inl h)
    · exact mem_SA.mpr (.inr ⟨p, (outO_mem.mp hp).1, e⟩)
  refine ⟨e2, p.2, xs, rfl, ?_, AtL.same (same_hid_sub sb) _ _ e4, e5⟩
  show hidS (SA f (outO p.1 A)) H p.2 = _
  rw [hidS_eq, if_neg (fun z => ?_)]
  · exact e3
  · rcases mem_SA.mp z with z | ⟨q, hq, z⟩
    · exact R.dj p hp z
    · obtain ⟨hq1, hq2⟩ := outO_mem.mp hq
      exact hq2 (congrArg Prod.fst (snd_inj R.n2 hq1 hp z))
end
end Kd
set_option Elab.async false
set_option linter.all false
set_option maxRecDepth 100000
set_option maxHeartbeats 4000000
namespace Kd
open PySem PySem.Spec PyProof.Rows L2 Kw
abbrev M := DE → Option (D × DE)
abbrev MA := DE → Option (List D × DE)
abbrev MT := DE → Option (Bool × DE)
structure Rde (O : List Nat) (t : TE) (m : M) : Prop where
  run : ∀ (f : Fr) (A : Own) (H : Hp) (σ : L2.St) (δ : DE) (d : D) (δ' : DE) (Q : VK), A.map (·.1) = O → Rl f A H σ δ → m δ = some (d, δ') →
    (∀ v H', Rl f A H' σ δ' → Same (hidS (SA f A) H) (hidS (SA f A) H') → At (hidS (SA f A) H') d v → Q v H') → t σ H Q
structure Rda (O : List Nat) (t : TA) (m : MA) : Prop where
  run : ∀ (f : Fr) (A : Own) (H : Hp) (σ : L2.St) (δ : DE) (d : List D) (δ' : DE) (Q : List V → Hp → Prop), A.map (·.1) = O → Rl f A H σ δ → m δ = some (d, δ') →
    (∀ v H', Rl f A H' σ δ' → Same (hidS (SA f A) H) (hidS (SA f A) H') → AtL (hidS (SA f A) H') d v → Q v H') → t σ H Q
structure Rdt (O : List Nat) (t : TT) (m : MT) : Prop where
  run : ∀ (f : Fr) (A : Own) (H : Hp) (σ : L2.St) (δ : DE) (b : Bool) (δ' : DE) (Q : Bool → Hp → Prop), A.map (·.1) = O → Rl f A H σ δ → m δ = some (b, δ') →
    (∀ H', Rl f A H' σ δ' → Same (hidS (SA f A) H) (hidS (SA f A) H') → Q b H') → t σ H Q
structure ED (X : Cx) (O : List Nat) (e : Expr) (t : TE) (m : M) : Prop where
  pe : PE X e t
  rd : Rde O t m
structure AD (X : Cx) (O : List Nat) (es : List Expr) (t : TA) (m : MA) : Prop where
  pe : PA X es t
  rd : Rda O t m
structure TD (X : Cx) (O : List Nat) (e : Expr) (t : TT) (m : MT) : Prop where
  pe : PT X e t
  rd : Rdt O t m
structure WD (X : Cx) (O : List Nat) (e : Expr) (t : TT) (m : MT) : Prop where
  pe : PW X e t
  rd : Rdt O t m
/-! ### what is computed -/
def mVar (i : Nat) : M := fun δ => match δ[i]? with
  | some (some d) => some (d, δ)
  | _ => none
def mC (d : D) : M := fun δ => some (d, δ)
def mOp (g : D → D → Option D) (a b : M) : M := fun δ => (a δ).bind fun p => (b p.2).bind fun q => (g p.1 q.1).map fun d => (d, q.2)
def mUn (g : D → Option D) (a : M) : M := fun δ => (a δ).bind fun p => (g p.1).map fun d => (d, p.2)
def mNil : MA := fun δ => some ([], δ)
def mCons (a : M) (r : MA) : MA := fun δ => (a δ).bind fun p => (r p.2).bind fun q => some (p.1 :: q.1, q.2)
def mSeq (l : Bool) (a : MA) : M := fun δ => (a δ).bind fun p => if p.1.length ≤ 16000000 then some (.seq l p.1, p.2) else none
def mCall (g : List D → Option D) (a : MA) : M := fun δ => (a δ).bind fun p => (g p.1).map fun d => (d, p.2)
def mTst (a : M) : MT := fun δ => (a δ).bind fun p => match p.1 with
  | .bl b => some (b, p.2)
  | _ => none
def mNotT (a : MT) : MT := fun δ => (a δ).map fun p => (!p.1, p.2)
def mAndT (a b : MT) : MT := fun δ => (a δ).bind fun p => if p.1 = true then b p.2 else some (false, p.2)
def mOrT (a b : MT) : MT := fun δ => (a δ).bind fun p => if p.1 = true then some (true, p.2) else b p.2
def mIf (c : MT) (a b : M) : M := fun δ => (c δ).bind fun p => if p.1 = true then a p.2 else b p.2
def mNot (a : M) : M := fun δ => (a δ).bind fun p => match p.1 with
  | .bl b => some (.bl (!b), p.2)
  | _ => none
def mAnd (a b : M) : M := fun δ => (a δ).bind fun p => match p.1 with
  | .bl true => b p.2
  | .bl false => some (.bl false, p.2)
  | _ => none
def mOr (a b : M) : M := fun δ => (a δ).bind fun p => match p.1 with
  | .bl true => some (.bl true, p.2)
  | .bl false => b p.2
  | _ => none
/-- a rule's reading of two values, by what they are -/
def Ro2 (r : R2) (g : D → D → Option D) : Prop := ∀ (S : List Addr) (H : Hp) (x y : V) (dx dy d : D) (Q : VK), (∀ s ∈ S, H s ≠ none) → At (hidS S H) dx x → At (hidS S H) dy y → g dx dy = some d →
  (∀ v H', Same H H' → At (hidS S H') d v → Q v H') → r x y H Q
def Ro1 (r : V → Hp → VK → Prop) (g : D → Option D) : Prop := ∀ (S : List Addr) (H : Hp) (x : V) (dx d : D) (Q : VK), (∀ s ∈ S, H s ≠ none) → At (hidS S H) dx x → g dx = some d →
  (∀ v H', Same H H' → At (hidS S H') d v → Q v H') → r x H Q
def RoL (r : List V → Hp → VK → Prop) (g : List D → Option D) : Prop := ∀ (S : List Addr) (H : Hp) (xs : List V) (ds : List D) (d : D) (Q : VK), (∀ s ∈ S, H s ≠ none) → AtL (hidS S H) ds xs → g ds = some d →
  (∀ v H', Same H H' → At (hidS S H') d v → Q v H') → r xs H Q
theorem At.up {S : List Addr} {H H' : Hp} {d : D} {v : V} (s : Same (hidS S H) (hidS S H')) (h : At (hidS S H) d v) : At (hidS S H') d v := At.same s d v h
theorem AtL.up {S : List Addr} {H H' : Hp} {d : List D} {v : List V} (s : Same (hidS S H) (hidS S H')) (h : AtL (hidS S H) d v) : AtL (hidS S H') d v := AtL.same s d v h
theorem bind_some {α β : Type} {o : Option α} {g : α → Option β} {b : β} (h : o.bind g = some b) : ∃ a, o = some a ∧ g a = some b := by
  cases o with
  | none => cases h
  | some a => exact ⟨a, rfl, h⟩
theorem map_some' {α β : Type} {o : Option α} {g : α → β} {b : β} (h : o.map g = some b) : ∃ a, o = some a ∧ g a = b := by
  cases o with
  | none => cases h
  | some a => exact ⟨a, rfl, Option.some.inj h⟩
section
variable {X : Cx} {O : List Nat} {e a b c : Expr} {es : List Expr} {ta tb te : TE} {t : TA} {tA tB : TT} {ma mb m : M} {mt mA mB : MT} {mas : MA} {pos : Pos}
theorem ed_var {i : Nat} {x : Str} (hN : X.N[i]? = some x := by rfl) (hv : Vis X.env.scope x := by first | exact Or.inl rfl | exact Or.inr (Or.inl rfl) | exact Or.inr (Or.inr rfl)) (h1 : (x == Str.ofString "__debug__") = false := by decide) (h2 : (x == Str.ofString "__classdict__") = false := by decide) (hO : (O.contains i) = false := by rfl) :
    ED X O (.Name x pos) (tVar i) (mVar i) := by
  refine ⟨pe_var hN hv h1 h2, ⟨fun f A H σ δ d δ' Q hA R hm q => ?_⟩⟩
  unfold mVar at hm
  split at hm
  · rename_i d' e
    cases hm
    have hi : i ∉ A.map (·.1) := by
      rw [hA]
      intro z
      have := List.contains_iff_mem.mpr z
      rw [hO] at this
      cases this
    obtain ⟨v, e1, e2⟩ := R.dat i d e hi
    exact ⟨v, e1, q v H R (Same.refl _) e2⟩
  · cases hm
theorem ed_c {v : V} {d : D} (h : PE X e (tC v)) (hd : ∀ H, At H d v) : ED X O e (tC v) (mC d) := by
  refine ⟨h, ⟨fun f A H σ δ d' δ' Q hA R hm q => ?_⟩⟩
  cases hm
  exact q v H R (Same.refl _) (hd _)
theorem ed_int {i : Int} {j : Nat} : ED X O (.Constant (.int i) j pos) (tC (.int i)) (mC (.int i)) := ed_c pe_int fun _ => rfl
theorem ed_bl {i : Bool} {j : Nat} : ED X O (.Constant (.bool i) j pos) (tC (.bl i)) (mC (.bl i)) := ed_c pe_bl fun _ => rfl
theorem ed_non {j : Nat} : ED X O (.Constant .none j pos) (tC .non) (mC .non) := ed_c pe_non fun _ => rfl
theorem ed_str {i : Str} {j : Nat} : ED X O (.Constant (.str i) j pos) (tC (.str i)) (mC (.str i)) := ed_c pe_str fun _ => rfl
theorem rd_op {r : R2} {g : D → D → Option D} (hr : Ro2 r g) (ha : Rde O ta ma) (hb : Rde O tb mb) : Rde O (tOp r ta tb) (mOp g ma mb) := by
  refine ⟨fun f A H σ δ d δ' Q hA R hm q => ?_⟩
  obtain ⟨⟨dx, δ1⟩, e1, hm⟩ := bind_some hm
  obtain ⟨⟨dy, δ2⟩, e2, hm⟩ := bind_some hm
  obtain ⟨d', e3, hm⟩ := map_some' hm
  cases hm
  refine ha.run f A H σ δ dx δ1 _ hA R e1 fun x H1 R1 s1 h1 => ?_
  refine hb.run f A H1 σ δ1 dy δ2 _ hA R1 e2 fun y H2 R2 s2 h2 => ?_
  exact hr (SA f A) H2 x y dx dy d Q R2.alive (At.up s2 h1) h2 e3 fun v H3 s3 h3 => q v H3 (R2.grow s3) (s1.trans (s2.trans (Same.hidS _ s3))) h3
theorem ed_op {op : Operator} {r : R2} {g : D → D → Option D} (ho : OpR X (binaryOp op) r) (hr : Ro2 r g) (ha : ED X O a ta ma) (hb : ED X O b tb mb) : ED X O (.BinOp a op b pos) (tOp r ta tb) (mOp g ma mb) := ⟨pe_op ho ha.pe hb.pe, rd_op hr ha.rd hb.rd⟩
theorem ed_cmp {op : CmpOp} {r : R2} {g : D → D → Option D} (ho : OpR X (compareOp op) r) (hr : Ro2 r g) (ha : ED X O a ta ma) (hb : ED X O b tb mb) (hm : behindInMarks op b = false) : ED X O (.Compare a [op] [b] pos) (tOp r ta tb) (mOp g ma mb) := ⟨pe_cmpR ho ha.pe hb.pe hm, rd_op hr ha.rd hb.rd⟩
theorem rd_tst (h : Rde O te m) : Rdt O (tTest te) (mTst m) := by
  refine ⟨fun f A H σ δ b δ' Q hA R hm q => ?_⟩
  obtain ⟨⟨dx, δ1⟩, e1, hm⟩ := bind_some hm
  refine h.run f A H σ δ dx δ1 _ hA R e1 fun x H1 R1 s1 h1 => ?_
  cases dx with
  | bl k =>
    cases hm
    exact ⟨b, h1, q H1 R1 s1⟩
  | _ => cases hm
theorem td_cmp {op : CmpOp} {r : R2} {g : D → D → Option D} (ho : OpR X (compareOp op) r) (hr : Ro2 r g) (ha : ED X O a ta ma) (hb : ED X O b tb mb) (hm : behindInMarks op b = false) : TD X O (.Compare a [op] [b] pos) (tTest (tOp r ta tb)) (mTst (mOp g ma mb)) := ⟨pt_cmpR ho ha.pe hb.pe hm, rd_tst (rd_op hr ha.rd hb.rd)⟩
theorem td_val (h : ED X O e te m) (he : ∀ whole, isTrue e X.env whole = (do let v ← whole; standAt e.pos; holding [v] (truthy v)) := by intro _; rfl) : TD X O e (L2.tB te) (mTst m) := ⟨pt_val h.pe he, rd_tst h.rd⟩
end
end Kd
set_option Elab.async false
set_option linter.all false
set_option maxRecDepth 100000
set_option maxHeartbeats 4000000
namespace Kd
open PySem PySem.Spec PyProof.Rows L2 Kw
section
variable {X : Cx} {O : List Nat} {e a b c : Expr} {es : List Expr} {ta tb te : TE} {t : TA} {tA tB : TT} {ma mb m : M} {mt mA mB : MT} {mas : MA} {pos : Pos} {rest : List Expr}
theorem rd_one_bl {n : M} (h : Rde O te m) {k : Bool → M} {Kt : Bool → L2.St → Hp → VK → Prop} (hk : ∀ b, Rde O (fun σ H Q => Kt b σ H Q) (k b)) :
    Rde O (fun σ H Q => te σ H fun x H1 => ∃ c, x = .bl c ∧ Kt c σ H1 Q) (fun δ => (m δ).bind fun p => match p.1 with | .bl b => k b p.2 | _ => none) := by
  refine ⟨fun f A H σ δ d δ' Q hA R hm q => ?_⟩
  obtain ⟨⟨dx, δ1⟩, e1, hm⟩ := bind_some hm
  refine h.run f A H σ δ dx δ1 _ hA R e1 fun x H1 R1 s1 h1 => ?_
  cases dx with
  | bl b => exact ⟨b, h1, (hk b).run f A H1 σ δ1 d δ' Q hA R1 hm fun v H2 R2 s2 h2 => q v H2 R2 (s1.trans s2) h2⟩
  | _ => cases hm
theorem rd_ret {v : V} {d : D} (hd : ∀ H, At H d v) : Rde O (fun _ H Q => Q v H) (fun δ => some (d, δ)) := ⟨fun f A H σ δ d' δ' Q hA R hm q => by
  cases hm
  exact q v H R (Same.refl _) (hd _)⟩
theorem ed_one {op} (h : ED X O a ta ma) : ED X O (.BoolOp op [a] pos) ta ma := ⟨pe_one h.pe, h.rd⟩
theorem ed_and (ha : ED X O a ta ma) (hb : ED X O (.BoolOp .And (b :: rest) pos) tb mb) : ED X O (.BoolOp .And (a :: b :: rest) pos) (tAndV ta tb) (mAnd ma mb) := by
  refine ⟨pe_and ha.pe hb.pe, ⟨fun f A H σ δ d δ' Q hA R hm q => ?_⟩⟩
  obtain ⟨⟨dx, δ1⟩, e1, hm⟩ := bind_some hm
  refine ha.rd.run f A H σ δ dx δ1 _ hA R e1 fun x H1 R1 s1 h1 => ?_
  cases dx with
  | bl k =>
    cases k with
    | true => exact ⟨true, h1, iteT (hb.rd.run f A H1 σ δ1 d δ' Q hA R1 hm fun v H2 R2 s2 h2 => q v H2 R2 (s1.trans s2) h2)⟩
    | false =>
      cases hm
      exact ⟨false, h1, iteF (q _ H1 R1 s1 rfl)⟩
  | _ => cases hm
theorem ed_or (ha : ED X O a ta ma) (hb : ED X O (.BoolOp .Or (b :: rest) pos) tb mb) : ED X O (.BoolOp .Or (a :: b :: rest) pos) (tOrV ta tb) (mOr ma mb) := by
  refine ⟨pe_or ha.pe hb.pe, ⟨fun f A H σ δ d δ' Q hA R hm q => ?_⟩⟩
  obtain ⟨⟨dx, δ1⟩, e1, hm⟩ := bind_some hm
  refine ha.rd.run f A H σ δ dx δ1 _ hA R e1 fun x H1 R1 s1 h1 => ?_
  cases dx with
  | bl k =>
    cases k with
    | false => exact ⟨false, h1, iteF (hb.rd.run f A H1 σ δ1 d δ' Q hA R1 hm fun v H2 R2 s2 h2 => q v H2 R2 (s1.trans s2) h2)⟩
    | true =>
      cases hm
      exact ⟨true, h1, iteT (q _ H1 R1 s1 rfl)⟩
  | _ => cases hm
theorem ed_not (ha : ED X O a ta ma) : ED X O (.UnaryOp .Not a pos) (tNotV ta) (mNot ma) := by
  refine ⟨pe_not ha.pe, ⟨fun f A H σ δ d δ' Q hA R hm q => ?_⟩⟩
  obtain ⟨⟨dx, δ1⟩, e1, hm⟩ := bind_some hm
  refine ha.rd.run f A H σ δ dx δ1 _ hA R e1 fun x H1 R1 s1 h1 => ?_
  cases dx with
  | bl k =>
    cases hm
    exact ⟨k, h1, q _ H1 R1 s1 rfl⟩
  | _ => cases hm
theorem ed_un {op : UnaryOp} {r : V → Hp → VK → Prop} {g : D → Option D} (ho : UnR X (unaryOp op) r) (hr : Ro1 r g) (ha : ED X O a ta ma) : ED X O (.UnaryOp op a pos) (tUn r ta) (mUn g ma) := by
  refine ⟨pe_un ho ha.pe, ⟨fun f A H σ δ d δ' Q hA R hm q => ?_⟩⟩
  obtain ⟨⟨dx, δ1⟩, e1, hm⟩ := bind_some hm
  obtain ⟨d', e3, hm⟩ := map_some' hm
  cases hm
  refine ha.rd.run f A H σ δ dx δ1 _ hA R e1 fun x H1 R1 s1 h1 => ?_
  exact hr (SA f A) H1 x dx d Q R1.alive h1 e3 fun v H3 s3 h3 => q v H3 (R1.grow s3) (s1.trans (Same.hidS _ s3)) h3
/-! tests -/
theorem wd_and1 (h : TD X O a tA mA) : WD X O (.BoolOp .And [a] pos) tA mA := ⟨pw_and1 h.pe, h.rd⟩
theorem wd_or1 (h : TD X O a tA mA) : WD X O (.BoolOp .Or [a] pos) tA mA := ⟨pw_or1 h.pe, h.rd⟩
theorem wd_and (ha : TD X O a tA mA) (hb : WD X O (.BoolOp .And (b :: rest) pos) tB mB) : WD X O (.BoolOp .And (a :: b :: rest) pos) (tAnd tA tB) (mAndT mA mB) := by
  refine ⟨pw_and ha.pe hb.pe, ⟨fun f A H σ δ d δ' Q hA R hm q => ?_⟩⟩
  obtain ⟨⟨c, δ1⟩, e1, hm⟩ := bind_some hm
  refine ha.rd.run f A H σ δ c δ1 _ hA R e1 fun H1 R1 s1 => ?_
  cases c with
  | true => exact iteT (hb.rd.run f A H1 σ δ1 d δ' Q hA R1 hm fun H2 R2 s2 => q H2 R2 (s1.trans s2))
  | false =>
    cases hm
    exact iteF (q H1 R1 s1)
theorem wd_or (ha : TD X O a tA mA) (hb : WD X O (.BoolOp .Or (b :: rest) pos) tB mB) : WD X O (.BoolOp .Or (a :: b :: rest) pos) (tOr tA tB) (mOrT mA mB) := by
  refine ⟨pw_or ha.pe hb.pe, ⟨fun f A H σ δ d δ' Q hA R hm q => ?_⟩⟩
  obtain ⟨⟨c, δ1⟩, e1, hm⟩ := bind_some hm
  refine ha.rd.run f A H σ δ c δ1 _ hA R e1 fun H1 R1 s1 => ?_
  cases c with
  | false => exact iteF (hb.rd.run f A H1 σ δ1 d δ' Q hA R1 hm fun H2 R2 s2 => q H2 R2 (s1.trans s2))
  | true =>
    cases hm
    exact iteT (q H1 R1 s1)
theorem WD.td (h : WD X O a tA mA) : TD X O a tA mA := ⟨h.pe.pt, h.rd⟩
theorem td_not (ha : TD X O a tA mA) : TD X O (.UnaryOp .Not a pos) (tNot tA) (mNotT mA) := by
  refine ⟨pt_not ha.pe, ⟨fun f A H σ δ d δ' Q hA R hm q => ?_⟩⟩
  obtain ⟨⟨c, δ1⟩, e1, hm⟩ := map_some' hm
  cases hm
  exact ha.rd.run f A H σ δ c δ1 _ hA R e1 fun H1 R1 s1 => q H1 R1 s1
theorem ed_if {c : Expr} {mc : MT} (hc : TD X O c tA mc) (ha : ED X O a ta ma) (hb : ED X O b tb mb) : ED X O (.IfExp c a b pos) (tIf tA ta tb) (mIf mc ma mb) := by
  refine ⟨pe_ifExp hc.pe ha.pe hb.pe, ⟨fun f A H σ δ d δ' Q hA R hm q => ?_⟩⟩
  obtain ⟨⟨c, δ1⟩, e1, hm⟩ := bind_some hm
  refine hc.rd.run f A H σ δ c δ1 _ hA R e1 fun H1 R1 s1 => ?_
  cases c with
  | true => exact iteT (ha.rd.run f A H1 σ δ1 d δ' Q hA R1 hm fun v H2 R2 s2 h2 => q v H2 R2 (s1.trans s2) h2)
  | false => exact iteF (hb.rd.run f A H1 σ δ1 d δ' Q hA R1 hm fun v H2 R2 s2 h2 => q v H2 R2 (s1.trans s2) h2)
/-- truth of data -/
def truD : D → Option Bool
  | .non => some false
  | .bl b => some b
  | .int i => some (i != 0)
  | .str z => if z.length ≤ 16000000 then some (z.length != 0) else none
  | .seq _ xs => some (!xs.isEmpty)
def mTru (a : M) : MT := fun δ => (a δ).bind fun p => (truD p.1).map fun b => (b, p.2)
theorem truD_ok {K : PySem.W.Frag} {H : Hp} {d : D} {v : V} {b : Bool} (h : At H d v) (e : truD d = some b) : TruV K v H b := by
  cases d with
  | non => cases (show v = .non from h); cases e; rfl
  | bl k => cases (show v = .bl k from h); cases e; rfl
  | int k => cases (show v = .int k from h); cases e; rfl
  | str z =>
    cases (show v = .str z from h)
    have e : (if z.length ≤ 16000000 then some (z.length != 0) else none) = some b := e
    by_cases c : z.length ≤ 16000000
    · rw [if_pos c] at e
      refine ⟨sz_small c, ?_⟩
      rw [← Option.some.inj e]
      cases z.length <;> rfl
    · rw [if_neg c] at e
      cases e
  | seq l ds =>
    obtain ⟨a, xs, rfl, ha, hl, _⟩ := h
    have e' : (!ds.isEmpty) = b := Option.some.inj e
    have : ds.isEmpty = xs.isEmpty := by
      have := hl.length
      cases ds <;> cases xs <;> simp at this ⊢
    rw [this] at e'
    cases l with
    | true => exact .inl ⟨xs, SqL.of ha, e'.symm⟩
    | false => exact .inr (.inl ⟨xs, SqT.of ha, e'.symm⟩)
theorem TruV.out {K : PySem.W.Frag} {S : List Addr} {H : Hp} {v : V} {b : Bool} {d : D} (h : At (hidS S H) d v) (e : truD d = some b) : TruV K v H b := truD_ok h.out e
theorem td_tru (ha : ED X O a ta ma) (he : ∀ whole, isTrue a X.env whole = (do let v ← whole; standAt a.pos; holding [v] (truthy v))) : TD X O a (fun σ H Q => ta σ H fun x H' => ∃ k, TruV X.K x H' k ∧ Q k H') (mTru ma) := by
  refine ⟨pt_truth ha.pe he, ⟨fun f A H σ δ d δ' Q hA R hm q => ?_⟩⟩
  obtain ⟨⟨dx, δ1⟩, e1, hm⟩ := bind_some hm
  obtain ⟨d', e3, hm⟩ := map_some' hm
  cases hm
  exact ha.rd.run f A H σ δ dx δ1 _ hA R e1 fun x H1 R1 s1 h1 => ⟨_, TruV.out h1 e3, q H1 R1 s1⟩
/-! arguments, displays, calls -/
theorem ad_nil : AD X O [] tNil mNil := by
  refine ⟨pa_nil, ⟨fun f A H σ δ d δ' Q hA R hm q => ?_⟩⟩
  cases hm
  exact q [] H R (Same.refl _) AtL.nil
theorem rd_cons {mr : MA} {tr : TA} (ha : Rde O ta ma) (hr : Rda O tr mr) : Rda O (tCons ta tr) (mCons ma mr) := by
  refine ⟨fun f A H σ δ d δ' Q hA R hm q => ?_⟩
  obtain ⟨⟨dx, δ1⟩, e1, hm⟩ := bind_some hm
  obtain ⟨⟨dr, δ2⟩, e2, hm⟩ := bind_some hm
  cases hm
  refine ha.run f A H σ δ dx δ1 _ hA R e1 fun x H1 R1 s1 h1 => ?_
  refine hr.run f A H1 σ δ1 dr _ _ hA R1 e2 fun xs H2 R2 s2 h2 => ?_
  exact q _ H2 R2 (s1.trans s2) (AtL.cons (At.up s2 h1) h2)
theorem ad_cons {mr : MA} {tr : TA} (ha : ED X O e ta ma) (hr : AD X O es tr mr) (h1 : starEach (e :: es) X.env = (false, eval e X.env) :: starEach es X.env := by rfl) : AD X O (e :: es) (tCons ta tr) (mCons ma mr) := ⟨pa_cons ha.pe hr.pe h1, rd_cons ha.rd hr.rd⟩
theorem seq_new {S : List Addr} {H : Hp} {p : Addr} {l : Bool} {ds : List D} {xs : List V} (hS : ∀ s ∈ S, H s ≠ none) (hp : H p = none) (h : AtL (hidS S H) ds xs) (hz : ds.length ≤ 16000000) : At (hidS S (upd H p (seqO l xs))) (.seq l ds) (.ref p) := by
  refine ⟨p, xs, rfl, ?_, AtL.same (Same.hidS S (Same.new hp)) _ _ h, hz⟩
  rw [hidS_upd (not_in_S hS hp)]
  exact upd_same
theorem ed_tup {x1} (h : AD X O es t mas) : ED X O (.Tuple es x1 pos) (tTup t) (mSeq false mas) := by
  refine ⟨pe_tup h.pe, ⟨fun f A H σ δ d δ' Q hA R hm q => ?_⟩⟩
  obtain ⟨⟨ds, δ1⟩, e1, hm⟩ := bind_some hm
  by_cases c : ds.length ≤ 16000000
  · rw [if_pos c] at hm
    cases hm
    refine h.rd.run f A H σ δ ds _ _ hA R e1 fun xs H1 R1 s1 h1 => ⟨sz_small (by rw [h1.length]; exact c), fun p hp => ?_⟩
    exact q _ _ (R1.grow (Same.new hp)) (s1.trans (Same.hidS _ (Same.new hp))) (seq_new (l := false) R1.alive hp h1 c)
  · rw [if_neg c] at hm
    cases hm
theorem ed_lst (h : AD X O es t mas) : ED X O (.List es pos) (tLst t) (mSeq true mas) := by
  refine ⟨pe_lst h.pe, ⟨fun f A H σ δ d δ' Q hA R hm q => ?_⟩⟩
  obtain ⟨⟨ds, δ1⟩, e1, hm⟩ := bind_some hm
  by_cases c : ds.length ≤ 16000000
  · rw [if_pos c] at hm
    cases hm
    refine h.rd.run f A H σ δ ds _ _ hA R e1 fun xs H1 R1 s1 h1 => ⟨sz_small (by rw [h1.length]; exact c), fun p hp => ?_⟩
    exact q _ _ (R1.grow (Same.new hp)) (s1.trans (Same.hidS _ (Same.new hp))) (seq_new (l := true) R1.alive hp h1 c)
  · rw [if_neg c] at hm
    cases hm
theorem rd_cb {r : List V → Hp → VK → Prop} {g : List D → Option D} (hr : RoL r g) (h : Rda O t mas) : Rde O (tCB r t) (mCall g mas) := by
  refine ⟨fun f A H σ δ d δ' Q hA R hm q => ?_⟩
  obtain ⟨⟨ds, δ1⟩, e1, hm⟩ := bind_some hm
  obtain ⟨d', e3, hm⟩ := map_some' hm
  cases hm
  refine h.run f A H σ δ ds _ _ hA R e1 fun xs H1 R1 s1 h1 => ?_
  exact hr (SA f A) H1 xs ds d Q R1.alive h1 e3 fun v H3 s3 h3 => q v H3 (R1.grow s3) (s1.trans (Same.hidS _ s3)) h3
theorem ed_callB {id : String} {x : Str} {p : Pos} {r : List V → Hp → VK → Prop} {g : List D → Option D} (hc : CallR X (.builtin id) r) (hr : RoL r g) (hg : Gl X x) (hm : X.mg x = none) (hv : bootBuiltins x = some (.builtin id)) (ha : AD X O (e :: es) t mas)
    (hn : x ≠ "__name__" := by decide) (hdb : (x == ("__debug__" : Str)) = false := by decide) (he : starEach (e :: es) X.env = (false, eval e X.env) :: starEach es X.env := by rfl) (hpl : (backTo pos (starEach es X.env)).any (·.1) = false := by rfl) :
    ED X O (.Call (.Name x p) (e :: es) [] pos) (tCB r t) (mCall g mas) := ⟨pe_callB hc hg hm hv ha.pe hn hdb he hpl, rd_cb hr ha.rd⟩
theorem ed_callTy {T : String} {x : Str} {p : Pos} {r : List V → Hp → VK → Prop} {g : List D → Option D} (hc : CallR X (.type T) r) (hr : RoL r g) (hg : Gl X x) (hm : X.mg x = none) (hv : bootBuiltins x = some (.type T)) (ha : AD X O (e :: es) t mas)
    (hn : x ≠ "__name__" := by decide) (hdb : (x == ("__debug__" : Str)) = false := by decide) (he : starEach (e :: es) X.env = (false, eval e X.env) :: starEach es X.env := by rfl) (hpl : (backTo pos (starEach es X.env)).any (·.1) = false := by rfl) :
    ED X O (.Call (.Name x p) (e :: es) [] pos) (tCB r t) (mCall g mas) := ⟨pe_callTy hc hg hm hv ha.pe hn hdb he hpl, rd_cb hr ha.rd⟩
/-- isinstance(e, T) -/
def isiD (T : String) (d : D) : Option D := (kitB d.ty T).map D.bl
theorem ed_isi {T n : Str} {T' : String} {p p2 : Pos} (hg : Gl X "isinstance") (hm : X.mg "isinstance" = none) (hgT : Gl X T) (hmT : X.mg T = none) (hvT : bootBuiltins T = some (.type T')) (ha : ED X O e te m)
    (hT1 : T ≠ "__name__" := by decide) (hTd : (T == ("__debug__" : Str)) = false := by decide)
    (he : starEach [e, .Name T p2] X.env = (false, eval e X.env) :: starEach [.Name T p2] X.env := by rfl) (he2 : starEach [.Name T p2] X.env = (false, eval (.Name T p2) X.env) :: starEach [] X.env := by rfl) (hpl : (backTo pos (starEach [.Name T p2] X.env)).any (·.1) = false := by rfl) :
    ED X O (.Call (.Name "isinstance" p) [e, .Name T p2] [] pos) (tCB (rIsi X.K) (tCons te (tCons (tC (.ty T')) tNil))) (mUn (isiD T') m) := by
  refine ⟨pe_callB call_isi hg hm (by decide +kernel) (pa_cons ha.pe (pa_cons (pe_bltn hgT hmT hvT rfl hT1 hTd) pa_nil he2) he) (by decide) (by decide) he hpl, ⟨fun f A H σ δ d δ' Q hA R hm q => ?_⟩⟩
  obtain ⟨⟨dx, δ1⟩, e1, hm⟩ := bind_some hm
  obtain ⟨d', e3, hm⟩ := map_some' hm
  cases hm
  obtain ⟨b, e4, rfl⟩ := map_some' e3
  refine ha.rd.run f A H σ δ dx δ1 _ hA R e1 fun x H1 R1 s1 h1 => ?_
  exact ⟨x, .ty T', .type dx.ty, .type T', b, rfl, .ty _, At.ty h1.out, kit_ty e4, q _ H1 R1 s1 rfl⟩
end
end Kd
set_option Elab.async false
set_option linter.all false
set_option maxRecDepth 100000
set_option maxHeartbeats 4000000
namespace Kd
open PySem PySem.Spec PyProof.Rows L2 Kw
section
variable {X : Cx}
/-! ### operators on data -/
def subD : D → D → Option D
  | .int i, .int j => some (.int (i - j))
  | _, _ => none
def addD : D → D → Option D
  | .int i, .int j => some (.int (i + j))
  | .str a, .str b => if a.length + b.length ≤ 16000000 then some (.str (a ++ b)) else none
  | .seq true xs, .seq true ys => if xs.length + ys.length ≤ 16000000 then some (.seq true (xs ++ ys)) else none
  | .seq false xs, .seq false ys => if xs.length + ys.length ≤ 16000000 then some (.seq false (xs ++ ys)) else none
  | _, _ => none
def mulD : D → D → Option D
  | .int i, .int j => if i.natAbs < 2 ^ 64 ∨ j.natAbs < 2 ^ 64 ∨ i.natAbs.log2 + j.natAbs.log2 < 1000000 then some (.int (i * j)) else none
  | _, _ => none
def modD : D → D → Option D
  | .int i, .int j => if 0 < j then some (.int (i % j)) else none
  | _, _ => none
def fdivD : D → D → Option D
  | .int i, .int j => if 0 < j ∧ (j < 1073741824 ∨ j.natAbs.log2 < 9000) then some (.int (i / j)) else none
  | _, _ => none
def powD : D → D → Option D
  | .int i, .int j => if 0 ≤ j ∧ j ≤ 1000000 ∧ i.natAbs < 2 ^ 64 then some (.int (i ^ j.toNat)) else none
  | _, _ => none
def negD : D → Option D
  | .int i => some (.int (-i))
  | _ => none
theorem Ro2.or_l {r r' : R2} {g : D → D → Option D} (h : Ro2 r g) : Ro2 (fun x y H Q => r x y H Q ∨ r' x y H Q) g := fun S H x y dx dy d Q a b c e q => .inl (h S H x y dx dy d Q a b c e q)
theorem ro_sub : Ro2 (rI0 fun i j => .int (i - j)) subD := by
  intro S H x y dx dy d Q hS h1 h2 e q
  cases dx <;> cases dy <;> first | (cases e; done) | skip
  rename_i i j
  cases (show x = .int i from h1)
  cases (show y = .int j from h2)
  cases e
  exact ⟨i, j, rfl, rfl, q _ _ (Same.refl _) rfl⟩
theorem ro_neg : Ro1 (rU fun i => .int (-i)) negD := by
  intro S H x dx d Q hS h1 e q
  cases dx <;> first | (cases e; done) | skip
  rename_i i
  cases (show x = .int i from h1)
  cases e
  exact ⟨i, rfl, q _ _ (Same.refl _) rfl⟩
def rMul : R2 := fun x y H Q => rI CMul (fun i j => .int (i * j)) x y H Q ∨ rI CMulW (fun i j => .int (i * j)) x y H Q
theorem op_mulA : OpR X (binaryOp .Mult) rMul := op_mul.or op_mulW
theorem ro_mul : Ro2 rMul mulD := by
  intro S H x y dx dy d Q hS h1 h2 e q
  cases dx <;> cases dy <;> first | (cases e; done) | skip
  rename_i i j
  cases (show x = .int i from h1)
  cases (show y = .int j from h2)
  have e : (if i.natAbs < 2 ^ 64 ∨ j.natAbs < 2 ^ 64 ∨ i.natAbs.log2 + j.natAbs.log2 < 1000000 then some (D.int (i * j)) else none) = some d := e
  by_cases c : i.natAbs < 2 ^ 64 ∨ j.natAbs < 2 ^ 64 ∨ i.natAbs.log2 + j.natAbs.log2 < 1000000
  · rw [if_pos c] at e
    cases e
    rcases c with c | c | c
    · exact .inl ⟨i, j, rfl, rfl, .inl ⟨by omega, by omega⟩, q _ _ (Same.refl _) rfl⟩
    · exact .inl ⟨i, j, rfl, rfl, .inr ⟨by omega, by omega⟩, q _ _ (Same.refl _) rfl⟩
    · exact .inr ⟨i, j, rfl, rfl, c, q _ _ (Same.refl _) rfl⟩
  · rw [if_neg c] at e
    cases e
theorem ro_mod : Ro2 (rI (fun _ j => 0 < j) fun i j => .int (i % j)) modD := by
  intro S H x y dx dy d Q hS h1 h2 e q
  cases dx <;> cases dy <;> first | (cases e; done) | skip
  rename_i i j
  cases (show x = .int i from h1)
  cases (show y = .int j from h2)
  have e : (if 0 < j then some (D.int (i % j)) else none) = some d := e
  by_cases c : 0 < j
  · rw [if_pos c] at e
    cases e
    exact ⟨i, j, rfl, rfl, c, q _ _ (Same.refl _) rfl⟩
  · rw [if_neg c] at e
    cases e
def rFdiv : R2 := fun x y H Q => rI CDiv (fun i j => .int (i / j)) x y H Q ∨ rI CDivW (fun i j => .int (i / j)) x y H Q
theorem op_fdivA : OpR X (binaryOp .FloorDiv) rFdiv := op_fdiv.or op_fdivW
theorem ro_fdiv : Ro2 rFdiv fdivD := by
  intro S H x y dx dy d Q hS h1 h2 e q
  cases dx <;> cases dy <;> first | (cases e; done) | skip
  rename_i i j
  cases (show x = .int i from h1)
  cases (show y = .int j from h2)
  have e : (if 0 < j ∧ (j < 1073741824 ∨ j.natAbs.log2 < 9000) then some (D.int (i / j)) else none) = some d := e
  by_cases c : 0 < j ∧ (j < 1073741824 ∨ j.natAbs.log2 < 9000)
  · rw [if_pos c] at e
    cases e
    obtain ⟨c0, c | c⟩ := c
    · exact .inl ⟨i, j, rfl, rfl, ⟨c0, c⟩, q _ _ (Same.refl _) rfl⟩
    · exact .inr ⟨i, j, rfl, rfl, ⟨c0, c⟩, q _ _ (Same.refl _) rfl⟩
  · rw [if_neg c] at e
    cases e
theorem ro_pow : Ro2 (rI CPow fun i j => .int (i ^ j.toNat)) powD := by
  intro S H x y dx dy d Q hS h1 h2 e q
  cases dx <;> cases dy <;> first | (cases e; done) | skip
  rename_i i j
  cases (show x = .int i from h1)
  cases (show y = .int j from h2)
  have e : (if 0 ≤ j ∧ j ≤ 1000000 ∧ i.natAbs < 2 ^ 64 then some (D.int (i ^ j.toNat)) else none) = some d := e
  by_cases c : 0 ≤ j ∧ j ≤ 1000000 ∧ i.natAbs < 2 ^ 64
  · rw [if_pos c] at e
    cases e
    exact ⟨i, j, rfl, rfl, c, q _ _ (Same.refl _) rfl⟩
  · rw [if_neg c] at e
    cases e
theorem op_catL : OpR X (binaryOp .Add) (fun x y H Q => ∃ a b xs ys, x = .ref a ∧ y = .ref b ∧ H a = some (.lst xs) ∧ H b = some (.lst ys) ∧ xs.length + ys.length ≤ sizeLine ∧ ∀ p, H p = none → Q (.ref p) (upd H p (.lst (xs ++ ys)))) := op_cat
def rAddA : R2 := fun x y H Q => (rI0 (fun i j => .int (i + j)) x y H Q ∨ (∃ i j, x = .str i ∧ y = .str j ∧ i.length + j.length ≤ sizeLine ∧ Q (.str (i ++ j)) H)) ∨
  ((∃ a b xs ys, x = .ref a ∧ y = .ref b ∧ H a = some (.lst xs) ∧ H b = some (.lst ys) ∧ xs.length + ys.length ≤ sizeLine ∧ ∀ p, H p = none → Q (.ref p) (upd H p (.lst (xs ++ ys)))) ∨
   ∃ (S : List Addr) (ds es : List D), (∀ y ∈ S, H y ≠ none) ∧ At (hidS S H) (.seq false ds) x ∧ At (hidS S H) (.seq false es) y ∧ ds.length + es.length ≤ 16000000 ∧ ∀ H' u, Same H H' → At (hidS S H') (.seq false (ds ++ es)) u → Q u H')
theorem op_addA : OpR X (binaryOp .Add) rAddA := (op_add.or op_add_str).or (op_catL.or op_catD)
theorem ro_add : Ro2 rAddA addD := by
  intro S H x y dx dy d Q hS h1 h2 e q
  cases dx with
  | int i =>
    cases dy <;> first | (cases e; done) | skip
    rename_i j
    cases (show x = .int i from h1)
    cases (show y = .int j from h2)
    cases e
    exact .inl (.inl ⟨i, j, rfl, rfl, q _ _ (Same.refl _) rfl⟩)
  | str i =>
    cases dy <;> first | (cases e; done) | skip
    rename_i j
    cases (show x = .str i from h1)
    cases (show y = .str j from h2)
    have e : (if i.length + j.length ≤ 16000000 then some (D.str (i ++ j)) else none) = some d := e
    by_cases c : i.length + j.length ≤ 16000000
    · rw [if_pos c] at e
      cases e
      exact .inl (.inr ⟨i, j, rfl, rfl, sz_small c, q _ _ (Same.refl _) rfl⟩)
    · rw [if_neg c] at e
      cases e
  | seq l xs =>
    cases dy with
    | seq k ys =>
      cases l <;> cases k <;> first | (cases e; done) | skip
      · have e : (if xs.length + ys.length ≤ 16000000 then some (D.seq false (xs ++ ys)) else none) = some d := e
        by_cases c : xs.length + ys.length ≤ 16000000
        · rw [if_pos c] at e
          cases e
          exact .inr (.inr ⟨S, xs, ys, hS, h1, h2, c, fun H' u s h => q u H' s h⟩)
        · rw [if_neg c] at e
          cases e
      · have e : (if xs.length + ys.length ≤ 16000000 then some (D.seq true (xs ++ ys)) else none) = some d := e
        by_cases c : xs.length + ys.length ≤ 16000000
        · rw [if_pos c] at e
          cases e
          obtain ⟨a, us, rfl, ha, hu, zu⟩ := h1
          obtain ⟨b, ws, rfl, hb, hw, zw⟩ := h2
          refine .inr (.inl ⟨a, b, us, ws, rfl, rfl, (hidS_some ha).1, (hidS_some hb).1, sz_small (by rw [hu.length, hw.length]; exact c), fun p hp => ?_⟩)
          exact q _ _ (Same.new hp) (seq_new (l := true) hS hp (AtL.append hu hw) (by rw [List.length_append]; exact c))
        · rw [if_neg c] at e
          cases e
    | _ => cases l <;> (cases e; done)
  | _ => cases e
/-! ### is -/
def isNonD : D → D → Option D
  | .non, .non => some (.bl true)
  | _, .non => some (.bl false)
  | _, _ => none
def notNonD : D → D → Option D
  | .non, .non => some (.bl false)
  | _, .non => some (.bl true)
  | _, _ => none
theorem ro_isN : Ro2 (fun x y H Q => y = .non ∧ Q (.bl (decide (x = .non))) H) isNonD := by
  intro S H x y dx dy d Q hS h1 h2 e q
  cases dy with
  | non =>
    cases (show y = .non from h2)
    cases dx with
    | non => cases (show x = .non from h1); cases e; exact ⟨rfl, q _ _ (Same.refl _) rfl⟩
    | bl k => cases (show x = .bl k from h1); cases e; exact ⟨rfl, q _ _ (Same.refl _) rfl⟩
    | int k => cases (show x = .int k from h1); cases e; exact ⟨rfl, q _ _ (Same.refl _) rfl⟩
    | str k => cases (show x = .str k from h1); cases e; exact ⟨rfl, q _ _ (Same.refl _) rfl⟩
    | seq l ds => obtain ⟨a, xs, rfl, _⟩ := h1; cases e; exact ⟨rfl, q _ _ (Same.refl _) rfl⟩
  | _ => cases dx <;> (cases e; done)
theorem ro_notN : Ro2 (fun x y H Q => y = .non ∧ Q (.bl (!decide (x = .non))) H) notNonD := by
  intro S H x y dx dy d Q hS h1 h2 e q
  cases dy with
  | non =>
    cases (show y = .non from h2)
    cases dx with
    | non => cases (show x = .non from h1); cases e; exact ⟨rfl, q _ _ (Same.refl _) rfl⟩
    | bl k => cases (show x = .bl k from h1); cases e; exact ⟨rfl, q _ _ (Same.refl _) rfl⟩
    | int k => cases (show x = .int k from h1); cases e; exact ⟨rfl, q _ _ (Same.refl _) rfl⟩
    | str k => cases (show x = .str k from h1); cases e; exact ⟨rfl, q _ _ (Same.refl _) rfl⟩
    | seq l ds => obtain ⟨a, xs, rfl, _⟩ := h1; cases e; exact ⟨rfl, q _ _ (Same.refl _) rfl⟩
  | _ => cases dx <;> (cases e; done)
/-- x is True, x is False, x any data -/
theorem op_isB : OpR X (compareOp .Is) (fun x y H Q => ∃ b, y = .bl b ∧ (∀ n, x ≠ .ty n) ∧ Q (.bl (decide (x = .bl b))) H) := by
  intro pins s σ H x y v u Q I rx ry h
  obtain ⟨b, rfl, hx, q⟩ := h
  cases (show u = Value.bool b from ry)
  have fin : ∀ k, (decide (x = .bl b) = k) → wpAny (model X.prog X.w) X.A (pure (Value.bool k)) (EP X pins σ Q) X.xe s := fun k hk => wpAny_pure ⟨.bl k, H, I, rfl, by rw [hk] at q; exact q⟩
  cases x with
  | ty n => exact absurd rfl (hx n)
  | bl c =>
    cases (show v = Value.bool c from rx)
    refine fin (Value.bool c == Value.bool b) ?_
    cases c <;> cases b <;> rfl
  | non =>
    cases (show v = Value.none from rx)
    exact fin false rfl
  | int i =>
    obtain ⟨t, rfl⟩ := (show ∃ t, v = Value.int i t from rx)
    exact fin false rfl
  | str i =>
    obtain ⟨t, rfl⟩ := (show ∃ t, v = Value.str i t from rx)
    exact fin false rfl
  | byt i =>
    obtain ⟨t, rfl⟩ := (show ∃ t, v = Value.bytes i t from rx)
    exact fin false rfl
  | flt i =>
    obtain ⟨t, rfl⟩ := (show ∃ t, v = Value.float i t from rx)
    exact fin false rfl
  | ref a =>
    cases (show v = Value.ref a from rx)
    exact fin false rfl
def isBD : D → D → Option D
  | .bl a, .bl b => some (.bl (a == b))
  | _, .bl b => some (.bl false)
  | _, _ => none
theorem ro_isB : Ro2 (fun x y H Q => ∃ b, y = .bl b ∧ (∀ n, x ≠ .ty n) ∧ Q (.bl (decide (x = .bl b))) H) isBD := by
  intro S H x y dx dy d Q hS h1 h2 e q
  cases dy with
  | bl b =>
    cases (show y = .bl b from h2)
    cases dx with
    | non => cases (show x = .non from h1); cases e; exact ⟨b, rfl, fun n z => (by cases z), q _ _ (Same.refl _) rfl⟩
    | bl k =>
      cases (show x = .bl k from h1)
      cases e
      refine ⟨b, rfl, fun n z => (by cases z), q _ _ (Same.refl _) ?_⟩
      cases k <;> cases b <;> rfl
    | int k => cases (show x = .int k from h1); cases e; exact ⟨b, rfl, fun n z => (by cases z), q _ _ (Same.refl _) rfl⟩
    | str k => cases (show x = .str k from h1); cases e; exact ⟨b, rfl, fun n z => (by cases z), q _ _ (Same.refl _) rfl⟩
    | seq l ds => obtain ⟨a, xs, rfl, _⟩ := h1; cases e; exact ⟨b, rfl, fun n z => (by cases z), q _ _ (Same.refl _) rfl⟩
  | _ => cases dx <;> (cases e; done)
/-! ### numbers by order -/
def cmpI (p : Int → Int → Bool) : D → D → Option D
  | .int i, .int j => some (.bl (p i j))
  | _, _ => none
theorem ro_cmpI {p : Int → Int → Bool} : Ro2 (rI0 fun i j => .bl (p i j)) (cmpI p) := by
  intro S H x y dx dy d Q hS h1 h2 e q
  cases dx <;> cases dy <;> first | (cases e; done) | skip
  rename_i i j
  cases (show x = .int i from h1)
  cases (show y = .int j from h2)
  cases e
  exact ⟨i, j, rfl, rfl, q _ _ (Same.refl _) rfl⟩
/-! ### a place -/
def atD : D → D → Option D
  | .seq _ xs, .int i => atI xs i
  | .str z, .int i => if z.length ≤ 16000000 then (atI z.cps.toList i).map fun c => .str ⟨#[c]⟩ else none
  | _, _ => none
theorem atI_rel {α β : Type} {R : α → β → Prop} {xs : List α} {ys : List β} (hl : xs.length = ys.length) {i : Int} {a : α} (h : atI xs i = some a) (hg : ∀ (j : Nat) (a : α), xs[j]? = some a → ∃ b, ys[j]? = some b ∧ R a b) : ∃ b, atI ys i = some b ∧ R a b := by
  unfold atI at h ⊢
  rw [← hl]
  obtain ⟨j, e, h⟩ := bind_some h
  obtain ⟨b, hb, r⟩ := hg j a h
  exact ⟨b, by rw [e]; exact hb, r⟩
theorem ro_ix {K : PySem.W.Frag} : Ro2 (rIx K) atD := by
  intro S H x y dx dy d Q hS h1 h2 e q
  cases dy with
  | int i =>
    cases (show y = .int i from h2)
    cases dx with
    | seq l ds =>
      obtain ⟨a, xs, rfl, ha, hl, _⟩ := h1
      obtain ⟨v, hv, hd⟩ := atI_rel (R := fun d v => At (hidS S H) d v) hl.length.symm (show atI ds i = some d from e) fun j a hj => hl.get hj
      cases l with
      | true => exact .inl ⟨a, xs, i, v, rfl, rfl, SqL.of (hidS_some ha).1, hv, q v H (Same.refl _) hd⟩
      | false => exact .inr (.inl ⟨a, xs, i, v, rfl, rfl, SqT.of (hidS_some ha).1, hv, q v H (Same.refl _) hd⟩)
    | str z =>
      cases (show x = .str z from h1)
      have e : (if z.length ≤ 16000000 then (atI z.cps.toList i).map fun c => D.str ⟨#[c]⟩ else none) = some d := e
      by_cases c : z.length ≤ 16000000
      · rw [if_pos c] at e
        obtain ⟨c', e1, rfl⟩ := map_some' e
        exact .inr (.inr ⟨z, i, c', rfl, rfl, sz_small c, e1, q _ H (Same.refl _) rfl⟩)
      · rw [if_neg c] at e
        cases e
    | _ => cases e
  | _ => cases dx <;> (cases e; done)
theorem ed_ix {O : List Nat} {a b : Expr} {ta tb : TE} {ma mb : M} {pos : Pos} (ha : ED X O a ta ma) (hb : ED X O b tb mb) (hs : PlainIx b) : ED X O (.Subscript a b pos) (tOp (rIx X.K) ta tb) (mOp atD ma mb) := ⟨pe_ix ix_seq ha.pe hb.pe hs, rd_op ro_ix ha.rd hb.rd⟩
/-! ### built-ins -/
def lenD : List D → Option D
  | [.seq _ xs] => some (.int xs.length)
  | [.str z] => if z.length ≤ 16000000 then some (.int z.length) else none
  | _ => none
theorem CallR.or {f : Value} {r r' : List V → Hp → VK → Prop} (h : CallR X f r) (h' : CallR X f r') : CallR X f (fun xs H Q => r xs H Q ∨ r' xs H Q) := fun pins s σ H xs us Q I v q => q.elim (h pins s σ H xs us Q I v) (h' pins s σ H xs us Q I v)
def rLenA (K : PySem.W.Frag) : List V → Hp → VK → Prop := fun xs H Q => (∃ p ys, xs = [.ref p] ∧ Sq K H p ys ∧ Q (.int ys.length) H) ∨ ∃ z, xs = [.str z] ∧ z.length ≤ sizeLine ∧ Q (.int z.length) H
theorem call_lenA : CallR X (.builtin "len") (rLenA X.K) := CallR.or call_lenS call_len_str
theorem atL_one {H : Hp} {d : D} {xs : List V} (h : AtL H [d] xs) : ∃ x, xs = [x] ∧ At H d x := by
  obtain ⟨x, ys, rfl, h1, h2⟩ := h
  cases (show ys = [] from h2)
  exact ⟨x, rfl, h1⟩
theorem atL_two {H : Hp} {d e : D} {xs : List V} (h : AtL H [d, e] xs) : ∃ x y, xs = [x, y] ∧ At H d x ∧ At H e y := by
  obtain ⟨x, ys, rfl, h1, h2⟩ := h
  obtain ⟨y, rfl, h3⟩ := atL_one h2
  exact ⟨x, y, rfl, h1, h3⟩
theorem ro_len {K : PySem.W.Frag} : RoL (rLenA K) lenD := by
  intro S H xs ds d Q hS h e q
  match ds, h, e with
  | [.seq l es], h, e =>
    obtain ⟨x, rfl, a, ys, rfl, ha, hl, _⟩ := atL_one h
    cases e
    exact .inl ⟨a, ys, rfl, sq_of (hidS_some ha).1, by rw [hl.length]; exact q _ H (Same.refl _) rfl⟩
  | [.str z], h, e =>
    obtain ⟨x, rfl, hx⟩ := atL_one h
    cases (show x = .str z from hx)
    have e : (if z.length ≤ 16000000 then some (D.int z.length) else none) = some d := e
    by_cases c : z.length ≤ 16000000
    · rw [if_pos c] at e
      cases e
      exact .inr ⟨z, rfl, sz_small c, q _ H (Same.refl _) rfl⟩
    · rw [if_neg c] at e
      cases e
  | [], _, e => cases e
  | [.non], _, e => cases e
  | [.bl _], _, e => cases e
  | [.int _], _, e => cases e
  | a :: b :: r, _, e => cases a <;> (cases e; done)
def intD : List D → Option D
  | [.int i] => some (.int i)
  | [.bl b] => some (.int (if b then 1 else 0))
  | _ => none
theorem ro_int : RoL (fun xs H Q => (∃ i, xs = [.int i] ∧ Q (.int i) H) ∨ ∃ k, xs = [.bl k] ∧ Q (.int (if k then 1 else 0)) H) intD := by
  intro S H xs ds d Q hS h e q
  match ds, h, e with
  | [.int i], h, e =>
    obtain ⟨x, rfl, hx⟩ := atL_one h
    cases (show x = .int i from hx)
    cases e
    exact .inl ⟨i, rfl, q _ H (Same.refl _) rfl⟩
  | [.bl i], h, e =>
    obtain ⟨x, rfl, hx⟩ := atL_one h
    cases (show x = .bl i from hx)
    cases e
    exact .inr ⟨i, rfl, q _ H (Same.refl _) rfl⟩
  | [], _, e => cases e
  | [.non], _, e => cases e
  | [.str _], _, e => cases e
  | [.seq _ _], _, e => cases e
  | a :: b :: r, _, e => cases a <;> (cases e; done)
/-- list(x), tuple(x): of a sequence of data -/
def seqOfD (l : Bool) : List D → Option D
  | [.seq _ xs] => some (.seq l xs)
  | _ => none
theorem ro_tuple {K : PySem.W.Frag} : RoL (fun xs H Q => ∃ p ys, xs = [V.ref p] ∧ ((SqL K H p ys ∧ ∀ l, H l = none → Q (V.ref l) (upd H l (HO.tup ys))) ∨ SqT K H p ys ∧ Q (V.ref p) H)) (seqOfD false) := by
  intro S H xs ds d Q hS h e q
  match ds, h, e with
  | [.seq l es], h, e =>
    obtain ⟨x, rfl, a, ys, rfl, ha, hl, hz⟩ := atL_one h
    cases e
    refine ⟨a, ys, rfl, ?_⟩
    cases l with
    | true => exact .inl ⟨SqL.of (hidS_some ha).1, fun p hp => q _ _ (Same.new hp) (seq_new (l := false) hS hp hl hz)⟩
    | false => exact .inr ⟨SqT.of (hidS_some ha).1, q _ _ (Same.refl _) ⟨a, ys, rfl, ha, hl, hz⟩⟩
  | [], _, e => cases e
  | [.non], _, e => cases e
  | [.bl _], _, e => cases e
  | [.int _], _, e => cases e
  | [.str _], _, e => cases e
  | a :: b :: r, _, e => cases a <;> (cases e; done)
theorem ro_list : RoL (fun vs H Q => ∃ (l : Bool) (a : Addr) (xs : List V), vs = [.ref a] ∧ H a = some (seqO l xs) ∧ ∀ p, H p = none → Q (.ref p) (upd H p (.lst xs))) (seqOfD true) := by
  intro S H xs ds d Q hS h e q
  match ds, h, e with
  | [.seq l es], h, e =>
    obtain ⟨x, rfl, a, ys, rfl, ha, hl, hz⟩ := atL_one h
    cases e
    exact ⟨l, a, ys, rfl, (hidS_some ha).1, fun p hp => q _ _ (Same.new hp) (seq_new (l := true) hS hp hl hz)⟩
  | [], _, e => cases e
  | [.non], _, e => cases e
  | [.bl _], _, e => cases e
  | [.int _], _, e => cases e
  | [.str _], _, e => cases e
  | a :: b :: r, _, e => cases a <;> (cases e; done)
/-- sep.join(list of texts) -/
def strsD : List D → Option (List Str)
  | [] => some []
  | .str z :: r => (strsD r).map (z :: ·)
  | _ :: _ => none
def joinD : D → D → Option D
  | .str a, .seq _ xs => (strsD xs).bind fun ys => if (ys.map (·.length)).sum + ys.length * a.length ≤ 16000000 then some (.str (Txt.join a ys)) else none
  | _, _ => none
theorem strs_at {H : Hp} : ∀ {ds : List D} {xs : List V} {ys : List Str}, AtL H ds xs → strsD ds = some ys → xs = ys.map V.str
  | [], xs, ys, h, e => by
    cases (show xs = [] from h)
    cases e
    rfl
  | d :: ds, xs, ys, h, e => by
    obtain ⟨x, zs, rfl, h1, h2⟩ := h
    cases d with
    | str z =>
      obtain ⟨ws, e1, rfl⟩ := map_some' (show (strsD ds).map (z :: ·) = some ys from e)
      cases (show x = .str z from h1)
      rw [strs_at h2 e1]
      rfl
    | _ => cases e
def rJoin (K : PySem.W.Frag) : V → List V → Hp → VK → Prop := fun x xs H Q => ∃ a p, ∃ ys : List Str, x = .str a ∧ xs = [.ref p] ∧ (SqL K H p (ys.map V.str) ∨ SqT K H p (ys.map V.str)) ∧ (ys.map (·.length)).sum + ys.length * a.length ≤ 16777216 ∧ Q (.str (Txt.join a ys)) H
theorem rd_join {K : PySem.W.Frag} {O : List Nat} {to te : TE} {mo m : M} (ho : Rde O to mo) (he : Rde O te m) : Rde O (tM1 (rJoin K) to te) (mOp joinD mo m) := by
  refine ⟨fun f A H σ δ d δ' Q hA R hm q => ?_⟩
  obtain ⟨⟨dx, δ1⟩, e1, hm⟩ := bind_some hm
  obtain ⟨⟨dy, δ2⟩, e2, hm⟩ := bind_some hm
  obtain ⟨d', e3, hm⟩ := map_some' hm
  cases hm
  have e3 : joinD dx dy = some d := e3
  clear hm
  refine ho.run f A H σ δ dx δ1 _ hA R e1 fun x H1 R1 s1 h1 => ?_
  match dx, dy, h1, e2, e3 with
  | .str a, .seq l ds, h1, e2, e3 =>
    obtain ⟨ys, e4, e5⟩ := bind_some (show ((strsD ds).bind fun ys => if (ys.map (·.length)).sum + ys.length * a.length ≤ 16000000 then some (D.str (Txt.join a ys)) else none) = some d from e3)
    cases (show x = .str a from h1)
    refine ⟨⟨a, rfl⟩, he.run f A H1 σ δ1 _ δ2 _ hA R1 e2 fun y H2 R2 s2 h2 => ?_⟩
    by_cases c : (ys.map (·.length)).sum + ys.length * a.length ≤ 16000000
    · rw [if_pos c] at e5
      cases e5
      obtain ⟨p, xs, rfl, hp, hl, _⟩ := h2
      have ex := strs_at hl e4
      subst ex
      refine ⟨a, p, ys, rfl, rfl, ?_, by omega, q _ H2 R2 (s1.trans s2) rfl⟩
      cases l with
      | true => exact .inl (SqL.of (hidS_some hp).1)
      | false => exact .inr (SqT.of (hidS_some hp).1)
    · rw [if_neg c] at e5
      cases e5
  | .non, dy, _, _, e3 => cases dy <;> (cases e3; done)
  | .bl _, dy, _, _, e3 => cases dy <;> (cases e3; done)
  | .int _, dy, _, _, e3 => cases dy <;> (cases e3; done)
  | .seq _ _, dy, _, _, e3 => cases dy <;> (cases e3; done)
  | .str _, .non, _, _, e3 => cases e3
  | .str _, .bl _, _, _, e3 => cases e3
  | .str _, .int _, _, _, e3 => cases e3
  | .str _, .str _, _, _, e3 => cases e3
theorem ed_join {O : List Nat} {o e : Expr} {to te : TE} {mo m : M} {pos apos : Pos} (ho : ED X O o to mo) (he : ED X O e te m) (hs : starEach [e] X.env = [(false, eval e X.env)] := by rfl) (hbase : attributeBase o "join" X.env (eval o X.env) = eval o X.env := by rfl) (hline : (apos.endLine == pos.line) = true := by rfl) :
    ED X O (.Call (.Attribute o "join" apos) [e] [] pos) (tM1 (rJoin X.K) to te) (mOp joinD mo m) := ⟨pe_join ho.pe he.pe hs hbase hline, rd_join ho.rd he.rd⟩
end
end Kd
set_option Elab.async false
set_option linter.all false
set_option maxRecDepth 100000
set_option maxHeartbeats 4000000
namespace Kd
open PySem PySem.Spec PyProof.Rows L2 Kw
inductive Fl where
  | nx (δ : DE)
  | rt (d : D) (δ : DE)
  | bk (δ : DE)
  | ct (δ : DE)
abbrev MS := DE → Option Fl
/-- at a return -/
structure Rt (f : Fr) (H : Hp) (d : D) (v : V) (δ : DE) : Prop where
  tq : ∀ x ∈ f.T, H x = f.H0 x ∧ f.H0 x ≠ none
  sm : Same (hidS (SA f f.I) f.H0) (hidS (SA f f.I) H)
  io : ∀ p ∈ f.I, ∃ ds xs, δ[p.1]? = some (some (.seq true ds)) ∧ H p.2 = some (.lst xs) ∧ AtL (hidS (SA f f.I) H) ds xs ∧ ds.length ≤ 16000000
  vd : At (hidS (SA f f.I) H) d v
def Post (f : Fr) (O' OL : List Nat) (E : Ends) : Fl → Prop
  | .nx δ' => ∀ (A' : Own) (H' : Hp) (σ' : L2.St), A'.map (·.1) = O' → Rl f A' H' σ' δ' → E.nx σ' H'
  | .rt d δ' => ∀ (v : V) (H' : Hp), Rt f H' d v δ' → E.rt v H'
  | .bk δ' => ∀ (A' : Own) (H' : Hp) (σ' : L2.St), A'.map (·.1) = OL → Rl f A' H' σ' δ' → E.bk σ' H'
  | .ct δ' => ∀ (A' : Own) (H' : Hp) (σ' : L2.St), A'.map (·.1) = OL → Rl f A' H' σ' δ' → E.ct σ' H'
structure Rds (IO OL O : List Nat) (t : TS) (m : MS) (O' : List Nat) : Prop where
  run : ∀ (f : Fr) (A : Own) (H : Hp) (σ : L2.St) (δ : DE) (r : Fl) (E : Ends), f.I.map (·.1) = IO → A.map (·.1) = O → Rl f A H σ δ → m δ = some r → Post f O' OL E r → t E σ H
structure SD (X : Cx) (IO OL O : List Nat) (st : Stmt) (t : TS) (m : MS) (O' : List Nat) : Prop where
  pe : PS X st t
  rd : Rds IO OL O t m O'
structure SSD (X : Cx) (IO OL O : List Nat) (st : List Stmt) (t : TS) (m : MS) (O' : List Nat) : Prop where
  pe : PSs X st t
  rd : Rds IO OL O t m O'
def sSeq (a b : MS) : MS := fun δ => (a δ).bind fun r => match r with
  | .nx δ' => b δ'
  | .rt d δ' => some (.rt d δ')
  | .bk δ' => some (.bk δ')
  | .ct δ' => some (.ct δ')
def sNext : MS := fun δ => some (.nx δ)
def sBk : MS := fun δ => some (.bk δ)
def sCt : MS := fun δ => some (.ct δ)
def sDrop (m : M) : MS := fun δ => (m δ).map fun p => .nx p.2
def sRet (m : M) : MS := fun δ => (m δ).map fun p => .rt p.1 p.2
def sRetN : MS := fun δ => some (.rt .non δ)
def sIf (c : MT) (a b : MS) : MS := fun δ => (c δ).bind fun p => if p.1 = true then a p.2 else b p.2
def sSet (i : Nat) (m : M) : MS := fun δ => (m δ).map fun p => .nx (p.2.set i (some p.1))
def sAug (i : Nat) (g : D → D → Option D) (m : M) : MS := fun δ => (mVar i δ).bind fun p => (m δ).bind fun q => (g p.1 q.1).map fun d => .nx (q.2.set i (some d))
theorem Rl.rt {f : Fr} {A : Own} {H : Hp} {σ : L2.St} {δ : DE} (R : Rl f A H σ δ) {d : D} {v : V} (h : At (hidS (SA f A) H) d v) : Rt f H d v δ := by
  have s : Same (hidS (SA f A) H) (hidS (SA f f.I) H) := same_hid_sub R.ssub
  refine ⟨R.tq, R.sm, fun p hp => ?_, At.same s _ _ h⟩
  obtain ⟨ds, xs, e1, _, e3, e4, e5⟩ := R.own p (R.sub p hp)
  exact ⟨ds, xs, e1, e3, AtL.same s _ _ e4, e5⟩
section
variable {X : Cx} {IO OL O O' O'' : List Nat} {e a b c : Expr} {ta tb te : TE} {tA tB : TT} {ma mb m : M} {mt mA mB : MT} {pos : Pos} {st : Stmt} {rest : List Stmt} {t u : TS} {ms mu : MS}
theorem rs_next : Rds IO OL O tNext sNext O := ⟨fun f A H σ δ r E hI hA R hm P => by
  cases hm
  exact P A H σ hA R⟩
theorem ssd_nil : SSD X IO OL O [] tNext sNext O := ⟨pss_nil, rs_next⟩
theorem rs_seq (h1 : Rds IO OL O t ms O') (h2 : Rds IO OL O' u mu O'') : Rds IO OL O (tSeq t u) (sSeq ms mu) O'' := by
  refine ⟨fun f A H σ δ r E hI hA R hm P => ?_⟩
  obtain ⟨r1, e1, hm⟩ := bind_some hm
  refine h1.run f A H σ δ r1 _ hI hA R e1 ?_
  cases r1 with
  | nx δ' => exact fun A' H' σ' hA' R' => h2.run f A' H' σ' δ' r E hI hA' R' hm P
  | rt d δ' => cases hm; exact P
  | bk δ' => cases hm; exact P
  | ct δ' => cases hm; exact P
theorem ssd_cons (h1 : SD X IO OL O st t ms O') (h2 : SSD X IO OL O' rest u mu O'') : SSD X IO OL O (st :: rest) (tSeq t u) (sSeq ms mu) O'' := ⟨pss_cons h1.pe h2.pe, rs_seq h1.rd h2.rd⟩
theorem ssd_one (h1 : SD X IO OL O st t ms O') : SSD X IO OL O [st] (tSeq t tNext) (sSeq ms sNext) O' := ssd_cons h1 ssd_nil
/-- a list of one's own is frozen ahead of a block -/
theorem rs_fz {i : Nat} (hi : IO.contains i = false) (h : Rds IO OL (outN i O) t ms O') : Rds IO OL O t ms O' := by
  refine ⟨fun f A H σ δ r E hI hA R hm P => ?_⟩
  refine h.run f (outO i A) H σ δ r E hI (by rw [outO_fst, hA]) (R.freeze fun p hp z => ?_) hm P
  have : i ∈ IO := by rw [← hI]; exact List.mem_map.mpr ⟨p, hp, z⟩
  rw [List.contains_iff_mem.mpr this] at hi
  cases hi
theorem ssd_fz (i : Nat) (hi : IO.contains i = false) (h : SSD X IO OL (outN i O) rest t ms O') : SSD X IO OL O rest t ms O' := ⟨h.pe, rs_fz hi h.rd⟩
theorem sd_pass : SD X IO OL O (.Pass pos) tNext sNext O := ⟨ps_pass, rs_next⟩
theorem sd_break : SD X IO O O (.Break pos) tBreak sBk O' := ⟨ps_break, ⟨fun f A H σ δ r E hI hA R hm P => by
  cases hm
  exact P A H σ hA R⟩⟩
theorem sd_continue : SD X IO O O (.Continue pos) tCont sCt O' := ⟨ps_continue, ⟨fun f A H σ δ r E hI hA R hm P => by
  cases hm
  exact P A H σ hA R⟩⟩
theorem sd_expr (h : ED X O e te m) (hs : swapsWith e none pos.line X.env = pure false := by rfl) : SD X IO OL O (.Expr e pos) (tDrop te) (sDrop m) O := by
  refine ⟨ps_expr h.pe hs, ⟨fun f A H σ δ r E hI hA R hm P => ?_⟩⟩
  obtain ⟨⟨d, δ1⟩, e1, rfl⟩ := map_some' hm
  exact h.rd.run f A H σ δ d δ1 _ hA R e1 fun v H1 R1 s1 h1 => P A H1 σ hA R1
theorem sd_ret (h : ED X O e te m) : SD X IO OL O (.Return (some e) pos) (tRet te) (sRet m) O' := by
  refine ⟨ps_ret h.pe, ⟨fun f A H σ δ r E hI hA R hm P => ?_⟩⟩
  obtain ⟨⟨d, δ1⟩, e1, rfl⟩ := map_some' hm
  exact h.rd.run f A H σ δ d δ1 _ hA R e1 fun v H1 R1 s1 h1 => P v H1 (R1.rt h1)
theorem sd_retN : SD X IO OL O (.Return none pos) tRetN sRetN O' := by
  refine ⟨ps_retN, ⟨fun f A H σ δ r E hI hA R hm P => ?_⟩⟩
  cases hm
  exact P .non H (R.rt rfl)
theorem sd_if {c : Expr} {A B : List Stmt} (hc : TD X O c tA mA) (ha : SSD X IO OL O A t ms O') (hb : SSD X IO OL O B u mu O') : SD X IO OL O (.If c A B pos) (tIfS tA t u) (sIf mA ms mu) O' := by
  refine ⟨ps_if hc.pe ha.pe hb.pe, ⟨fun f A H σ δ r E hI hA R hm P => ?_⟩⟩
  obtain ⟨⟨k, δ1⟩, e1, hm⟩ := bind_some hm
  refine hc.rd.run f A H σ δ k δ1 _ hA R e1 fun H1 R1 s1 => ?_
  cases k with
  | true => exact iteT (ha.rd.run f A H1 σ δ1 r E hI hA R1 hm P)
  | false => exact iteF (hb.rd.run f A H1 σ δ1 r E hI hA R1 hm P)
theorem noO {i : Nat} {A : Own} (hA : A.map (·.1) = O) (hO : O.contains i = false) : i ∉ A.map (·.1) := by
  rw [hA]
  intro z
  rw [List.contains_iff_mem.mpr z] at hO
  cases hO
theorem rs_set {i : Nat} (h : Rde O te m) (hO : O.contains i = false) : Rds IO OL O (tAsg te (gName i)) (sSet i m) O := by
  refine ⟨fun f A H σ δ r E hI hA R hm P => ?_⟩
  obtain ⟨⟨d, δ1⟩, e1, rfl⟩ := map_some' hm
  exact h.run f A H σ δ d δ1 _ hA R e1 fun v H1 R1 s1 h1 => P A H1 _ hA (R1.setD (noO hA hO) h1)
theorem sd_set {i : Nat} {x : Str} {pos' : Pos} (hN : X.N.Nodup) (hi : X.N[i]? = some x) (hx : Loc X.env.scope x) (h : ED X O e te m) (hO : O.contains i = false := by rfl) (hs : swapsWith e (some (.Name x pos')) pos.line X.env = pure false := by rfl) (hf : X.fn x = true ∨ X.env.scope.names.lookup x = some .local := by first | exact .inl rfl | exact .inr rfl | assumption) :
    SD X IO OL O (.Assign [.Name x pos'] e pos) (tAsg te (gName i)) (sSet i m) O := ⟨ps_set hN hi hx h.pe hs hf, rs_set h.rd hO⟩
theorem sd_aug {i : Nat} {x : Str} {op : Operator} {ti : TIp} {g : D → D → Option D} {pos' : Pos} (hN : X.N.Nodup) (hi : X.N[i]? = some x) (hx : Loc X.env.scope x) (h : ED X O e te m) (ho : PIp X op ti) (hr : Ro2 ti g) (hO : O.contains i = false := by rfl) (hf : X.fn x = true ∨ X.env.scope.names.lookup x = some .local := by first | exact .inl rfl | exact .inr rfl | assumption) :
    SD X IO OL O (.AugAssign (.Name x pos') op e pos) (tAug i te ti) (sAug i g m) O := by
  refine ⟨ps_aug hN hi hx h.pe ho hf, ⟨fun f A H σ δ r E hI hA R hm P => ?_⟩⟩
  obtain ⟨⟨d0, δ0⟩, e0, hm⟩ := bind_some hm
  obtain ⟨⟨d, δ1⟩, e1, hm⟩ := bind_some hm
  obtain ⟨d2, e2, rfl⟩ := map_some' hm
  have hv : δ[i]? = some (some d0) := by
    unfold mVar at e0
    split at e0
    · rename_i d' e
      cases e0
      exact e
    · cases e0
  obtain ⟨v0, q0, a0⟩ := R.dat i d0 hv (noO hA hO)
  refine ⟨v0, q0, h.rd.run f A H σ δ d δ1 _ hA R e1 fun v H1 R1 s1 h1 => ?_⟩
  exact hr (SA f A) H1 v0 v d0 d d2 _ R1.alive (At.up s1 a0) h1 e2 fun z H2 s2 h2 => P A H2 _ hA ((R1.grow s2).setD (noO hA hO) h2)
theorem ro_ipadd : Ro2 (ipI fun i j => i + j) (fun x y => match x, y with | .int i, .int j => some (.int (i + j)) | _, _ => none) := by
  intro S H x y dx dy d Q hS h1 h2 e q
  cases dx <;> cases dy <;> first | (cases e; done) | skip
  rename_i i j
  cases (show x = .int i from h1)
  cases (show y = .int j from h2)
  cases e
  exact ⟨i, j, rfl, rfl, q _ _ (Same.refl _) rfl⟩
theorem ro_ipsub : Ro2 (ipI fun i j => i - j) subD := by
  intro S H x y dx dy d Q hS h1 h2 e q
  cases dx <;> cases dy <;> first | (cases e; done) | skip
  rename_i i j
  cases (show x = .int i from h1)
  cases (show y = .int j from h2)
  cases e
  exact ⟨i, j, rfl, rfl, q _ _ (Same.refl _) rfl⟩
/-! ### lists of one's own -/
/-- an expression that makes a new list -/
structure Rdf (O : List Nat) (t : TE) (m : M) : Prop where
  run : ∀ (f : Fr) (A : Own) (H : Hp) (σ : L2.St) (δ : DE) (d : D) (δ' : DE) (Q : VK), A.map (·.1) = O → Rl f A H σ δ → m δ = some (d, δ') →
    (∀ ds p xs H1, d = .seq true ds → Rl f A H1 σ δ' → Same (hidS (SA f A) H) (hidS (SA f A) H1) → H1 p = none → AtL (hidS (SA f A) H1) ds xs → ds.length ≤ 16000000 → Q (.ref p) (upd H1 p (.lst xs))) → t σ H Q
structure FD (X : Cx) (O : List Nat) (e : Expr) (t : TE) (m : M) : Prop where
  pe : PE X e t
  rd : Rdf O t m
theorem fd_lst {es : List Expr} {tt : TA} {mas : MA} (h : AD X O es tt mas) : FD X O (.List es pos) (tLst tt) (mSeq true mas) := by
  refine ⟨pe_lst h.pe, ⟨fun f A H σ δ d δ' Q hA R hm q => ?_⟩⟩
  obtain ⟨⟨ds, δ1⟩, e1, hm⟩ := bind_some hm
  by_cases c : ds.length ≤ 16000000
  · rw [if_pos c] at hm
    cases hm
    exact h.rd.run f A H σ δ ds _ _ hA R e1 fun xs H1 R1 s1 h1 => ⟨sz_small (by rw [h1.length]; exact c), fun p hp => q ds p xs H1 rfl R1 s1 hp h1 c⟩
  · rw [if_neg c] at hm
    cases hm
def sSetO (i : Nat) (m : M) : MS := fun δ => (m δ).bind fun p => if i < p.2.length then some (.nx (p.2.set i (some p.1))) else none
theorem rs_setO {i : Nat} (h : Rdf O te m) (hI' : IO.contains i = false) : Rds IO OL O (tAsg te (gName i)) (sSetO i m) (i :: outN i O) := by
  refine ⟨fun f A H σ δ r E hI hA R hm P => ?_⟩
  obtain ⟨⟨d, δ1⟩, e1, hm⟩ := bind_some hm
  by_cases c : i < δ1.length
  · rw [if_pos c] at hm
    cases hm
    refine h.run f A H σ δ d δ1 _ hA R e1 fun ds p xs H1 ed R1 s1 hp h1 hz => ?_
    subst ed
    have R2 : Rl f (outO i A) H1 σ δ1 := R1.freeze fun p hp z => by
      have : i ∈ IO := by rw [← hI]; exact List.mem_map.mpr ⟨p, hp, z⟩
      rw [List.contains_iff_mem.mpr this] at hI'
      cases hI'
    have sb : ∀ x ∈ SA f (outO i A), x ∈ SA f A := fun x hx => by
      rcases mem_SA.mp hx with h | ⟨p, hp, e⟩
      · exact mem_SA.mpr (.inl h)
      · exact mem_SA.mpr (.inr ⟨p, (outO_mem.mp hp).1, e⟩)
    refine P ((i, p) :: outO i A) _ _ (by rw [List.map_cons, outO_fst, hA]) (R2.newL (fun z => ?_) c hp (AtL.same (same_hid_sub sb) _ _ h1) hz)
    rw [outO_fst] at z
    have := (List.mem_filter.mp z).2
    simp at this
  · rw [if_neg c] at hm
    cases hm
theorem sd_setO {i : Nat} {x : Str} {pos' : Pos} (hN : X.N.Nodup) (hi : X.N[i]? = some x) (hx : Loc X.env.scope x) (h : FD X O e te m) (hO : IO.contains i = false := by rfl) (hs : swapsWith e (some (.Name x pos')) pos.line X.env = pure false := by rfl) (hf : X.fn x = true ∨ X.env.scope.names.lookup x = some .local := by first | exact .inl rfl | exact .inr rfl | assumption) :
    SD X IO OL O (.Assign [.Name x pos'] e pos) (tAsg te (gName i)) (sSetO i m) (i :: outN i O) := ⟨ps_set hN hi hx h.pe hs hf, rs_setO h.rd hO⟩
/-- an own list at its slot -/
theorem own_at {f : Fr} {A : Own} {H : Hp} {σ : L2.St} {δ : DE} (R : Rl f A H σ δ) (hA : A.map (·.1) = O) {i : Nat} (hi : O.contains i = true) : ∃ a, (i, a) ∈ A ∧ ∃ ds xs, δ[i]? = some (some (.seq true ds)) ∧ σ[i]? = some (some (.ref a)) ∧ H a = some (.lst xs) ∧ AtL (hidS (SA f A) H) ds xs ∧ ds.length ≤ 16000000 := by
  have := List.contains_iff_mem.mp hi
  rw [← hA] at this
  obtain ⟨p, hp, rfl⟩ := List.mem_map.mp this
  obtain ⟨i, a⟩ := p
  exact ⟨a, hp, R.own _ hp⟩
def lstAt (δ : DE) (i : Nat) : Option (List D) := match δ[i]? with
  | some (some (.seq true ds)) => some ds
  | _ => none
def intOf : D → Option Int
  | .int i => some i
  | _ => none
theorem lstAt_of {δ : DE} {i : Nat} {ds : List D} (h : δ[i]? = some (some (.seq true ds))) : lstAt δ i = some ds := by
  unfold lstAt
  rw [h]
theorem intOf_some {d : D} {i : Int} (h : intOf d = some i) : d = .int i := by
  cases d <;> cases h
  rfl
/-- own[i] -/
def mIxO (i : Nat) (b : M) : M := fun δ => (b δ).bind fun q => (lstAt q.2 i).bind fun ds => (atD (.seq true ds) q.1).map fun r => (r, q.2)
theorem ed_ixO {i : Nat} {x : Str} {p : Pos} (hb : ED X O b tb mb) (hs : PlainIx b) (hO : O.contains i = true := by rfl) (hN : X.N[i]? = some x := by rfl) (hv : Vis X.env.scope x := by first | exact Or.inl rfl | exact Or.inr (Or.inl rfl) | exact Or.inr (Or.inr rfl)) (h1 : (x == Str.ofString "__debug__") = false := by decide) (h2 : (x == Str.ofString "__classdict__") = false := by decide) :
    ED X O (.Subscript (.Name x p) b pos) (tOp (rIx X.K) (tVar i) tb) (mIxO i mb) := by
  refine ⟨pe_ix ix_seq (pe_var hN hv h1 h2) hb.pe hs, ⟨fun f A H σ δ d δ' Q hA R hm q => ?_⟩⟩
  obtain ⟨⟨dy, δ1⟩, e1, hm⟩ := bind_some hm
  obtain ⟨a0, ha0, _, _, _, es, _⟩ := own_at R hA hO
  refine ⟨.ref a0, es, hb.rd.run f A H σ δ dy δ1 _ hA R e1 fun y H1 R1 s1 h1 => ?_⟩
  obtain ⟨ds, xs, e2, e3, e4, e5, e6⟩ := R1.own _ ha0
  rw [show lstAt (dy, δ1).2 i = some ds from lstAt_of e2] at hm
  obtain ⟨d', e7, hm⟩ := map_some' hm
  cases hm
  cases dy with
  | int k =>
    cases (show y = .int k from h1)
    obtain ⟨v, hv, hd⟩ := atI_rel (R := fun d v => At (hidS (SA f A) H1) d v) e5.length.symm (show atI ds k = some d from e7) fun j a hj => e5.get hj
    exact .inl ⟨a0, xs, k, v, rfl, rfl, SqL.of e4, hv, q v H1 R1 s1 hd⟩
  | _ => cases e7
/-- len(own) -/
def mLenO (i : Nat) : M := fun δ => (lstAt δ i).map fun ds => (.int ds.length, δ)
theorem ed_lenO {i : Nat} {x : Str} {p p2 : Pos} (hg : Gl X "len") (hm : X.mg "len" = none) (hO : O.contains i = true := by rfl) (hN : X.N[i]? = some x := by rfl) (hv : Vis X.env.scope x := by first | exact Or.inl rfl | exact Or.inr (Or.inl rfl) | exact Or.inr (Or.inr rfl)) (h1 : (x == Str.ofString "__debug__") = false := by decide) (h2 : (x == Str.ofString "__classdict__") = false := by decide)
    (he : starEach [.Name x p2] X.env = (false, eval (.Name x p2) X.env) :: starEach [] X.env := by rfl) (hpl : (backTo pos (starEach ([] : List Expr) X.env)).any (·.1) = false := by rfl) :
    ED X O (.Call (.Name "len" p) [.Name x p2] [] pos) (tCB (rLenA X.K) (tCons (tVar i) tNil)) (mLenO i) := by
  refine ⟨pe_callB call_lenA hg hm (by decide +kernel) (pa_cons (pe_var hN hv h1 h2) pa_nil he) (by decide) (by decide) he hpl, ⟨fun f A H σ δ d δ' Q hA R hm q => ?_⟩⟩
  obtain ⟨a0, ha0, ds, xs, e2, es, e4, e5, e6⟩ := own_at R hA hO
  unfold mLenO at hm
  rw [lstAt_of e2] at hm
  cases hm
  exact ⟨.ref a0, es, .inl ⟨a0, xs, rfl, .inl (SqL.of e4), by rw [e5.length]; exact q _ H R (Same.refl _) rfl⟩⟩
/-- own[i] = e -/
def sSubO (i : Nat) (m k : M) : MS := fun δ => (m δ).bind fun p => (k p.2).bind fun q => (intOf q.1).bind fun j => (lstAt q.2 i).bind fun ds => (ixN ds.length j).map fun n => .nx (q.2.set i (some (.seq true (ds.set n p.1))))
theorem AtL.set {H : Hp} {ds : List D} {xs : List V} {d : D} {v : V} (h : AtL H ds xs) (hd : At H d v) (n : Nat) : AtL H (ds.set n d) (xs.set n v) := by
  refine AtL.of (by rw [List.length_set, List.length_set]; exact h.length) fun i e u h1 h2 => ?_
  by_cases c : n = i
  · subst c
    have l1 : n < ds.length := by have := (List.getElem?_eq_some_iff.mp h1).1; rwa [List.length_set] at this
    have l2 : n < xs.length := by have := (List.getElem?_eq_some_iff.mp h2).1; rwa [List.length_set] at this
    rw [List.getElem?_set_self l1] at h1
    rw [List.getElem?_set_self l2] at h2
    cases h1
    cases h2
    exact hd
  · rw [List.getElem?_set_ne c] at h1 h2
    obtain ⟨w, hw, ha⟩ := h.get h1
    rw [hw] at h2
    cases h2
    exact ha
theorem sd_subO {i : Nat} {x : Str} {k : Expr} {tk : TE} {mk : M} {p ps : Pos} (h : ED X O e te m) (hk : ED X O k tk mk) (hO : O.contains i = true := by rfl) (hN : X.N[i]? = some x := by rfl) (hv : Vis X.env.scope x := by first | exact Or.inl rfl | exact Or.inr (Or.inl rfl) | exact Or.inr (Or.inr rfl)) (h1 : (x == Str.ofString "__debug__") = false := by decide) (h2 : (x == Str.ofString "__classdict__") = false := by decide)
    (ha : ∀ v, assign (.Subscript (.Name x p) k ps) X.env v = (do
      let ov ← holding [v] (eval (.Name x p) X.env)
      let iv ← holding [v, ov] (eval k X.env)
      standAt ps
      holding [v, ov, iv] (setItem ov iv v)
      release [v, ov, iv] []) := by intro _; rfl)
    (hs : swapsWithSole [.Subscript (.Name x p) k ps] e pos.line X.env = pure false := by rfl) (hw : swappedStores [.Subscript (.Name x p) k ps] e X.env = pure none := by rfl)
    (h3 : (assignEach [.Subscript (.Name x p) k ps] X.env).map (·.2) = [assign (.Subscript (.Name x p) k ps) X.env] := by rfl) :
    SD X IO OL O (.Assign [.Subscript (.Name x p) k ps] e pos) (tAsg te (gSub (tVar i) tk rSetL)) (sSubO i m mk) O := by
  refine ⟨ps_asg h.pe (pg_sub (pe_var hN hv h1 h2) hk.pe set_list ha) hs hw h3, ⟨fun f A H σ δ r E hI hA R hm P => ?_⟩⟩
  obtain ⟨⟨d, δ1⟩, e1, hm⟩ := bind_some hm
  obtain ⟨⟨dk, δ2⟩, e2, hm⟩ := bind_some hm
  obtain ⟨a0, ha0, _, _, _, es, _⟩ := own_at R hA hO
  refine h.rd.run f A H σ δ d δ1 _ hA R e1 fun v H1 R1 s1 hd1 => ⟨.ref a0, es, ?_⟩
  refine hk.rd.run f A H1 σ δ1 dk δ2 _ hA R1 e2 fun y H2 R2 s2 hk2 => ?_
  obtain ⟨ds, xs, q1, q2, q3, q4, q5⟩ := R2.own _ ha0
  obtain ⟨j, ej, hm⟩ := bind_some hm
  cases (show dk = .int j from intOf_some ej)
  rw [show lstAt (D.int j, δ2).2 i = some ds from lstAt_of q1] at hm
  obtain ⟨n, en, rfl⟩ := map_some' hm
  cases (show y = .int j from hk2)
  refine ⟨a0, xs, j, n, rfl, rfl, q3, by rw [q4.length]; exact en, ?_⟩
  exact P A _ σ hA (R2.write (p := (i, a0)) ha0 (AtL.set q4 (At.up s2 hd1) n) (by rw [List.length_set]; exact q5))
/-- own[i] += e -/
def sAugO (i : Nat) (g : D → D → Option D) (k m : M) : MS := fun δ => (k δ).bind fun p => (intOf p.1).bind fun j => (lstAt p.2 i).bind fun ds => if 0 ≤ j ∧ j < (ds.length : Int) then
  (ds[j.toNat]?).bind fun old => (m p.2).bind fun q => (g old q.1).bind fun new => (lstAt q.2 i).bind fun es => (ixN es.length j).map fun n => .nx (q.2.set i (some (.seq true (es.set n new)))) else none
theorem sd_augO {i : Nat} {x : Str} {k : Expr} {tk : TE} {mk : M} {op : Operator} {ti : TIp} {g : D → D → Option D} {p ps : Pos} (hk : ED X O k tk mk) (h : ED X O e te m) (ho : PIp X op ti) (hr : Ro2 ti g) (hO : O.contains i = true := by rfl) (hN : X.N[i]? = some x := by rfl) (hv : Vis X.env.scope x := by first | exact Or.inl rfl | exact Or.inr (Or.inl rfl) | exact Or.inr (Or.inr rfl)) (h1 : (x == Str.ofString "__debug__") = false := by decide) (h2 : (x == Str.ofString "__classdict__") = false := by decide)
    (ha : ∀ ov iv new, augStore k ov iv new = (do holding [new, ov, iv] (setItem ov iv new); release [new, ov, iv] []; pure .next) := by intros; rfl) :
    SD X IO OL O (.AugAssign (.Subscript (.Name x p) k ps) op e pos) (tAugS (tVar i) tk te (fun x y H Q => ∃ p xs i, x = .ref p ∧ y = .int i ∧ SqL X.K H p xs ∧ 0 ≤ i ∧ i < xs.length ∧ ∀ v, xs[i.toNat]? = some v → Q v H) ti rSetL) (sAugO i g mk m) O := by
  refine ⟨ps_augS (pe_var hN hv h1 h2) hk.pe get_listA h.pe ho set_list ha, ⟨fun f A H σ δ r E hI hA R hm P => ?_⟩⟩
  obtain ⟨⟨dk, δ1⟩, e1, hm⟩ := bind_some hm
  obtain ⟨a0, ha0, _, _, _, es, _⟩ := own_at R hA hO
  refine ⟨.ref a0, es, hk.rd.run f A H σ δ dk δ1 _ hA R e1 fun y H1 R1 s1 hy => ?_⟩
  obtain ⟨ds, xs, q1, q2, q3, q4, q5⟩ := R1.own _ ha0
  obtain ⟨j, ej, hm⟩ := bind_some hm
  cases (show dk = .int j from intOf_some ej)
  rw [show lstAt (D.int j, δ1).2 i = some ds from lstAt_of q1] at hm
  replace hm := (show (if 0 ≤ j ∧ j < (ds.length : Int) then
    (ds[j.toNat]?).bind fun old => (m δ1).bind fun q => (g old q.1).bind fun new => (lstAt q.2 i).bind fun es => (ixN es.length j).map fun n => Fl.nx (q.2.set i (some (.seq true (es.set n new)))) else none) = some r from hm)
  by_cases c : 0 ≤ j ∧ j < ds.length
  · rw [if_pos c] at hm
    obtain ⟨old, eo, hm⟩ := bind_some hm
    obtain ⟨⟨d, δ2⟩, e2, hm⟩ := bind_some hm
    obtain ⟨new, en, hm⟩ := bind_some hm
    cases (show y = .int j from hy)
    refine ⟨a0, xs, j, rfl, rfl, SqL.of q3, c.1, by rw [q4.length]; exact c.2, fun v0 hv0 => ?_⟩
    obtain ⟨w, hw, hold⟩ := q4.get eo
    rw [hw] at hv0
    cases hv0
    refine h.rd.run f A H1 σ δ1 d δ2 _ hA R1 e2 fun v H2 R2 s2 hd => ?_
    refine hr (SA f A) H2 v0 v old d new _ R2.alive (At.up s2 hold) hd en fun z H3 s3 hz => ?_
    have R3 := R2.grow s3
    obtain ⟨es', ys, p1, p2, p3, p4, p5⟩ := R3.own _ ha0
    rw [show lstAt (d, δ2).2 i = some es' from lstAt_of p1] at hm
    obtain ⟨n, e8, rfl⟩ := map_some' hm
    exact ⟨a0, ys, j, n, rfl, rfl, p3, by rw [p4.length]; exact e8, P A _ σ hA (R3.write (p := (i, a0)) ha0 (AtL.set p4 hz n) (by rw [List.length_set]; exact p5))⟩
  · rw [if_neg c] at hm
    cases hm
end
end Kd
set_option Elab.async false
set_option linter.all false
set_option maxRecDepth 100000
set_option maxHeartbeats 4000000
namespace Kd
open PySem PySem.Spec PyProof.Rows L2 Kw
/-! ### what is walked -/
def Itk (S : List Addr) (J : It) (ds : List D) (H0 : Hp) : Prop := ∃ (G : Hp → Prop) (Y : Nat → Hp → V → Hp → Prop), L2.Walk J ds.length G Y ∧ (∀ H1, Same (hidS S H0) (hidS S H1) → G H1) ∧
  ∀ (i : Nat) (H1 : Hp) (x : V) (H2 : Hp), i < ds.length → Y i H1 x H2 → H2 = H1 ∧ ∃ d, ds[i]? = some d ∧ ∀ H3, Same (hidS S H0) (hidS S H3) → At (hidS S H3) d x
structure Rdi (O : List Nat) (wi : TI) (mi : MA) : Prop where
  run : ∀ (f : Fr) (A : Own) (H : Hp) (σ : L2.St) (δ : DE) (ds : List D) (δ' : DE) (R : It → Hp → Prop), A.map (·.1) = O → Rl f A H σ δ → mi δ = some (ds, δ') →
    (∀ J H', Rl f A H' σ δ' → Same (hidS (SA f A) H) (hidS (SA f A) H') → Itk (SA f A) J ds H' → ds.length ≤ 16000000 → R J H') → wi σ H R
structure ID (X : Cx) (O : List Nat) (tg e : Expr) (wi : TI) (mi : MA) : Prop where
  pe : PI X tg e wi
  rd : Rdi O wi mi
/-- any expression whose value is a list or a tuple -/
def iSqE (K : PySem.W.Frag) (te : TE) : TI := fun σ H R => te σ H fun x H1 => ∃ a, x = .ref a ∧ (((∃ xs, SqL K H1 a xs) ∧ R (Itl K a) H1) ∨ ((∃ xs, SqT K H1 a xs) ∧ R (Itt K a) H1))
theorem pi_sqE {X : Cx} {tg l : Expr} {tl : TE} (hl : PE X l tl) : PI X tg l (iSqE X.K tl) := by
  refine ⟨fun pins s σ H R I h => ?_⟩
  refine thn (hl.run pins s σ H _ I h) fun v s1 ⟨x, H1, I1, r1, q1⟩ => ?_
  obtain ⟨a, e, q⟩ := q1
  subst e
  cases r1
  rcases q with ⟨⟨xs, hq⟩, q⟩ | ⟨⟨xs, hq⟩, q⟩
  · obtain ⟨its, rv, p, hz⟩ := I1.list hq
    refine wpAny_pyIter_list p.isList ?_
    refine ⟨s1.heap.objs.size, [s1.heap.objs.size], _, _, H1, rfl, I1.kept (t' := s1.toks) fun b o e => Heap.get?_push_of_some _ e, turn_list a _, ⟨_, Heap.get?_push_size _ rfl, rfl, rfl⟩, fun b hb => ?_, q⟩
    have e : b = s1.heap.objs.size := by simpa using hb
    subst e
    exact I1.fpOk (Nat.le_refl _) (I1.hok.fresh (Nat.le_refl _))
  · obtain ⟨its, rv, p, hz⟩ := I1.tuple hq
    refine wpAny_pyIter_tuple (show s1.heap.IsTuple a its.toArray from p) ?_
    refine ⟨s1.heap.objs.size, [s1.heap.objs.size], _, _, H1, rfl, I1.kept (t' := s1.toks) fun b o e => Heap.get?_push_of_some _ e, turn_tuple a _, ⟨_, Heap.get?_push_size _ rfl, rfl, rfl⟩, fun b hb => ?_, q⟩
    have e : b = s1.heap.objs.size := by simpa using hb
    subst e
    exact I1.fpOk (Nat.le_refl _) (I1.hok.fresh (Nat.le_refl _))
def iSeq (m : M) : MA := fun δ => (m δ).bind fun p => match p.1 with
  | .seq _ xs => some (xs, p.2)
  | _ => none
theorem itk_seq {K : PySem.W.Frag} {S : List Addr} {H : Hp} {a : Addr} {l : Bool} {xs : List V} {ds : List D} (ha : hidS S H a = some (seqO l xs)) (hl : AtL (hidS S H) ds xs) : Itk S (if l = true then Itl K a else Itt K a) ds H := by
  have at3 : ∀ (i : Nat) (x : V), i < ds.length → xs[i]? = some x → ∃ d, ds[i]? = some d ∧ ∀ H3, Same (hidS S H) (hidS S H3) → At (hidS S H3) d x := fun i x hi hx => by
    obtain ⟨d, hd⟩ := some_at hi
    obtain ⟨y, hy, hA⟩ := hl.get hd
    rw [hx] at hy
    cases hy
    exact ⟨d, hd, fun H3 s => At.same s _ _ hA⟩
  have e := hl.length
  cases l with
  | true =>
    refine ⟨fun H1 => SqL K H1 a xs, YAt xs, by rw [← e]; exact walk_list, fun H1 s => SqL.of (hidS_some (s _ _ ha)).1, fun i H1 x H2 hi y => ⟨y.1, at3 i x hi y.2⟩⟩
  | false =>
    refine ⟨fun H1 => SqT K H1 a xs, YAt xs, by rw [← e]; exact walk_tup, fun H1 s => SqT.of (hidS_some (s _ _ ha)).1, fun i H1 x H2 hi y => ⟨y.1, at3 i x hi y.2⟩⟩
section
variable {X : Cx} {IO OL O O' O'' : List Nat} {e a b c tg : Expr} {ta tb te : TE} {tA tB : TT} {ma mb m : M} {mt mA mB : MT} {pos : Pos} {st : Stmt} {rest : List Stmt} {t u : TS} {ms mu : MS} {ts : TA} {mas : MA} {wi : TI} {mi : MA}
theorem id_seq (h : ED X O e te m) : ID X O tg e (iSqE X.K te) (iSeq m) := by
  refine ⟨pi_sqE h.pe, ⟨fun f A H σ δ ds δ' R hA Rr hm q => ?_⟩⟩
  obtain ⟨⟨d, δ1⟩, e1, hm⟩ := bind_some hm
  refine h.rd.run f A H σ δ d δ1 _ hA Rr e1 fun v H1 R1 s1 h1 => ?_
  cases d <;> first | (cases hm; done) | skip
  cases hm
  rename_i l
  obtain ⟨a, xs, rfl, ha, hl, hz⟩ := h1
  refine ⟨a, rfl, ?_⟩
  cases l with
  | true => exact .inl ⟨⟨xs, SqL.of (hidS_some ha).1⟩, q _ H1 R1 s1 (itk_seq (l := true) ha hl) hz⟩
  | false => exact .inr ⟨⟨xs, SqT.of (hidS_some ha).1⟩, q _ H1 R1 s1 (itk_seq (l := false) ha hl) hz⟩
/-- ints from lo on -/
def rngD (lo : Int) (n : Nat) : List D := (List.range n).map fun (i : Nat) => .int (lo + i)
theorem itk_rng {S : List Addr} {H : Hp} {lo : Int} {n : Nat} : Itk S (Itr lo n) (rngD lo n) H := by
  have e : (rngD lo n).length = n := by unfold rngD; rw [List.length_map, List.length_range]
  refine ⟨fun _ => True, YFn fun i => .int (lo + i), by rw [e]; exact walk_range, fun _ _ => trivial, fun i H1 x H2 hi y => ⟨y.1, .int (lo + i), ?_, fun H3 _ => y.2⟩⟩
  unfold rngD
  rw [e] at hi
  rw [List.getElem?_map, List.getElem?_range hi]
  rfl
def iRg1 (m : MA) : MA := fun δ => (m δ).bind fun p => match p.1 with
  | [.int j] => if -4611686018427387904 ≤ j ∧ j ≤ 16000000 then some (rngD 0 j.toNat, p.2) else none
  | _ => none
def iRg2 (m : MA) : MA := fun δ => (m δ).bind fun p => match p.1 with
  | [.int i, .int j] => if -4611686018427387904 ≤ i ∧ i ≤ 4611686018427387903 ∧ j ≤ 4611686018427387903 ∧ -4611686018427387904 ≤ j ∧ j - i ≤ 16000000 then some (rngD i (j - i).toNat, p.2) else none
  | _ => none
theorem id_rng1 {p : Pos} (hg : Gl X "range") (hm : X.mg "range" = none) (ha : AD X O [a] ts mas) (hs : starEach [a] X.env = [(false, eval a X.env)] := by rfl) : ID X O tg (.Call (.Name "range" p) [a] [] pos) (iRng1 ts) (iRg1 mas) := by
  refine ⟨pi_range1 hg hm ha.pe hs, ⟨fun f A H σ δ ds δ' R hA Rr hm q => ?_⟩⟩
  obtain ⟨⟨ys, δ1⟩, e1, hm⟩ := bind_some hm
  refine ha.rd.run f A H σ δ ys δ1 _ hA Rr e1 fun vs H1 R1 s1 h1 => ?_
  match ys, h1, hm with
  | [.int j], h1, hm =>
    obtain ⟨x, rfl, hx⟩ := atL_one h1
    cases (show x = .int j from hx)
    replace hm := (show (if -4611686018427387904 ≤ j ∧ j ≤ 16000000 then some (rngD 0 j.toNat, δ1) else none) = some (ds, δ') from hm)
    by_cases c : -4611686018427387904 ≤ j ∧ j ≤ 16000000
    · rw [if_pos c] at hm
      cases hm
      exact ⟨j, rfl, by omega, by omega, q _ H1 R1 s1 itk_rng (by unfold rngD; rw [List.length_map, List.length_range]; omega)⟩
    · rw [if_neg c] at hm
      cases hm
  | [], _, hm => cases hm
  | .non :: _, _, hm => cases hm
  | .bl _ :: _, _, hm => cases hm
  | .str _ :: _, _, hm => cases hm
  | .seq _ _ :: _, _, hm => cases hm
  | .int _ :: _ :: _, _, hm => cases hm
theorem id_rng2 {p : Pos} (hg : Gl X "range") (hm : X.mg "range" = none) (ha : AD X O [a, b] ts mas) (hs : starEach [a, b] X.env = [(false, eval a X.env), (false, eval b X.env)] := by rfl) (hs2 : starEach [b] X.env = [(false, eval b X.env)] := by rfl) : ID X O tg (.Call (.Name "range" p) [a, b] [] pos) (iRng2 ts) (iRg2 mas) := by
  refine ⟨pi_range2 hg hm ha.pe hs hs2, ⟨fun f A H σ δ ds δ' R hA Rr hm q => ?_⟩⟩
  obtain ⟨⟨ys, δ1⟩, e1, hm⟩ := bind_some hm
  refine ha.rd.run f A H σ δ ys δ1 _ hA Rr e1 fun vs H1 R1 s1 h1 => ?_
  match ys, h1, hm with
  | [.int i, .int j], h1, hm =>
    obtain ⟨x, y, rfl, hx, hy⟩ := atL_two h1
    cases (show x = .int i from hx)
    cases (show y = .int j from hy)
    replace hm := (show (if -4611686018427387904 ≤ i ∧ i ≤ 4611686018427387903 ∧ j ≤ 4611686018427387903 ∧ -4611686018427387904 ≤ j ∧ j - i ≤ 16000000 then some (rngD i (j - i).toNat, δ1) else none) = some (ds, δ') from hm)
    by_cases c : -4611686018427387904 ≤ i ∧ i ≤ 4611686018427387903 ∧ j ≤ 4611686018427387903 ∧ -4611686018427387904 ≤ j ∧ j - i ≤ 16000000
    · rw [if_pos c] at hm
      cases hm
      exact ⟨i, j, rfl, ⟨by omega, by omega, by omega, by omega⟩, q _ H1 R1 s1 itk_rng (by unfold rngD; rw [List.length_map, List.length_range]; omega)⟩
    · rw [if_neg c] at hm
      cases hm
  | [], _, hm => cases hm
  | .non :: _, _, hm => cases hm
  | .bl _ :: _, _, hm => cases hm
  | .str _ :: _, _, hm => cases hm
  | .seq _ _ :: _, _, hm => cases hm
  | [.int _], _, hm => cases hm
  | .int _ :: .non :: _, _, hm => cases hm
  | .int _ :: .bl _ :: _, _, hm => cases hm
  | .int _ :: .str _ :: _, _, hm => cases hm
  | .int _ :: .seq _ _ :: _, _, hm => cases hm
  | .int _ :: .int _ :: _ :: _, _, hm => cases hm
def chrsD (z : Str) : List D := z.cps.toList.map fun c => .str ⟨#[c]⟩
def iChr (m : M) : MA := fun δ => (m δ).bind fun p => match p.1 with
  | .str z => if z.length ≤ 16000000 then some (chrsD z, p.2) else none
  | _ => none
theorem id_str (h : ED X O e te m) : ID X O tg e (iStr te) (iChr m) := by
  refine ⟨pi_str h.pe, ⟨fun f A H σ δ ds δ' R hA Rr hm q => ?_⟩⟩
  obtain ⟨⟨d, δ1⟩, e1, hm⟩ := bind_some hm
  refine h.rd.run f A H σ δ d δ1 _ hA Rr e1 fun v H1 R1 s1 h1 => ?_
  cases d <;> first | (cases hm; done) | skip
  rename_i z
  cases (show v = .str z from h1)
  replace hm := (show (if z.length ≤ 16000000 then some (chrsD z, δ1) else none) = some (ds, δ') from hm)
  by_cases c : z.length ≤ 16000000
  · rw [if_pos c] at hm
    cases hm
    have e : (chrsD z).length = z.cps.size := by unfold chrsD; rw [List.length_map, Array.length_toList]
    refine ⟨z, rfl, q _ H1 R1 s1 ⟨fun _ => True, fun i H v H' => H' = H ∧ ∃ c, z.cps[i]? = some c ∧ v = .str ⟨#[c]⟩, by rw [e]; exact walk_str, fun _ _ => trivial, fun i H2 x H3 hi y => ⟨y.1, ?_⟩⟩ (by rw [e]; exact c)⟩
    obtain ⟨ch, hc, ex⟩ := y.2
    refine ⟨.str ⟨#[ch]⟩, ?_, fun H4 _ => ex⟩
    unfold chrsD
    rw [List.getElem?_map, Array.getElem?_toList, hc]
    rfl
  · rw [if_neg c] at hm
    cases hm
/-! ### targets -/
structure Rdg (O vs : List Nat) (g : TG) (gd : D → DE → Option DE) : Prop where
  run : ∀ (f : Fr) (A : Own) (H : Hp) (σ : L2.St) (δ : DE) (d : D) (v : V) (δ' : DE) (Q : L2.St → Hp → Prop), A.map (·.1) = O → Rl f A H σ δ → At (hidS (SA f A) H) d v → gd d δ = some δ' →
    (∀ σ', (∀ F, Same F H → Rl f A F σ δ → At (hidS (SA f A) F) d v → Rl f A F σ' δ') → wipe σ' vs = wipe σ vs → Q σ' H) → g v σ H Q
  out : ∀ i ∈ vs, O.contains i = false
def gN (i : Nat) : D → DE → Option DE := fun d δ => some (δ.set i (some d))
theorem wipe1 {σ : L2.St} {i : Nat} {o : Option V} : wipe (σ.set i o) [i] = wipe σ [i] := by
  show (σ.set i o).set i none = σ.set i none
  rw [List.set_set]
theorem rdg_name {i : Nat} (hO : O.contains i = false) : Rdg O [i] (gName i) (gN i) := by
  refine ⟨fun f A H σ δ d v δ' Q hA R h hg q => ?_, fun j hj => by rw [List.mem_singleton.mp hj]; exact hO⟩
  cases hg
  exact q _ (fun F _ RF hF => RF.setD (noO hA hO) hF) wipe1
/-! ### frames of loops -/
theorem own_eq {A A' : Own} (h : A'.map (·.1) = A.map (·.1)) (s : ∀ p ∈ A, p ∈ A') (n : (A'.map (·.1)).Nodup) : A' = A := by
  have hl : A'.length = A.length := by
    have := congrArg List.length h
    simpa using this
  apply List.ext_getElem hl
  intro i h1 h2
  have m1 : A'[i] ∈ A' := List.getElem_mem h1
  have m2 : A[i] ∈ A' := s _ (List.getElem_mem h2)
  refine fst_inj n m1 m2 ?_
  have e1 : (A'.map (·.1))[i]? = some (A'[i].1) := by rw [List.getElem?_map, List.getElem?_eq_getElem h1]; rfl
  have e2 : (A.map (·.1))[i]? = some (A[i].1) := by rw [List.getElem?_map, List.getElem?_eq_getElem h2]; rfl
  rw [h, e2] at e1
  exact (Option.some.inj e1).symm
section
variable {f : Fr} {A : Own} {H H0 : Hp} {σ σ0 : L2.St} {δ δ0 : DE}
def inner (f : Fr) (A : Own) (H : Hp) : Fr := ⟨f.T, A, H⟩
theorem Rl.enter (R : Rl f A H σ δ) : Rl (inner f A H) A H σ δ :=
  ⟨R.len, fun x hx => ⟨rfl, R.alive x (mem_SA.mpr (.inl hx))⟩, Same.refl _, fun _ h => h, fun _ h => .inl h, R.n1, R.n2, R.dj, R.own, R.dat⟩
theorem sm_leave (R0 : Rl f A H0 σ0 δ0) (s : Same (hidS (SA f A) H0) (hidS (SA f A) H)) : Same (hidS (SA f f.I) f.H0) (hidS (SA f f.I) H) := fun b o e => by
  have e1 := R0.sm b o e
  obtain ⟨e2, n2⟩ := hidS_some e1
  rw [hidS_eq, if_neg n2]
  by_cases c : b ∈ SA f A
  · rcases mem_SA.mp c with h | ⟨p, hp, rfl⟩
    · exact absurd (mem_SA.mpr (.inl h)) n2
    · rcases R0.nw p hp with z | z
      · exact absurd (mem_SA.mpr (.inr ⟨p, z, rfl⟩)) n2
      · rw [(hidS_some e).1] at z
        cases z
  · exact (hidS_some (s b o (by rw [hidS_eq, if_neg c]; exact e2))).1
theorem Rl.leave (R0 : Rl f A H0 σ0 δ0) (R : Rl (inner f A H0) A H σ δ) : Rl f A H σ δ := by
  refine ⟨R.len, fun x hx => ?_, sm_leave R0 R.sm, R0.sub, R0.nw, R.n1, R.n2, R.dj, R.own, R.dat⟩
  obtain ⟨e, n⟩ := R0.tq x hx
  exact ⟨(R.tq x hx).1.trans e, n⟩
theorem Rt.leave {d : D} {v : V} (R0 : Rl f A H0 σ0 δ0) (R : Rt (inner f A H0) H d v δ) : Rt f H d v δ := by
  have s : Same (hidS (SA f A) H) (hidS (SA f f.I) H) := same_hid_sub R0.ssub
  refine ⟨fun x hx => ?_, sm_leave R0 R.sm, fun p hp => ?_, At.same s _ _ R.vd⟩
  · obtain ⟨e, n⟩ := R0.tq x hx
    exact ⟨(R.tq x hx).1.trans e, n⟩
  · obtain ⟨ds, xs, e1, e2, e3, e4⟩ := R.io p (R0.sub p hp)
    exact ⟨ds, xs, e1, e2, AtL.same s _ _ e3, e4⟩
end
/-! ### for -/
def forD (gd : D → DE → Option DE) (body : MS) : List D → DE → Option Fl
  | [], δ => some (.nx δ)
  | x :: r, δ => (gd x δ).bind fun δ1 => (body δ1).bind fun z => match z with
    | .nx δ2 => forD gd body r δ2
    | .ct δ2 => forD gd body r δ2
    | .bk δ2 => some (.nx δ2)
    | .rt d δ2 => some (.rt d δ2)
def sFor (mi : MA) (gd : D → DE → Option DE) (body : MS) : MS := fun δ => (mi δ).bind fun p => forD gd body p.1 p.2
theorem rs_for {vs : List Nat} {g : TG} {gd : D → DE → Option DE} (hi : Rdi O wi mi) (hg : Rdg O vs g gd) (hb : Rds O O O t ms O) : Rds IO OL O (tFor wi g t) (sFor mi gd ms) O := by
  refine ⟨fun f A H σ δ r E hI hA R hm P => ?_⟩
  obtain ⟨⟨ds, δ1⟩, e1, hm⟩ := bind_some hm
  refine hi.run f A H σ δ ds δ1 _ hA R e1 fun J H1 R1 s1 ⟨G, Y, w, hG, hY⟩ hz => ?_
  have base : ∀ {H2 : Hp} {σ2 : L2.St} {δ2 : DE}, Rl (inner f A H1) A H2 σ2 δ2 → Same (hidS (SA f A) H1) (hidS (SA f A) H2) := fun R => R.sm
  refine L2.for_it w (fun i σ2 H2 => ∃ δ2, Rl (inner f A H1) A H2 σ2 δ2 ∧ forD gd ms (ds.drop i) δ2 = some r) ⟨δ1, R1.enter, by rw [List.drop_zero]; exact hm⟩ (fun i σ2 H2 _ ⟨δ2, R2, _⟩ => hG H2 (base R2)) ?_ ?_
  · rintro i x σ2 H2 H3 hlt ⟨δ2, R2, h2⟩ y
    obtain ⟨rfl, d, hd, hat⟩ := hY i H2 x H3 hlt y
    obtain ⟨hl, ed⟩ := List.getElem?_eq_some_iff.mp hd
    rw [List.drop_eq_getElem_cons hl, ed] at h2
    obtain ⟨δ3, e3, h2⟩ := bind_some h2
    obtain ⟨z, e4, h2⟩ := bind_some h2
    refine hg.run (inner f A H1) A H3 σ2 δ2 d x δ3 _ hA R2 (hat H3 (base R2)) e3 fun σ3 T3 _ => ?_
    have R3 := T3 H3 (Same.refl _) R2 (hat H3 (base R2))
    refine hb.run (inner f A H1) A H3 σ3 δ3 z _ hA hA R3 e4 ?_
    have keep : ∀ (A' : Own) (H' : Hp) (σ' : L2.St) (δ' : DE), A'.map (·.1) = O → Rl (inner f A H1) A' H' σ' δ' → Rl (inner f A H1) A H' σ' δ' := fun A' H' σ' δ' h R' => by
      rw [own_eq (h.trans hA.symm) R'.sub R'.n1] at R'
      exact R'
    cases z with
    | nx δ' => exact fun A' H' σ' h R' => ⟨δ', keep A' H' σ' δ' h R', h2⟩
    | ct δ' => exact fun A' H' σ' h R' => ⟨δ', keep A' H' σ' δ' h R', h2⟩
    | bk δ' =>
      cases h2
      exact fun A' H' σ' h R' => P A H' σ' hA (R1.leave (keep A' H' σ' δ' h R'))
    | rt d' δ' =>
      cases h2
      exact fun v H' T => P v H' (T.leave R1)
  · rintro σ2 H2 ⟨δ2, R2, h2⟩
    rw [List.drop_length] at h2
    cases h2
    exact P A H2 σ2 hA (R1.leave R2)
theorem sd_for {body : List Stmt} {vs : List Nat} {g : TG} {gd : D → DE → Option DE} (hp : PassesOwn (model X.prog X.w) X.A X.env X.xe) (hc : X.calm = true) (hi : ID X O tg e wi mi) (hgp : PG X tg g) (hg : Rdg O vs g gd) (hb : SSD X O O O body t ms O)
    (hs : ∀ x, foldedSetIterable e X.env x = pure x := by intro _; rfl) : SD X IO OL O (.For tg e body [] pos) (tFor wi g t) (sFor mi gd ms) O := ⟨ps_for hp hc hi.pe hgp hb.pe hs, rs_for hi.rd hg hb.rd⟩
end
end Kd
set_option Elab.async false
set_option linter.all false
set_option maxRecDepth 100000
set_option maxHeartbeats 4000000
namespace Kd
open PySem PySem.Spec PyProof.Rows L2 Kw
/-! ### a test, a list being put aside -/
def tFrT (t : TT) : TT := fun σ H Q => ∃ D xs, H D = some (.lst xs) ∧ t σ (hide D H) fun b H2 => H2 D = none → Q b (upd H2 D (.lst xs))
theorem pt_fr {X : Cx} {e : Expr} {t : TT} (h : PT X e t) : PT X e (tFrT t) := by
  refine ⟨fun pins s σ H Q I q => ?_⟩
  obtain ⟨D, xs, hD, q⟩ := q
  obtain ⟨hz, its, n, rv, hobj⟩ := (show ObjOk X.prog X.w H s.heap D (.lst xs) from I.hok D _ hD)
  have nloc : D ≠ X.env.locals := fun z => by
    have f := I.free
    rw [← z, hD] at f
    cases f
  have nfs : D ∉ X.fs := fun hb => by
    obtain ⟨_, o, ho, _⟩ := I.ok.funs.mem hb
    have := I.base.free D o ho (I.ok.frf D hb) (fun z => I.ok.exfs D z hb)
    rw [hD] at this
    cases this
  have J : Inv X (pins ++ [(D, { cls := .type "list", data := .seq its.toArray n })]) σ (hide D H) s := by
    refine (Inv.hide I hD).pins_of fun p hp => ?_
    rcases List.mem_append.mp hp with hp | hp
    · obtain ⟨a, b, c⟩ := (Inv.hide I hD).pin p (List.mem_append_right _ hp)
      exact ⟨a, b, c⟩
    · rw [List.mem_singleton.mp hp]
      exact ⟨hobj, hide_self, nloc, nfs, fun v z => by cases z⟩
  refine thn (h.run _ s σ (hide D H) _ J q) fun v s1 hh => ?_
  obtain ⟨H2, I2, q2⟩ := hh
  obtain ⟨hget, hn, _⟩ := I2.pin (D, { cls := .type "list", data := .seq its.toArray n }) (List.mem_append_right _ (List.mem_append_right _ (List.mem_singleton.mpr rfl)))
  refine ⟨upd H2 D (.lst xs), ?_, q2 hn⟩
  have hn' : H2 D = none := hn
  have nD : ∀ b o, H2 b = some o → b ≠ D := fun b o e z => by rw [z, hn'] at e; cases e
  have ND : ∀ b, H b = none → b ≠ D := fun b e z => by rw [z, hD] at e; cases e
  refine ⟨I2.ok, I2.os, I2.bare, ⟨I2.base.keep, I2.base.slot, fun b o e n hx => ?_, I2.base.there, fun b ys q => ?_, fun b o u q => ?_, fun b ps q => ?_⟩, I2.loc, I2.cell, ?_, fun x c e => ?_, fun p hp => ?_, fun b o e => ?_, I2.len⟩
  · rw [upd_ne (ND b (I.base.free b o e n hx))]
    exact I2.base.free b o e n hx
  · have := I2.base.tups b ys q
    rw [upd_ne (nD b _ this)]
    exact this
  · have := I2.base.frzs b o u q
    rw [upd_ne (nD b _ this)]
    exact this
  · obtain ⟨m, this⟩ := I2.base.tbls b ps q
    refine ⟨m, ?_⟩
    rw [upd_ne (nD b _ this)]
    exact this
  · rw [upd_ne (ND _ I.free)]
    exact I2.free
  · rw [upd_ne (ND _ (I.freeC x c e))]
    exact I2.freeC x c e
  · obtain ⟨a, b, c⟩ := I2.pin p (by
      rcases List.mem_append.mp hp with z | z
      · exact List.mem_append_left _ z
      · exact List.mem_append_right _ (List.mem_append_left _ z))
    refine ⟨a, ?_, c⟩
    rw [upd_ne (ND _ (I.pin p hp).2.1)]
    exact b
  · by_cases z : b = D
    · subst z
      rw [upd, if_pos rfl] at e
      cases e
      exact ⟨hz, its, n, rv, hget⟩
    · rw [upd_ne z] at e
      refine (I2.hok b o e).stay (fun _ _ _ q => q) (fun c q => ?_) fun c ys q => ?_
      · rw [upd_ne (nD c _ q)]
        exact q
      · rw [upd_ne (nD c _ q)]
        exact q
/-! ### comprehensions -/
def wipeD (δ : DE) : List Nat → DE
  | [] => δ
  | v :: vs => (wipeD δ vs).set v none
/-- the comprehension's names as they were -/
def backD (δ0 δ : DE) : List Nat → DE
  | [] => δ
  | v :: vs => (backD δ0 δ vs).set v (δ0[v]?.join)
def lcD (vs : List Nat) (gd : D → DE → Option DE) (t : MT) (el : M) : List D → DE → Option (List D × DE)
  | [], δ => some ([], δ)
  | x :: r, δ => (gd x (wipeD δ vs)).bind fun δ1 => (t δ1).bind fun p => if p.1 = true then (el p.2).bind fun q => (lcD vs gd t el r (backD δ q.2 vs)).bind fun z => some (q.1 :: z.1, z.2) else lcD vs gd t el r (backD δ p.2 vs)
def mLc (mi : MA) (vs : List Nat) (gd : D → DE → Option DE) (t : MT) (el : M) : M := fun δ => (mi δ).bind fun p => (lcD vs gd t el p.1 p.2).bind fun q => if q.1.length ≤ 16000000 then some (.seq true q.1, q.2) else none
def mYes : MT := fun δ => some (true, δ)
section
variable {f : Fr} {A : Own} {H H' : Hp} {σ σ' : L2.St} {δ δ' : DE}
theorem Rl.wiped (R : Rl f A H σ δ) : ∀ {vs : List Nat}, (∀ i ∈ vs, i ∉ A.map (·.1)) → Rl f A H (wipe σ vs) (wipeD δ vs)
  | [], _ => R
  | v :: vs, h => (R.wiped fun i hi => h i (List.mem_cons_of_mem _ hi)).drop (h v (List.mem_cons_self ..)) none
theorem backD_out : ∀ {vs : List Nat} {k : Nat}, k ∉ vs → (backD δ δ' vs)[k]? = δ'[k]?
  | [], _, _ => rfl
  | v :: vs, k, h => by
    show ((backD δ δ' vs).set v _)[k]? = _
    rw [get_set_ne (fun z => h (by rw [z]; exact List.mem_cons_self ..)), backD_out fun z => h (List.mem_cons_of_mem _ z)]
theorem backD_length : ∀ {vs : List Nat}, (backD δ δ' vs).length = δ'.length
  | [] => rfl
  | v :: vs => by
    show ((backD δ δ' vs).set v _).length = _
    rw [List.length_set, backD_length]
theorem backD_in : ∀ {vs : List Nat} {k : Nat} {d : D}, k ∈ vs → (backD δ δ' vs)[k]? = some (some d) → δ[k]? = some (some d)
  | v :: vs, k, d, h, e => by
    replace e : ((backD δ δ' vs).set v (δ[v]?.join))[k]? = some (some d) := e
    by_cases c : v = k
    · subst c
      have hl : v < (backD δ δ' vs).length := by
        have := (List.getElem?_eq_some_iff.mp e).1
        rwa [List.length_set] at this
      rw [List.getElem?_set_self hl] at e
      have e : (δ[v]?).join = some d := Option.some.inj e
      cases q : δ[v]? with
      | none => rw [q] at e; cases e
      | some o =>
        rw [q] at e
        exact congrArg some e
    · rw [get_set_ne c] at e
      rcases List.mem_cons.mp h with z | z
      · exact absurd z.symm c
      · exact backD_in z e
/-- behind an element: its names are as they were -/
theorem Rl.back {vs : List Nat} (R : Rl f A H σ δ) (R2 : Rl f A H' σ' δ') (s : Same (hidS (SA f A) H) (hidS (SA f A) H')) (w : wipe σ' vs = wipe σ vs) (hv : ∀ i ∈ vs, i ∉ A.map (·.1)) : Rl f A H' σ (backD δ δ' vs) := by
  have eq : ∀ k, k ∉ vs → σ'[k]? = σ[k]? := fun k hk => by
    rw [← wipe_out hk, ← wipe_out (σ := σ) hk, w]
  refine ⟨?_, R2.tq, R2.sm, R2.sub, R2.nw, R2.n1, R2.n2, R2.dj, fun p hp => ?_, fun k d hk hn => ?_⟩
  · rw [backD_length, ← R2.len]
    have := congrArg List.length w
    rw [wipe_length, wipe_length] at this
    exact this.symm
  · obtain ⟨ds, xs, e1, e2, r⟩ := R2.own p hp
    have np : p.1 ∉ vs := fun z => hv _ z (List.mem_map.mpr ⟨p, hp, rfl⟩)
    exact ⟨ds, xs, by rw [backD_out np]; exact e1, by rw [← eq _ np]; exact e2, r⟩
  · by_cases c : k ∈ vs
    · obtain ⟨v, e1, e2⟩ := R.dat k d (backD_in c hk) hn
      exact ⟨v, e1, At.same s _ _ e2⟩
    · rw [backD_out c] at hk
      obtain ⟨v, e1, e2⟩ := R2.dat k d hk hn
      exact ⟨v, by rw [← eq k c]; exact e1, e2⟩
end
section
variable {X : Cx} {IO OL O O' O'' : List Nat} {e a b c tg : Expr} {ta tb te : TE} {tA tB : TT} {ma mb m : M} {mt mA mB : MT} {pos : Pos} {st : Stmt} {rest : List Stmt} {t u : TS} {ms mu : MS} {ts : TA} {mas : MA} {wi : TI} {mi : MA}
/-- a comprehension's test: none, or one -/
inductive RdtL (O : List Nat) : TT → MT → Prop where
  | yes : RdtL O tYes mYes
  | one {tt : TT} {mt : MT} (h : Rdt O tt mt) : RdtL O (tFrT tt) mt
theorem RdtL.run {tt : TT} (h : RdtL O tt mt) {f : Fr} {A : Own} {F : Hp} {σ : L2.St} {δ δ' : DE} {b : Bool} {D : Addr} {zs : List V} {Q : Bool → Hp → Prop} (hA : A.map (·.1) = O) (R : Rl f A F σ δ) (hF : F D = none) (e : mt δ = some (b, δ'))
    (q : ∀ F2, F2 D = none → Rl f A F2 σ δ' → Same (hidS (SA f A) F) (hidS (SA f A) F2) → Q b (upd F2 D (.lst zs))) : tt σ (upd F D (.lst zs)) Q := by
  cases h with
  | yes =>
    cases e
    exact q F hF R (Same.refl _)
  | one h =>
    refine ⟨D, zs, upd_same, ?_⟩
    rw [hide_upd hF]
    exact h.run f A F σ δ b δ' _ hA R e fun F2 R2 s2 hn => q F2 hn R2 s2
theorem rf_lc {vs : List Nat} {g : TG} {gd : D → DE → Option DE} {tt : TT} {el : M} (hi : Rdi O wi mi) (hg : Rdg O vs g gd) (ht : RdtL O tt mt) (he : Rde O te el) : Rdf O (tLc wi g tt (tFr te) vs) (mLc mi vs gd mt el) := by
  refine ⟨fun f A H σ δ d δ' Q hA R hm q => ?_⟩
  obtain ⟨⟨ds, δ1⟩, e1, hm⟩ := bind_some hm
  obtain ⟨⟨es, δ2⟩, e2, hm⟩ := bind_some hm
  by_cases hz : es.length ≤ 16000000
  · replace hm := (show (if es.length ≤ 16000000 then some (D.seq true es, δ2) else none) = some (d, δ') from hm)
    rw [if_pos hz] at hm
    cases hm
    have hv : ∀ i ∈ vs, i ∉ A.map (·.1) := fun i h => noO hA (hg.out i h)
    refine hi.run f A H σ δ ds δ1 _ hA R e1 fun J H1 R1 s1 ⟨G, Y, w, hG, hY⟩ hzd Dn hD => ?_
    refine lc_it w (fun i Hh => ∃ F zs done rest δi, Hh = upd F Dn (.lst zs) ∧ F Dn = none ∧ Rl f A F σ δi ∧ Same (hidS (SA f A) H1) (hidS (SA f A) F) ∧ AtL (hidS (SA f A) F) done zs ∧ lcD vs gd mt el (ds.drop i) δi = some (rest, δ') ∧ done ++ rest = es)
      ⟨H1, [], [], es, δ1, rfl, hD, R1, Same.refl _, AtL.nil, by rw [List.drop_zero]; exact e2, rfl⟩ (fun i Hh _ ⟨F, zs, done, rest, δi, eH, hF, RF, sF, _⟩ => ?_) ?_ ?_
    · subst eH
      exact hG _ (sF.trans (Same.hidS _ (Same.new hF)))
    · rintro i x Hh Hh' hlt ⟨F, zs, done, rest, δi, rfl, hF, RF, sF, hl, hr, hes⟩ y
      obtain ⟨rfl, d, hd, hat⟩ := hY i _ x Hh' hlt y
      obtain ⟨hli, ed⟩ := List.getElem?_eq_some_iff.mp hd
      rw [List.drop_eq_getElem_cons hli, ed] at hr
      obtain ⟨δ3, e3, hr⟩ := bind_some hr
      obtain ⟨⟨b, δ4⟩, e4, hr⟩ := bind_some hr
      have RW : Rl f A (upd F Dn (.lst zs)) (wipe σ vs) (wipeD δi vs) := (RF.grow (Same.new hF)).wiped hv
      refine hg.run f A _ (wipe σ vs) (wipeD δi vs) d x δ3 _ hA RW (hat _ (sF.trans (Same.hidS _ (Same.new hF)))) e3 fun σ3 T3 w3 => ?_
      have w4 : wipe σ3 vs = wipe σ vs := by
        rw [w3]
        apply List.ext_getElem?
        intro k
        by_cases c : k ∈ vs
        · have h1 : ∀ (τ : L2.St), (wipe τ vs)[k]? = if k < τ.length then some none else none := fun τ => by
            have hx : ∀ o, (wipe τ vs)[k]? = some (some o) → False := fun o z => (wipe_some z).2 c
            by_cases l : k < τ.length
            · rw [if_pos l]
              have l2 : k < (wipe τ vs).length := by rw [wipe_length]; exact l
              rw [List.getElem?_eq_getElem l2]
              cases q : (wipe τ vs)[k] with
              | none => rfl
              | some o => exact (hx o (by rw [List.getElem?_eq_getElem l2, q])).elim
            · rw [if_neg l, List.getElem?_eq_none]
              rw [wipe_length]
              omega
          rw [h1, h1, wipe_length]
        · rw [wipe_out c]
      refine ⟨w4, ?_⟩
      -- the names' values, the list put aside
      have RF3 : Rl f A F σ3 δ3 := T3 F (Same.new hF) (RF.wiped hv) (hat F sF)
      refine ht.run hA RF3 hF e4 fun F2 hF2 R2 s2 => ?_
      have sF2 := sF.trans s2
      have hl2 := AtL.same s2 _ _ hl
      cases b with
      | true =>
        refine iteT ?_
        obtain ⟨⟨dd, δ5⟩, e5, hr⟩ := bind_some hr
        obtain ⟨⟨rs, δ6⟩, e6, hr⟩ := bind_some hr
        cases hr
        have hlen : done.length < 16000000 := by
          have := congrArg List.length hes
          rw [List.length_append, List.length_cons] at this
          omega
        refine ⟨Dn, zs, upd_same, ?_⟩
        rw [hide_upd hF2]
        refine he.run f A F2 σ3 δ4 dd δ5 _ hA R2 e5 fun v F3 R3 s3 h3 hF3 => ⟨zs, upd_same, lt_small (by rw [hl2.length]; omega), ?_⟩
        have sa := s2.trans s3
        exact ⟨F3, zs ++ [v], done ++ [dd], rs, _, upd_upd, hF3, RF.back R3 sa w4 hv, sF.trans sa, AtL.append (AtL.same s3 _ _ hl2) (AtL.one h3), e6, by rw [List.append_assoc]; exact hes⟩
      | false =>
        refine iteF ?_
        exact ⟨F2, zs, done, rest, _, rfl, hF2, RF.back R2 s2 w4 hv, sF2, hl2, hr, hes⟩
    · rintro Hh ⟨F, zs, done, rest, δi, rfl, hF, RF, sF, hl, hr, hes⟩
      rw [List.drop_length] at hr
      cases hr
      rw [List.append_nil] at hes
      subst hes
      exact q done Dn zs F rfl RF (s1.trans sF) hF hl hz
  · replace hm := (show (if es.length ≤ 16000000 then some (D.seq true es, δ2) else none) = some (d, δ') from hm)
    rw [if_neg hz] at hm
    cases hm
theorem rd_of_f (h : Rdf O te m) : Rde O te m := by
  refine ⟨fun f A H σ δ d δ' Q hA R hm q => h.run f A H σ δ d δ' Q hA R hm fun ds p xs H1 ed R1 s1 hp h1 hz => ?_⟩
  subst ed
  exact q _ _ (R1.grow (Same.new hp)) (s1.trans (Same.hidS _ (Same.new hp))) (seq_new (l := true) R1.alive hp h1 hz)
theorem FD.ed (h : FD X O e te m) : ED X O e te m := ⟨h.pe, rd_of_f h.rd⟩
structure TLD (X : Cx) (O : List Nat) (scope : Scope) (ifs : List Expr) (tt : TT) (mt : MT) : Prop where
  pe : ∀ (s : Shared) (H : Hp) (C : Addr) (cl : List (Str × Addr)) (fp : List Addr), PTs (X.blk s H scope (compEnvC scope cl C X.env) fp) ifs tt
  rd : RdtL O tt mt
theorem tl_nil {scope : Scope} : TLD X O scope [] tYes mYes := ⟨fun _ _ _ _ _ => pts_nil, .yes⟩
theorem tl_one {scope : Scope} {c : Expr} {tt : TT} (h : ∀ (s : Shared) (H : Hp) (C : Addr) (cl : List (Str × Addr)) (fp : List Addr), TD (X.blk s H scope (compEnvC scope cl C X.env) fp) O c tt mt) : TLD X O scope [c] (tFrT tt) mt :=
  ⟨fun s H C cl fp => pts_one (pt_fr (h s H C cl fp).pe), .one (h X.s_0 X.H_0 0 [] []).rd⟩
theorem fd_lc {elt tg iter : Expr} {ifs : List Expr} {scope : Scope} {own : List (Str × Nat)} {g : TG} {gd : D → DE → Option DE} {tt : TT} {el : M} (hc : X.calm = true) (hN : X.N.Nodup) (hi : ID X O tg iter wi mi) (ok : BlkOk X.N X.env.scope scope own)
    (hgp : ∀ (s : Shared) (H : Hp) (C : Addr) (cl : List (Str × Addr)) (fp : List Addr), PG (X.blk s H scope (compEnvC scope cl C X.env) fp) tg g) (hg : Rdg O (own.map (·.2)) g gd) (ht : TLD X O scope ifs tt mt)
    (he : ∀ (s : Shared) (H : Hp) (C : Addr) (cl : List (Str × Addr)) (fp : List Addr), ED (X.blk s H scope (compEnvC scope cl C X.env) fp) O elt te el) (hs : ∀ x, foldedSetIterable iter X.env x = pure x := by intro _; rfl) :
    FD X O (.ListComp elt [⟨tg, iter, ifs, 0⟩] scope pos) (tLc wi g tt (tFr te) (own.map (·.2))) (mLc mi (own.map (·.2)) gd mt el) :=
  ⟨pe_lc hc hN hi.pe ok hgp ht.pe (fun s H C cl fp => pe_fr (he s H C cl fp).pe) hs, rf_lc hi.rd hg ht.rd (he X.s_0 X.H_0 0 [] []).rd⟩
/-- y = [.. for ..]: the statement of its own -/
theorem ps_setLcF {i : Nat} {y : Str} {py : Pos} {elt tg iter : Expr} {ifs : List Expr} {scope : Scope} {own : List (Str × Nat)} {spos : Pos} {g : TG} {gd : D → DE → Option DE} {tt : TT} {el : M} (hc : X.calm = true) (hN : X.N.Nodup) (hy : X.N[i]? = some y) (hyl : X.env.scope.names.lookup y = some .local)
    (hsw : swapsWith (.ListComp elt [⟨tg, iter, ifs, 0⟩] scope pos) (some (.Name y py)) spos.line X.env = pure true) (hi : ID X O tg iter wi mi) (ok : BlkOk X.N X.env.scope scope own)
    (hgp : ∀ (s : Shared) (H : Hp) (C : Addr) (cl : List (Str × Addr)) (fp : List Addr), PG (X.blk s H scope (compEnvC scope cl C X.env) fp) tg g) (hg : Rdg O (own.map (·.2)) g gd) (ht : TLD X O scope ifs tt mt)
    (he : ∀ (s : Shared) (H : Hp) (C : Addr) (cl : List (Str × Addr)) (fp : List Addr), ED (X.blk s H scope (compEnvC scope cl C X.env) fp) O elt te el) (hs : ∀ x, foldedSetIterable iter X.env x = pure x := by intro _; rfl) :
    PS X (.Assign [.Name y py] (.ListComp elt [⟨tg, iter, ifs, 0⟩] scope pos) spos) (tAsg (tLc wi g tt (tFr te) (own.map (·.2))) (gName i)) ∧ Rdf O (tLc wi g tt (tFr te) (own.map (·.2))) (mLc mi (own.map (·.2)) gd mt el) :=
  ⟨ps_setLc hc hN hy hyl hsw hi.pe ok hgp ht.pe (fun s H C cl fp => pe_fr (he s H C cl fp).pe) hs, rf_lc hi.rd hg ht.rd (he X.s_0 X.H_0 0 [] []).rd⟩
theorem sd_setLc {i : Nat} {st : Stmt} (h : PS X st (tAsg te (gName i)) ∧ Rdf O te m) (hO : O.contains i = false := by rfl) : SD X IO OL O st (tAsg te (gName i)) (sSet i m) O := ⟨h.1, rs_set (rd_of_f h.2) hO⟩
theorem sd_setLcO {i : Nat} {st : Stmt} (h : PS X st (tAsg te (gName i)) ∧ Rdf O te m) (hO : IO.contains i = false := by rfl) : SD X IO OL O st (tAsg te (gName i)) (sSetO i m) (i :: outN i O) := ⟨h.1, rs_setO h.2 hO⟩
/-! ### calls of defs -/
/-- a def of data: what it gives, nothing changed -/
def spP (mf : List D → Option D) : Sp := fun vs H Q _ => ∃ (T : List Addr) (ds : List D) (d : D), (∀ x ∈ T, H x ≠ none) ∧ AtL (hidS T H) ds vs ∧ mf ds = some d ∧
  ∀ v H', (∀ x ∈ T, H' x = H x) → Same (hidS T H) (hidS T H') → At (hidS T H') d v → Q v H'
/-- a def that changes the list that is handed in first -/
def spS (mf : List D → Option (D × D)) : Sp := fun vs H Q _ => ∃ (T : List Addr) (a : Addr) (ws : List V) (xs : List V) (ds0 ds : List D) (d : D) (ds1 : List D), vs = .ref a :: ws ∧ (∀ x ∈ T, H x ≠ none) ∧ a ∉ T ∧ H a = some (.lst xs) ∧
  AtL (hidS (a :: T) H) ds0 xs ∧ ds0.length ≤ 16000000 ∧ AtL (hidS (a :: T) H) ds ws ∧ mf (.seq true ds0 :: ds) = some (d, .seq true ds1) ∧
  ∀ v H' ys, (∀ x ∈ T, H' x = H x) → Same (hidS (a :: T) H) (hidS (a :: T) H') → H' a = some (.lst ys) → AtL (hidS (a :: T) H') ds1 ys → ds1.length ≤ 16000000 → At (hidS (a :: T) H') d v → Q v H'
theorem hidS_mem {S S' : List Addr} {H : Hp} (h : ∀ x, x ∈ S ↔ x ∈ S') : hidS S H = hidS S' H := by
  funext b
  rw [hidS_eq, hidS_eq]
  by_cases c : b ∈ S
  · rw [if_pos c, if_pos ((h b).mp c)]
  · rw [if_neg c, if_neg fun z => c ((h b).mpr z)]
theorem rd_call {mf : List D → Option D} (h : Rda O ts mas) : Rde O (tCall (spP mf) [] E0 ts) (mCall mf mas) := by
  refine ⟨fun f A H σ δ d δ' Q hA R hm q => ?_⟩
  obtain ⟨⟨ds, δ1⟩, e1, hm⟩ := bind_some hm
  obtain ⟨d', e3, hm⟩ := map_some' hm
  cases hm
  refine h.run f A H σ δ ds _ _ hA R e1 fun xs H1 R1 s1 h1 => ?_
  rw [List.append_nil]
  refine ⟨SA f A, ds, d, R1.alive, h1, e3, fun v H' hT s hv => ?_⟩
  refine q v H' (R1.step (fun x hx => hT x (mem_SA.mpr (.inl hx))) s rfl (fun _ _ => rfl) fun p hp => ?_) (s1.trans s) hv
  obtain ⟨ds', xs', p1, p2, p3, p4, p5⟩ := R1.own p hp
  exact ⟨ds', xs', p1, (hT _ (mem_SA.mpr (.inr ⟨p, hp, rfl⟩))).trans p3, AtL.same s _ _ p4, p5⟩
theorem ed_call {mf : List D → Option D} {k : Nat} {x : Str} {p : Pos} {es : List Expr} (c : CalX X.prog X.w X.K X.mg X.base CX0 k x (spP mf)) (hr : Room k X.A) (hg : Gl X x) (ha : AD X O (e :: es) ts mas)
    (hdb : (x == ("__debug__" : Str)) = false := by decide) (he : starEach (e :: es) X.env = (false, eval e X.env) :: starEach es X.env := by rfl) (hpl : (backTo pos (starEach es X.env)).any (·.1) = false := by rfl) :
    ED X O (.Call (.Name x p) (e :: es) [] pos) (tCall (spP mf) [] E0 ts) (mCall mf mas) := ⟨pe_cx c hr hg pass0 ha.pe hdb he hpl, rd_call ha.rd⟩
/-- a call with an own list -/
def mCallS (i : Nat) (mf : List D → Option (D × D)) (r : MA) : M := fun δ => (r δ).bind fun p => (lstAt p.2 i).bind fun ds => (mf (.seq true ds :: p.1)).bind fun q => match q.2 with
  | .seq true es => some (q.1, p.2.set i (some (.seq true es)))
  | _ => none
theorem rd_callS {mf : List D → Option (D × D)} {i : Nat} (h : Rda O ts mas) (hO : O.contains i = true) : Rde O (tCall (spS mf) [] E0 (tCons (tVar i) ts)) (mCallS i mf mas) := by
  refine ⟨fun f A H σ δ d δ' Q hA R hm q => ?_⟩
  obtain ⟨⟨ds, δ1⟩, e1, hm⟩ := bind_some hm
  obtain ⟨a0, ha0, _, _, _, es, _⟩ := own_at R hA hO
  refine ⟨.ref a0, es, h.run f A H σ δ ds δ1 _ hA R e1 fun ws H1 R1 s1 h1 => ?_⟩
  obtain ⟨cs, xs, p1, p2, p3, p4, p5⟩ := R1.own _ ha0
  obtain ⟨cs', ec, hm⟩ := bind_some hm
  rw [show lstAt (ds, δ1).2 i = some cs from lstAt_of p1] at ec
  cases ec
  obtain ⟨⟨d1, s'⟩, e3, hm⟩ := bind_some hm
  cases s' with
  | seq l es1 =>
    cases l with
    | false => cases hm
    | true =>
      replace hm : some (d1, δ1.set i (some (.seq true es1))) = some (d, δ') := hm
      cases hm
      have mem : ∀ x, x ∈ SA f A ↔ x ∈ a0 :: (f.T ++ (outO i A).map (·.2)) := fun x => by
        rw [mem_SA, List.mem_cons, List.mem_append, List.mem_map]
        constructor
        · rintro (h | ⟨p, hp, rfl⟩)
          · exact .inr (.inl h)
          · by_cases c : p.1 = i
            · exact .inl (congrArg Prod.snd (fst_inj R1.n1 hp ha0 c))
            · exact .inr (.inr ⟨p, outO_mem.mpr ⟨hp, c⟩, rfl⟩)
        · rintro (rfl | h | ⟨p, hp, rfl⟩)
          · exact .inr ⟨_, ha0, rfl⟩
          · exact .inl h
          · exact .inr ⟨p, (outO_mem.mp hp).1, rfl⟩
      have eqS : ∀ G : Hp, hidS (SA f A) G = hidS (a0 :: (f.T ++ (outO i A).map (·.2))) G := fun G => hidS_mem mem
      rw [List.append_nil]
      refine ⟨f.T ++ (outO i A).map (·.2), a0, ws, xs, cs, ds, d, es1, rfl, fun x hx => R1.alive x ((mem x).mpr (List.mem_cons_of_mem _ hx)), fun z => ?_, p3, by rw [← eqS]; exact p4, p5, by rw [← eqS]; exact h1, e3, fun v H' ys hT s hy hl hz hv => ?_⟩
      · rcases List.mem_append.mp z with z | z
        · exact R1.dj _ ha0 z
        · obtain ⟨p, hp, e⟩ := List.mem_map.mp z
          obtain ⟨m1, m2⟩ := outO_mem.mp hp
          exact m2 (congrArg Prod.fst (snd_inj R1.n2 m1 ha0 e))
      · rw [← eqS, ← eqS] at s
        rw [← eqS] at hl hv
        have hi : i < δ1.length := (List.getElem?_eq_some_iff.mp p1).1
        refine q v H' (R1.step (fun x hx => hT x (List.mem_append_left _ hx)) s (List.length_set ..) (fun k hk => get_set_ne fun z => hk (by rw [← z]; exact List.mem_map.mpr ⟨_, ha0, rfl⟩)) fun p hp => ?_) (s1.trans s) hv
        by_cases c : p.1 = i
        · have ep : p = (i, a0) := fst_inj R1.n1 hp ha0 c
          subst ep
          exact ⟨es1, ys, List.getElem?_set_self hi, hy, hl, hz⟩
        · obtain ⟨ds', xs', q1, q2, q3, q4, q5⟩ := R1.own p hp
          exact ⟨ds', xs', by rw [get_set_ne (Ne.symm c)]; exact q1, (hT _ (List.mem_append_right _ (List.mem_map.mpr ⟨p, outO_mem.mpr ⟨hp, c⟩, rfl⟩))).trans q3, AtL.same s _ _ q4, q5⟩
  | _ => cases hm
theorem ed_callS {mf : List D → Option (D × D)} {i k : Nat} {x y : Str} {p p2 : Pos} {es : List Expr} (c : CalX X.prog X.w X.K X.mg X.base CX0 k x (spS mf)) (hr : Room k X.A) (hg : Gl X x) (ha : AD X O es ts mas) (hO : O.contains i = true := by rfl) (hN : X.N[i]? = some y := by rfl)
    (hv : Vis X.env.scope y := by first | exact Or.inl rfl | exact Or.inr (Or.inl rfl) | exact Or.inr (Or.inr rfl)) (h1 : (y == Str.ofString "__debug__") = false := by decide) (h2 : (y == Str.ofString "__classdict__") = false := by decide)
    (hdb : (x == ("__debug__" : Str)) = false := by decide) (he : starEach (.Name y p2 :: es) X.env = (false, eval (.Name y p2) X.env) :: starEach es X.env := by rfl) (hpl : (backTo pos (starEach es X.env)).any (·.1) = false := by rfl) :
    ED X O (.Call (.Name x p) (.Name y p2 :: es) [] pos) (tCall (spS mf) [] E0 (tCons (tVar i) ts)) (mCallS i mf mas) := ⟨pe_cx c hr hg pass0 (pa_cons (pe_var hN hv h1 h2) ha.pe he) hdb he hpl, rd_callS ha.rd hO⟩
end
/-! ### defs -/
def start (n : Nat) (ds : List D) : DE := ds.map some ++ List.replicate (n - ds.length) none
def runP (n k : Nat) (ms : MS) : List D → Option D := fun ds => if ds.length = k then (ms (start n ds)).bind fun r => match r with
  | .rt d _ => some d
  | .nx _ => some .non
  | _ => none else none
def runS (n k : Nat) (ms : MS) : List D → Option (D × D) := fun ds => if ds.length = k then (ms (start n ds)).bind fun r => match r with
  | .rt d δ => (lstAt δ 0).map fun s => (d, .seq true s)
  | .nx δ => (lstAt δ 0).map fun s => (.non, .seq true s)
  | _ => none else none
theorem start_get {n : Nat} {ds : List D} {i : Nat} {d : D} (h : (start n ds)[i]? = some (some d)) : ds[i]? = some d := by
  unfold start at h
  by_cases c : i < ds.length
  · rw [List.getElem?_append_left (by rw [List.length_map]; exact c), List.getElem?_map] at h
    cases e : ds[i]? with
    | none => rw [e] at h; cases h
    | some z => rw [e] at h; exact Option.some.inj h
  · rw [List.getElem?_append_right (by rw [List.length_map]; omega), List.getElem?_replicate] at h
    split at h <;> cases h
theorem vstart_get {N : List Str} {vs : List V} {i : Nat} {v : V} (h : vs[i]? = some v) : (L2.start N vs)[i]? = some (some v) := by
  unfold L2.start
  have c := (List.getElem?_eq_some_iff.mp h).1
  rw [List.getElem?_append_left (by rw [List.length_map]; exact c), List.getElem?_map, h]
  rfl
section
variable {P : Program} {w : World} {K : PySem.W.Frag} {mg : Str → Option Value} {base : Heap}
theorem ok_P {x qual : Str} {st : Stmt} {f : Addr} {fd : FuncData} {N ps : List Str} {k : Nat} {ms : MS} {O' : List Nat} (F : Fun K x qual st f fd) (S : FnScope N ps (defScope st))
    (h : ∀ (cdv : Value) (A : Around) (outer : List Env) (s : Shared) (H : Hp) (E : XK), Room k (A.deeper (envOfC qual (defScope st) s.heap.objs.size f cdv)) →
      ∃ t, SSD (cxOf CX0 P w K mg base N qual (defScope st) f cdv A outer s H E).nox [] [] [] (defBody st) t ms O') : FnOk P w K mg base CX0 (k + 1) f fd ps (spP (runP N.length ps.length ms)) := by
  have hlen : ∀ vs H Q E, spP (runP N.length ps.length ms) vs H Q E → vs.length = ps.length := fun vs H Q E ⟨T, ds, d, _, hl, e, _⟩ => by
    rw [hl.length]
    unfold runP at e
    by_cases c : ds.length = ps.length
    · exact c
    · rw [if_neg c] at e
      cases e
  refine F.ok S hlen fun cdv A outer s H vs Q E hr hsp => ?_
  obtain ⟨t, hB⟩ := h cdv A outer s H E hr
  refine ⟨t, hB.pe, ?_⟩
  have hvl := hlen _ _ _ _ hsp
  obtain ⟨T, ds, d, hT, hl, e, q⟩ := hsp
  unfold runP at e
  have hdl : ds.length = ps.length := by rw [← hl.length]; exact hvl
  rw [if_pos hdl] at e
  obtain ⟨r, er, e⟩ := bind_some e
  have hpl : ps.length ≤ N.length := by have := congrArg List.length S.pre; rw [List.length_take] at this; omega
  have R : Rl ⟨T, [], H⟩ [] H (L2.start N vs) (start N.length ds) := by
    refine ⟨?_, fun x hx => ⟨rfl, hT x hx⟩, Same.refl _, fun p hp => (by cases hp), fun p hp => (by cases hp), List.nodup_nil, List.nodup_nil, fun p hp => (by cases hp), fun p hp => (by cases hp), fun i dd hi _ => ?_⟩
    · unfold start L2.start
      rw [List.length_append, List.length_append, List.length_map, List.length_map, List.length_replicate, List.length_replicate, hvl, hdl]
    · obtain ⟨v, hv, ha⟩ := hl.get (start_get hi)
      refine ⟨v, vstart_get hv, ?_⟩
      rw [show SA (⟨T, [], H⟩ : Fr) [] = T from List.append_nil _]
      exact ha
  have eT : ∀ G : Hp, hidS (SA (⟨T, [], H⟩ : Fr) []) G = hidS T G := fun G => by rw [show SA (⟨T, [], H⟩ : Fr) [] = T from List.append_nil _]
  refine hB.rd.run ⟨T, [], H⟩ [] H _ _ r _ rfl rfl R er ?_
  cases r with
  | rt d' δ' =>
    cases e
    intro v H' X'
    refine q v H' (fun x hx => (X'.tq x hx).1) ?_ ?_
    · have := X'.sm
      rwa [eT, eT] at this
    · have := X'.vd
      rwa [eT] at this
  | nx δ' =>
    cases e
    intro A' H' σ' hA' X'
    have sub := X'.rt (d := .non) (v := .non) rfl
    refine q .non H' (fun x hx => (sub.tq x hx).1) ?_ rfl
    have := sub.sm
    rwa [eT, eT] at this
  | bk δ' => cases e
  | ct δ' => cases e
theorem ok_S {x qual : Str} {st : Stmt} {f : Addr} {fd : FuncData} {N ps : List Str} {k : Nat} {ms : MS} {O' : List Nat} (F : Fun K x qual st f fd) (S : FnScope N ps (defScope st))
    (h : ∀ (cdv : Value) (A : Around) (outer : List Env) (s : Shared) (H : Hp) (E : XK), Room k (A.deeper (envOfC qual (defScope st) s.heap.objs.size f cdv)) →
      ∃ t, SSD (cxOf CX0 P w K mg base N qual (defScope st) f cdv A outer s H E).nox [0] [] [0] (defBody st) t ms O') : FnOk P w K mg base CX0 (k + 1) f fd ps (spS (runS N.length ps.length ms)) := by
  have hlen : ∀ vs H Q E, spS (runS N.length ps.length ms) vs H Q E → vs.length = ps.length := fun vs H Q E ⟨T, a, ws, xs, ds0, ds, d, ds1, ev, _, _, _, _, _, hl, e, _⟩ => by
    rw [ev, List.length_cons, hl.length]
    unfold runS at e
    by_cases c : (D.seq true ds0 :: ds).length = ps.length
    · rw [← c]
      rfl
    · rw [if_neg c] at e
      cases e
  refine F.ok S hlen fun cdv A outer s H vs Q E hr hsp => ?_
  obtain ⟨t, hB⟩ := h cdv A outer s H E hr
  refine ⟨t, hB.pe, ?_⟩
  have hvl := hlen _ _ _ _ hsp
  obtain ⟨T, a, ws, xs, ds0, ds, d, ds1, rfl, hT, haT, ha, h0, hz0, hl, e, q⟩ := hsp
  unfold runS at e
  have hdl : (D.seq true ds0 :: ds).length = ps.length := by rw [List.length_cons, ← hl.length, ← hvl]; rfl
  rw [if_pos hdl] at e
  obtain ⟨r, er, e⟩ := bind_some e
  have mem : ∀ x, x ∈ SA (⟨T, [(0, a)], H⟩ : Fr) [(0, a)] ↔ x ∈ a :: T := fun x => by
    rw [mem_SA, List.mem_cons]
    constructor
    · rintro (h | ⟨p, hp, rfl⟩)
      · exact .inr h
      · rw [List.mem_singleton.mp hp]
        exact .inl rfl
    · rintro (rfl | h)
      · exact .inr ⟨_, List.mem_singleton.mpr rfl, rfl⟩
      · exact .inl h
  have eT : ∀ G : Hp, hidS (SA (⟨T, [(0, a)], H⟩ : Fr) [(0, a)]) G = hidS (a :: T) G := fun G => hidS_mem mem
  have R : Rl ⟨T, [(0, a)], H⟩ [(0, a)] H (L2.start N (.ref a :: ws)) (start N.length (.seq true ds0 :: ds)) := by
    refine ⟨?_, fun x hx => ⟨rfl, hT x hx⟩, Same.refl _, fun p hp => hp, fun p hp => .inl hp, by simp, by simp, fun p hp => by rw [List.mem_singleton.mp hp]; exact haT, fun p hp => ?_, fun i dd hi hn => ?_⟩
    · unfold start L2.start
      rw [List.length_append, List.length_append, List.length_map, List.length_map, List.length_replicate, List.length_replicate, List.length_cons, List.length_cons, hl.length]
    · rw [List.mem_singleton.mp hp]
      exact ⟨ds0, xs, rfl, rfl, ha, by rw [eT]; exact h0, hz0⟩
    · have hi2 := start_get hi
      cases i with
      | zero => exact (hn (by simp)).elim
      | succ i =>
        obtain ⟨v, hv, hA⟩ := hl.get (i := i) (d := dd) (by simpa using hi2)
        exact ⟨v, vstart_get (by simpa using hv), by rw [eT]; exact hA⟩
  refine hB.rd.run ⟨T, [(0, a)], H⟩ [(0, a)] H _ _ r _ rfl rfl R er ?_
  have fin : ∀ (d' : D) (δ' : DE) (v : V) (H' : Hp), Rt ⟨T, [(0, a)], H⟩ H' d' v δ' → (lstAt δ' 0).map (fun s => (d', D.seq true s)) = some (d, D.seq true ds1) → Q v H' := fun d' δ' v H' X' e => by
    obtain ⟨zs, e1, e2⟩ := map_some' e
    cases e2
    obtain ⟨cs, ys, p1, p3, p4, p5⟩ := X'.io (0, a) (List.mem_singleton.mpr rfl)
    rw [lstAt_of p1] at e1
    cases e1
    have s := X'.sm
    have hv := X'.vd
    rw [show (⟨T, [(0, a)], H⟩ : Fr).I = [(0, a)] from rfl, eT] at s hv p4
    rw [eT] at s
    exact q v H' ys (fun x hx => (X'.tq x hx).1) s p3 p4 p5 hv
  cases r with
  | rt d' δ' => exact fun v H' X' => fin d' δ' v H' X' e
  | nx δ' => exact fun A' H' σ' hA' X' => fin .non δ' .non H' (X'.rt rfl) e
  | bk δ' => cases e
  | ct δ' => cases e
end
end Kd
set_option Elab.async false
set_option linter.all false
set_option maxRecDepth 100000
set_option maxHeartbeats 4000000
namespace Kd
open PySem PySem.Spec PyProof.Rows L2 Kw
open PySem.SeqAt (EqAt RcAt)
/-! ### == of data -/
mutual
def eqD : D → D → Bool
  | .non, .non => true
  | .bl a, .bl b => a == b
  | .bl a, .int j => (if a then 1 else 0) == j
  | .int i, .bl b => i == (if b then 1 else 0)
  | .int i, .int j => i == j
  | .str x, .str y => x == y
  | .seq l xs, .seq k ys => (l == k) && eqDs xs ys
  | _, _ => false
def eqDs : List D → List D → Bool
  | [], [] => true
  | x :: xs, y :: ys => eqD x y && eqDs xs ys
  | _, _ => false
end
theorem eqDs_len : ∀ {xs ys : List D}, xs.length ≠ ys.length → eqDs xs ys = false
  | [], [], h => absurd rfl h
  | [], _ :: _, _ => rfl
  | _ :: _, [], _ => rfl
  | x :: xs, y :: ys, h => by
    show (eqD x y && eqDs xs ys) = false
    rw [eqDs_len fun e => h (by rw [List.length_cons, List.length_cons, e]), Bool.and_false]
theorem eqDs_all : ∀ {xs ys : List D}, xs.length = ys.length → eqDs xs ys = (List.range xs.length).all fun j => eqD (xs.getD j .non) (ys.getD j .non)
  | [], [], _ => rfl
  | x :: xs, y :: ys, h => by
    show (eqD x y && eqDs xs ys) = _
    rw [eqDs_all (xs := xs) (ys := ys) (by simpa using h), List.length_cons, List.range_succ_eq_map, List.all_cons, List.all_map]
    rfl
  | [], _ :: _, h => by cases h
  | _ :: _, [], h => by cases h
mutual
theorem eqD_refl : ∀ d : D, eqD d d = true
  | .non => rfl
  | .bl b => by show (b == b) = true; exact beq_self_eq_true b
  | .int i => by show (i == i) = true; exact beq_self_eq_true i
  | .str z => by show (z == z) = true; exact beq_self_eq_true z
  | .seq l xs => by
    show ((l == l) && eqDs xs xs) = true
    rw [beq_self_eq_true, eqDs_refl xs]
    rfl
theorem eqDs_refl : ∀ xs : List D, eqDs xs xs = true
  | [] => rfl
  | x :: xs => by
    show (eqD x x && eqDs xs xs) = true
    rw [eqD_refl x, eqDs_refl xs]
    rfl
end
mutual
theorem At.det {H : Hp} : ∀ {d e : D} {v : V}, At H d v → At H e v → d = e
  | .non, e, v, h, g => by
    cases (show v = .non from h)
    cases e with
    | non => rfl
    | bl b => cases (show V.non = .bl b from g)
    | int b => cases (show V.non = .int b from g)
    | str b => cases (show V.non = .str b from g)
    | seq l ds => obtain ⟨a, xs, z, _⟩ := g; cases z
  | .bl k, e, v, h, g => by
    cases (show v = .bl k from h)
    cases e with
    | non => cases (show V.bl k = .non from g)
    | bl b => cases (show V.bl k = .bl b from g); rfl
    | int b => cases (show V.bl k = .int b from g)
    | str b => cases (show V.bl k = .str b from g)
    | seq l ds => obtain ⟨a, xs, z, _⟩ := g; cases z
  | .int k, e, v, h, g => by
    cases (show v = .int k from h)
    cases e with
    | non => cases (show V.int k = .non from g)
    | bl b => cases (show V.int k = .bl b from g)
    | int b => cases (show V.int k = .int b from g); rfl
    | str b => cases (show V.int k = .str b from g)
    | seq l ds => obtain ⟨a, xs, z, _⟩ := g; cases z
  | .str k, e, v, h, g => by
    cases (show v = .str k from h)
    cases e with
    | non => cases (show V.str k = .non from g)
    | bl b => cases (show V.str k = .bl b from g)
    | int b => cases (show V.str k = .int b from g)
    | str b => cases (show V.str k = .str b from g); rfl
    | seq l ds => obtain ⟨a, xs, z, _⟩ := g; cases z
  | .seq l ds, e, v, h, g => by
    obtain ⟨a, xs, rfl, ha, hl, _⟩ := h
    cases e with
    | non => cases (show V.ref a = .non from g)
    | bl b => cases (show V.ref a = .bl b from g)
    | int b => cases (show V.ref a = .int b from g)
    | str b => cases (show V.ref a = .str b from g)
    | seq k es =>
      obtain ⟨b, ys, z, hb, hm, _⟩ := g
      cases z
      rw [ha] at hb
      cases l <;> cases k <;> first | (cases hb; done) | skip
      · cases hb
        rw [AtL.det hl hm]
      · cases hb
        rw [AtL.det hl hm]
theorem AtL.det {H : Hp} : ∀ {ds es : List D} {xs : List V}, AtL H ds xs → AtL H es xs → ds = es
  | [], es, xs, h, g => by
    cases (show xs = [] from h)
    cases es with
    | nil => rfl
    | cons e es => obtain ⟨_, _, z, _⟩ := g; cases z
  | d :: ds, es, xs, h, g => by
    obtain ⟨x, ys, rfl, h1, h2⟩ := h
    cases es with
    | nil => cases (show x :: ys = [] from g)
    | cons e es =>
      obtain ⟨_, _, z, g1, g2⟩ := g
      cases z
      rw [At.det h1 g1, AtL.det h2 g2]
end
section
variable {X : Cx} {pins : List (Addr × Obj)} {σ : L2.St} {H : Hp} {s : Shared}
theorem getD_of {α : Type} {l : List α} {i : Nat} {a z : α} (h : l[i]? = some a) : l.getD i z = a := by
  rw [List.getD_eq_getElem?_getD, h]
  rfl
/-- the items of a tracked sequence -/
theorem items_at (I : Inv X pins σ H s) {a : Addr} {l : Bool} {xs : List V} (ha : H a = some (seqO l xs)) : ∃ its : List Value, Vals xs its ∧ (if l = true then s.heap.IsList a its.toArray else s.heap.IsTuple a its.toArray) := by
  cases l with
  | true =>
    obtain ⟨its, r, p, _⟩ := I.list (SqL.of ha)
    exact ⟨its, r, p.isList⟩
  | false =>
    obtain ⟨its, r, p, _⟩ := I.tuple (SqT.of ha)
    exact ⟨its, r, p⟩
theorem seq_false {l k : Bool} {xs ys : List D} (h : l ≠ k) : eqD (.seq l xs) (.seq k ys) = false := by
  show ((l == k) && _) = false
  rw [beq_eq_false_iff_ne.mpr h, Bool.false_and]
/-- two sequences, their items being compared -/
theorem eq_seqs (I : Inv X pins σ H s) {A : Around} {l : Bool} {a b : Addr} {xs ys : List V} {ds es : List D} (ha : H a = some (seqO l xs)) (hb : H b = some (seqO l ys)) (hx : AtL H ds xs) (hy : AtL H es ys) (hu : A.units < cLine)
    (ih : ∀ (j : Nat) (d e : D) (x y : V) (u v : Value), ds[j]? = some d → es[j]? = some e → At H d x → At H e y → RelV x u → RelV y v → EqAt A.in1 s u v (eqD d e)) : RcAt A s (.ref a) (.ref b) (eqDs ds es) := by
  obtain ⟨its, r1, p1⟩ := items_at I ha
  obtain ⟨its2, r2, p2⟩ := items_at I hb
  have l1 : its.toArray.size = ds.length := by rw [List.size_toArray, ← r1.length, hx.length]
  have l2 : its2.toArray.size = es.length := by rw [List.size_toArray, ← r2.length, hy.length]
  have hh : ∀ j (h1 : j < its.toArray.size) (h2 : j < its2.toArray.size), EqAt A.in1 s its.toArray[j] its2.toArray[j] (eqD (ds.getD j .non) (es.getD j .non)) := fun j h1 h2 => by
    obtain ⟨d, hd⟩ := some_at (l := ds) (i := j) (by omega)
    obtain ⟨e, he⟩ := some_at (l := es) (i := j) (by omega)
    obtain ⟨x, hx', ax⟩ := hx.get hd
    obtain ⟨y, hy', ay⟩ := hy.get he
    obtain ⟨u, hu', ru⟩ := r1.get hx'
    obtain ⟨v, hv', rv⟩ := r2.get hy'
    have e1 : its.toArray[j] = u := by
      have := (List.getElem?_eq_some_iff.mp hu').2
      simpa using this
    have e2 : its2.toArray[j] = v := by
      have := (List.getElem?_eq_some_iff.mp hv').2
      simpa using this
    rw [e1, e2, getD_of hd, getD_of he]
    exact ih j d e x y u v hd he ax ay ru rv
  cases l with
  | true =>
    by_cases c : ds.length = es.length
    · rw [eqDs_all c, ← l1]
      exact RcAt.lists p1 p2 (by rw [l1, l2, c]) hu hh
    · rw [eqDs_len c]
      exact RcAt.lists_lengths p1 p2 (by rw [l1, l2]; exact bne_iff_ne.mpr c) hu
  | false =>
    have R := RcAt.tuples (e := fun j => eqD (ds.getD j .non) (es.getD j .non)) p1 p2 hu hh
    have e : ((List.range (min its.toArray.size its2.toArray.size)).all (fun j => eqD (ds.getD j .non) (es.getD j .non)) && its.toArray.size == its2.toArray.size) = eqDs ds es := by
      rw [l1, l2]
      by_cases c : ds.length = es.length
      · rw [eqDs_all c, c, Nat.min_self, beq_self_eq_true, Bool.and_true]
      · rw [eqDs_len c, beq_eq_false_iff_ne.mpr c, Bool.and_false]
    rwa [e] at R
theorem eq_kinds (I : Inv X pins σ H s) {A : Around} {l k : Bool} {a b : Addr} {xs ys : List V} (ha : H a = some (seqO l xs)) (hb : H b = some (seqO k ys)) (hlk : l ≠ k) (hu : A.units < cLine) : RcAt A s (.ref a) (.ref b) false ∧ EqAt A s (.ref a) (.ref b) false := by
  obtain ⟨its, r1, p1⟩ := items_at I ha
  obtain ⟨its2, r2, p2⟩ := items_at I hb
  cases l <;> cases k <;> first | exact absurd rfl hlk | skip
  · exact ⟨RcAt.tuple_list p1 p2 hu, EqAt.tuple_list p1 p2 hu⟩
  · exact ⟨RcAt.list_tuple p1 p2 hu, EqAt.list_tuple p1 p2 hu⟩
theorem eq_leafL (I : Inv X pins σ H s) {A : Around} {l : Bool} {a : Addr} {xs : List V} (ha : H a = some (seqO l xs)) (hu : A.units < cLine) :
    EqAt A s (.ref a) .none false ∧ EqAt A s .none (.ref a) false ∧ (∀ b, EqAt A s (.ref a) (.bool b) false ∧ EqAt A s (.bool b) (.ref a) false) ∧ (∀ i t, EqAt A s (.ref a) (.int i t) false ∧ EqAt A s (.int i t) (.ref a) false) ∧ (∀ z t, EqAt A s (.ref a) (.str z t) false ∧ EqAt A s (.str z t) (.ref a) false) := by
  obtain ⟨its, _, p⟩ := items_at I ha
  cases l with
  | true => exact ⟨.list_none p hu, .none_list p hu, fun b => ⟨.list_bool b p hu, .bool_list b p hu⟩, fun i t => ⟨.list_int i t p hu, .int_list i t p hu⟩, fun z t => ⟨.list_str z t p hu, .str_list z t p hu⟩⟩
  | false => exact ⟨.tuple_none p hu, .none_tuple p hu, fun b => ⟨.tuple_bool b p hu, .bool_tuple b p hu⟩, fun i t => ⟨.tuple_int i t p hu, .int_tuple i t p hu⟩, fun z t => ⟨.tuple_str z t p hu, .str_tuple z t p hu⟩⟩
theorem eq_at (I : Inv X pins σ H s) : ∀ (n : Nat) (d e : D) (x y : V) (u v : Value) (A : Around), d.dep ≤ n → At H d x → At H e y → RelV x u → RelV y v → A.units + n < cLine → EqAt A s u v (eqD d e) := by
  intro n
  induction n with
  | zero =>
    intro d e x y u v A hd h g r q hu
    have hu' : A.units < cLine := by omega
    cases d with
    | seq l ds => exact absurd hd (by show ¬ (depL ds + 1 ≤ 0); omega)
    | non =>
      cases (show x = .non from h); cases (show u = Value.none from r)
      cases e with
      | non => cases (show y = .non from g); cases (show v = Value.none from q); exact .same _
      | bl b => cases (show y = .bl b from g); cases (show v = Value.bool b from q); exact .none_bool b
      | int b => cases (show y = .int b from g); obtain ⟨t, rfl⟩ := q; exact .none_int b t
      | str b => cases (show y = .str b from g); obtain ⟨t, rfl⟩ := q; exact .none_str b t
      | seq k es => obtain ⟨b, ys, rfl, hb, _⟩ := g; cases (show v = Value.ref b from q); exact (eq_leafL I hb hu').2.1
    | bl a =>
      cases (show x = .bl a from h); cases (show u = Value.bool a from r)
      cases e with
      | non => cases (show y = .non from g); cases (show v = Value.none from q); exact .bool_none a
      | bl b => cases (show y = .bl b from g); cases (show v = Value.bool b from q); exact .bool_bool a b
      | int b => cases (show y = .int b from g); obtain ⟨t, rfl⟩ := q; exact .bool_int a b t
      | str b => cases (show y = .str b from g); obtain ⟨t, rfl⟩ := q; exact .bool_str a b t
      | seq k es => obtain ⟨b, ys, rfl, hb, _⟩ := g; cases (show v = Value.ref b from q); exact ((eq_leafL I hb hu').2.2.1 a).2
    | int a =>
      cases (show x = .int a from h); obtain ⟨tt, rfl⟩ := r
      cases e with
      | non => cases (show y = .non from g); cases (show v = Value.none from q); exact .int_none a tt
      | bl b => cases (show y = .bl b from g); cases (show v = Value.bool b from q); exact .int_bool a tt b
      | int b => cases (show y = .int b from g); obtain ⟨t, rfl⟩ := q; exact .int_int a tt b t
      | str b => cases (show y = .str b from g); obtain ⟨t, rfl⟩ := q; exact .int_str a tt b t
      | seq k es => obtain ⟨b, ys, rfl, hb, _⟩ := g; cases (show v = Value.ref b from q); exact ((eq_leafL I hb hu').2.2.2.1 a tt).2
    | str a =>
      cases (show x = .str a from h); obtain ⟨tt, rfl⟩ := r
      cases e with
      | non => cases (show y = .non from g); cases (show v = Value.none from q); exact .str_none a tt
      | bl b => cases (show y = .bl b from g); cases (show v = Value.bool b from q); exact .str_bool a tt b
      | int b => cases (show y = .int b from g); obtain ⟨t, rfl⟩ := q; exact .str_int a tt b t
      | str b => cases (show y = .str b from g); obtain ⟨t, rfl⟩ := q; exact .str_str a tt b t
      | seq k es => obtain ⟨b, ys, rfl, hb, _⟩ := g; cases (show v = Value.ref b from q); exact ((eq_leafL I hb hu').2.2.2.2 a tt).2
  | succ n ih =>
    intro d e x y u v A hd h g r q hu
    have hu' : A.units < cLine := by omega
    cases d with
    | seq l ds =>
      obtain ⟨a, xs, rfl, ha, hl, _⟩ := h
      cases (show u = Value.ref a from r)
      cases e with
      | non => cases (show y = .non from g); cases (show v = Value.none from q); exact (eq_leafL I ha hu').1
      | bl b => cases (show y = .bl b from g); cases (show v = Value.bool b from q); exact ((eq_leafL I ha hu').2.2.1 b).1
      | int b => cases (show y = .int b from g); obtain ⟨t, rfl⟩ := q; exact ((eq_leafL I ha hu').2.2.2.1 b t).1
      | str b => cases (show y = .str b from g); obtain ⟨t, rfl⟩ := q; exact ((eq_leafL I ha hu').2.2.2.2 b t).1
      | seq k es =>
        obtain ⟨b, ys, rfl, hb, hm, _⟩ := g
        cases (show v = Value.ref b from q)
        by_cases c : l = k
        · subst c
          by_cases ab : a = b
          · subst ab
            rw [ha] at hb
            have : xs = ys := by cases l <;> (cases hb; rfl)
            subst this
            rw [AtL.det hl hm, eqD_refl]
            exact .same _
          · have e : eqD (.seq l ds) (.seq l es) = eqDs ds es := by
              show ((l == l) && _) = _
              rw [beq_self_eq_true, Bool.true_and]
            rw [e]
            refine .of_refs ab (eq_seqs I ha hb hl hm hu' fun j d e x y u v hj he hx hy hru hrv => ih d e x y u v A.in1 ?_ hx hy hru hrv (by rw [PyProof.Rows.units_in1]; omega))
            have h1 : d.dep ≤ depL ds := dep_get hj
            have h2 : depL ds + 1 ≤ n + 1 := hd
            omega
        · rw [seq_false c]
          exact (eq_kinds I ha hb c hu').2
    | non => exact (ih _ e x y u v A (Nat.zero_le _) h g r q (by omega))
    | bl a => exact (ih _ e x y u v A (Nat.zero_le _) h g r q (by omega))
    | int a => exact (ih _ e x y u v A (Nat.zero_le _) h g r q (by omega))
    | str a => exact (ih _ e x y u v A (Nat.zero_le _) h g r q (by omega))
end
/-! ### the operators == and != -/
def rEqA (neg : Bool) : R2 := fun x y H Q => ∃ (S : List Addr) (d e : D), d.dep ≤ 60 ∧ At (hidS S H) d x ∧ At (hidS S H) e y ∧ Q (.bl (if neg then !eqD d e else eqD d e)) H
def leafD : D → Bool
  | .seq _ _ => false
  | _ => true
def eqO (neg : Bool) : D → D → Option D := fun d e => if d.dep ≤ 60 then some (.bl (if neg then !eqD d e else eqD d e)) else none
theorem ro_eq {neg : Bool} : Ro2 (rEqA neg) (eqO neg) := by
  intro S H x y dx dy d Q hS h1 h2 e q
  unfold eqO at e
  by_cases c : dx.dep ≤ 60
  · rw [if_pos c] at e
    cases e
    exact ⟨S, dx, dy, c, h1, h2, q _ _ (Same.refl _) rfl⟩
  · rw [if_neg c] at e
    cases e
section
variable {X : Cx}
theorem rc_at {pins : List (Addr × Obj)} {σ : L2.St} {H : Hp} {s : Shared} (I : Inv X pins σ H s) {d e : D} {x y : V} {u v : Value} {A : Around} (hd : d.dep ≤ 60) (h : At H d x) (g : At H e y) (r : RelV x u) (q : RelV y v) (hu : A.units + 64 < cLine) :
    (scal x y = true ∧ decide (x = y) = eqD d e) ∨ RcAt A s u v (eqD d e) := by
  have hu' : A.units < cLine := by omega
  cases d with
  | non =>
    cases (show x = .non from h)
    cases e with
    | non => cases (show y = .non from g); exact .inl ⟨rfl, rfl⟩
    | bl b => cases (show y = .bl b from g); exact .inl ⟨rfl, rfl⟩
    | int b => cases (show y = .int b from g); exact .inl ⟨rfl, rfl⟩
    | str b => cases (show y = .str b from g); exact .inl ⟨rfl, rfl⟩
    | seq k es =>
      obtain ⟨b, ys, rfl, hb, _⟩ := g; cases (show v = Value.ref b from q); cases (show u = Value.none from r)
      obtain ⟨its, _, p⟩ := items_at I hb
      cases k with
      | true => exact .inr (RcAt.none_list p hu')
      | false => exact .inr (RcAt.none_tuple p hu')
  | bl a =>
    cases (show x = .bl a from h)
    cases e with
    | non => cases (show y = .non from g); exact .inl ⟨rfl, rfl⟩
    | bl b => cases (show y = .bl b from g); exact .inl ⟨rfl, by cases a <;> cases b <;> rfl⟩
    | int b => cases (show y = .int b from g); cases (show u = Value.bool a from r); obtain ⟨t, rfl⟩ := q; exact .inr (RcAt.bool_int a b t)
    | str b => cases (show y = .str b from g); cases (show u = Value.bool a from r); obtain ⟨t, rfl⟩ := q; exact .inr (RcAt.bool_str a b t)
    | seq k es =>
      obtain ⟨b, ys, rfl, hb, _⟩ := g; cases (show v = Value.ref b from q); cases (show u = Value.bool a from r)
      obtain ⟨its, _, p⟩ := items_at I hb
      cases k with
      | true => exact .inr (RcAt.bool_list a p hu')
      | false => exact .inr (RcAt.bool_tuple a p hu')
  | int a =>
    cases (show x = .int a from h)
    cases e with
    | non => cases (show y = .non from g); exact .inl ⟨rfl, rfl⟩
    | bl b => cases (show y = .bl b from g); obtain ⟨t, rfl⟩ := r; cases (show v = Value.bool b from q); exact .inr (RcAt.int_bool a t b)
    | int b =>
      cases (show y = .int b from g)
      refine .inl ⟨rfl, ?_⟩
      show decide (V.int a = V.int b) = (a == b)
      exact dec_int
    | str b =>
      cases (show y = .str b from g)
      obtain ⟨t, rfl⟩ := r; obtain ⟨t', rfl⟩ := q
      exact .inr (RcAt.int_str a t b t')
    | seq k es =>
      obtain ⟨b, ys, rfl, hb, _⟩ := g; cases (show v = Value.ref b from q); obtain ⟨t, rfl⟩ := r
      obtain ⟨its, _, p⟩ := items_at I hb
      cases k with
      | true => exact .inr (RcAt.int_list a t p hu')
      | false => exact .inr (RcAt.int_tuple a t p hu')
  | str a =>
    cases (show x = .str a from h)
    cases e with
    | non => cases (show y = .non from g); exact .inl ⟨rfl, rfl⟩
    | bl b => cases (show y = .bl b from g); obtain ⟨t, rfl⟩ := r; cases (show v = Value.bool b from q); exact .inr (RcAt.str_bool a t b)
    | int b => cases (show y = .int b from g); obtain ⟨t, rfl⟩ := r; obtain ⟨t', rfl⟩ := q; exact .inr (RcAt.str_int a t b t')
    | str b =>
      cases (show y = .str b from g)
      refine .inl ⟨rfl, ?_⟩
      show decide (V.str a = V.str b) = (a == b)
      by_cases c : a = b
      · subst c
        rw [decide_eq_true rfl, beq_self_eq_true]
      · rw [decide_eq_false fun z => c (V.str.inj z), beq_eq_false_iff_ne.mpr c]
    | seq k es =>
      obtain ⟨b, ys, rfl, hb, _⟩ := g; cases (show v = Value.ref b from q); obtain ⟨t, rfl⟩ := r
      obtain ⟨its, _, p⟩ := items_at I hb
      cases k with
      | true => exact .inr (RcAt.str_list a t p hu')
      | false => exact .inr (RcAt.str_tuple a t p hu')
  | seq l ds =>
    obtain ⟨a, xs, rfl, ha, hl, _⟩ := h
    cases (show u = Value.ref a from r)
    obtain ⟨its, _, p⟩ := items_at I ha
    cases e with
    | non =>
      cases (show y = .non from g); cases (show v = Value.none from q)
      cases l with
      | true => exact .inr (RcAt.list_none p hu')
      | false => exact .inr (RcAt.tuple_none p hu')
    | bl b =>
      cases (show y = .bl b from g); cases (show v = Value.bool b from q)
      cases l with
      | true => exact .inr (RcAt.list_bool b p hu')
      | false => exact .inr (RcAt.tuple_bool b p hu')
    | int b =>
      cases (show y = .int b from g); obtain ⟨t, rfl⟩ := q
      cases l with
      | true => exact .inr (RcAt.list_int b t p hu')
      | false => exact .inr (RcAt.tuple_int b t p hu')
    | str b =>
      cases (show y = .str b from g); obtain ⟨t, rfl⟩ := q
      cases l with
      | true => exact .inr (RcAt.list_str b t p hu')
      | false => exact .inr (RcAt.tuple_str b t p hu')
    | seq k es =>
      obtain ⟨b, ys, rfl, hb, hm, _⟩ := g
      cases (show v = Value.ref b from q)
      by_cases c : l = k
      · subst c
        have e : eqD (.seq l ds) (.seq l es) = eqDs ds es := by
          show ((l == l) && _) = _
          rw [beq_self_eq_true, Bool.true_and]
        rw [e]
        refine .inr (eq_seqs I ha hb hl hm hu' fun j d e x y u v hj he hx hy hru hrv => eq_at I 60 d e x y u v A.in1 ?_ hx hy hru hrv (by rw [PyProof.Rows.units_in1]; omega))
        have h1 : d.dep ≤ depL ds := dep_get hj
        have h2 : depL ds + 1 ≤ 60 := hd
        omega
      · rw [seq_false c]
        exact .inr (eq_kinds I ha hb c hu').1
theorem op_eqA (hu : X.A.units + 64 < cLine) : OpR X (compareOp .Eq) (rEqA false) := by
  intro pins s σ H x y v u Q I rx ry h
  obtain ⟨S, d, e, hd, h1, h2, q⟩ := h
  rcases rc_at I hd h1.out h2.out rx ry hu with ⟨c, ec⟩ | c
  · exact op_eq pins s σ H x y v u Q I rx ry ⟨c, by rw [ec]; exact q⟩
  · exact c _ _ _ _ ⟨.bl _, H, I, rfl, q⟩
end
end Kd
set_option Elab.async false
set_option linter.all false
set_option maxRecDepth 100000
set_option maxHeartbeats 4000000
namespace Kd
open PySem PySem.Spec PyProof.Rows L2 Kw
open PySem.SeqAt (EqAt RcAt RcNeAt)
section
variable {X : Cx} {pins : List (Addr × Obj)} {σ : L2.St} {H : Hp} {s : Shared}
theorem ne_seqs (I : Inv X pins σ H s) {A : Around} {l : Bool} {a b : Addr} {xs ys : List V} {ds es : List D} (ha : H a = some (seqO l xs)) (hb : H b = some (seqO l ys)) (hx : AtL H ds xs) (hy : AtL H es ys) (hu : A.units < cLine)
    (ih : ∀ (j : Nat) (d e : D) (x y : V) (u v : Value), ds[j]? = some d → es[j]? = some e → At H d x → At H e y → RelV x u → RelV y v → EqAt A.in1 s u v (eqD d e)) : RcNeAt A s (.ref a) (.ref b) (!eqDs ds es) := by
  obtain ⟨its, r1, p1⟩ := items_at I ha
  obtain ⟨its2, r2, p2⟩ := items_at I hb
  have l1 : its.toArray.size = ds.length := by rw [List.size_toArray, ← r1.length, hx.length]
  have l2 : its2.toArray.size = es.length := by rw [List.size_toArray, ← r2.length, hy.length]
  have hh : ∀ j (h1 : j < its.toArray.size) (h2 : j < its2.toArray.size), EqAt A.in1 s its.toArray[j] its2.toArray[j] (eqD (ds.getD j .non) (es.getD j .non)) := fun j h1 h2 => by
    obtain ⟨d, hd⟩ := some_at (l := ds) (i := j) (by omega)
    obtain ⟨e, he⟩ := some_at (l := es) (i := j) (by omega)
    obtain ⟨x, hx', ax⟩ := hx.get hd
    obtain ⟨y, hy', ay⟩ := hy.get he
    obtain ⟨u, hu', ru⟩ := r1.get hx'
    obtain ⟨v, hv', rv⟩ := r2.get hy'
    have e1 : its.toArray[j] = u := by
      have := (List.getElem?_eq_some_iff.mp hu').2
      simpa using this
    have e2 : its2.toArray[j] = v := by
      have := (List.getElem?_eq_some_iff.mp hv').2
      simpa using this
    rw [e1, e2, getD_of hd, getD_of he]
    exact ih j d e x y u v hd he ax ay ru rv
  cases l with
  | true =>
    by_cases c : ds.length = es.length
    · rw [eqDs_all c, ← l1]
      exact RcNeAt.lists p1 p2 (by rw [l1, l2, c]) hu hh
    · rw [eqDs_len c]
      exact RcNeAt.lists_lengths p1 p2 (by rw [l1, l2]; exact bne_iff_ne.mpr c) hu
  | false =>
    have R := RcNeAt.tuples (e := fun j => eqD (ds.getD j .non) (es.getD j .non)) p1 p2 hu hh
    have e : ((List.range (min its.toArray.size its2.toArray.size)).all (fun j => eqD (ds.getD j .non) (es.getD j .non)) && its.toArray.size == its2.toArray.size) = eqDs ds es := by
      rw [l1, l2]
      by_cases c : ds.length = es.length
      · rw [eqDs_all c, c, Nat.min_self, beq_self_eq_true, Bool.and_true]
      · rw [eqDs_len c, beq_eq_false_iff_ne.mpr c, Bool.and_false]
    rwa [e] at R
theorem rcne_at (I : Inv X pins σ H s) {d e : D} {x y : V} {u v : Value} {A : Around} (hd : d.dep ≤ 60) (h : At H d x) (g : At H e y) (r : RelV x u) (q : RelV y v) (hu : A.units + 64 < cLine) : RcNeAt A s u v (!eqD d e) := by
  have hu' : A.units < cLine := by omega
  cases d with
  | non =>
    cases (show x = .non from h); cases (show u = Value.none from r)
    cases e with
    | non => cases (show y = .non from g); cases (show v = Value.none from q); exact .none_none
    | bl b => cases (show y = .bl b from g); cases (show v = Value.bool b from q); exact .none_bool b
    | int b => cases (show y = .int b from g); obtain ⟨t, rfl⟩ := q; exact .none_int b t
    | str b => cases (show y = .str b from g); obtain ⟨t, rfl⟩ := q; exact .none_str b t
    | seq k es =>
      obtain ⟨b, ys, rfl, hb, _⟩ := g; cases (show v = Value.ref b from q)
      obtain ⟨its, _, p⟩ := items_at I hb
      cases k with
      | true => exact RcNeAt.none_list p hu'
      | false => exact RcNeAt.none_tuple p hu'
  | bl a =>
    cases (show x = .bl a from h); cases (show u = Value.bool a from r)
    cases e with
    | non => cases (show y = .non from g); cases (show v = Value.none from q); exact .bool_none a
    | bl b => cases (show y = .bl b from g); cases (show v = Value.bool b from q); exact .bool_bool a b
    | int b => cases (show y = .int b from g); obtain ⟨t, rfl⟩ := q; exact .bool_int a b t
    | str b => cases (show y = .str b from g); obtain ⟨t, rfl⟩ := q; exact .bool_str a b t
    | seq k es =>
      obtain ⟨b, ys, rfl, hb, _⟩ := g; cases (show v = Value.ref b from q)
      obtain ⟨its, _, p⟩ := items_at I hb
      cases k with
      | true => exact RcNeAt.bool_list a p hu'
      | false => exact RcNeAt.bool_tuple a p hu'
  | int a =>
    cases (show x = .int a from h); obtain ⟨tt, rfl⟩ := r
    cases e with
    | non => cases (show y = .non from g); cases (show v = Value.none from q); exact .int_none a tt
    | bl b => cases (show y = .bl b from g); cases (show v = Value.bool b from q); exact .int_bool a tt b
    | int b => cases (show y = .int b from g); obtain ⟨t, rfl⟩ := q; exact .int_int a tt b t
    | str b => cases (show y = .str b from g); obtain ⟨t, rfl⟩ := q; exact .int_str a tt b t
    | seq k es =>
      obtain ⟨b, ys, rfl, hb, _⟩ := g; cases (show v = Value.ref b from q)
      obtain ⟨its, _, p⟩ := items_at I hb
      cases k with
      | true => exact RcNeAt.int_list a tt p hu'
      | false => exact RcNeAt.int_tuple a tt p hu'
  | str a =>
    cases (show x = .str a from h); obtain ⟨tt, rfl⟩ := r
    cases e with
    | non => cases (show y = .non from g); cases (show v = Value.none from q); exact .str_none a tt
    | bl b => cases (show y = .bl b from g); cases (show v = Value.bool b from q); exact .str_bool a tt b
    | int b => cases (show y = .int b from g); obtain ⟨t, rfl⟩ := q; exact .str_int a tt b t
    | str b => cases (show y = .str b from g); obtain ⟨t, rfl⟩ := q; exact .str_str a tt b t
    | seq k es =>
      obtain ⟨b, ys, rfl, hb, _⟩ := g; cases (show v = Value.ref b from q)
      obtain ⟨its, _, p⟩ := items_at I hb
      cases k with
      | true => exact RcNeAt.str_list a tt p hu'
      | false => exact RcNeAt.str_tuple a tt p hu'
  | seq l ds =>
    obtain ⟨a, xs, rfl, ha, hl, _⟩ := h
    cases (show u = Value.ref a from r)
    obtain ⟨its, _, p⟩ := items_at I ha
    cases e with
    | non =>
      cases (show y = .non from g); cases (show v = Value.none from q)
      cases l with
      | true => exact RcNeAt.list_none p hu'
      | false => exact RcNeAt.tuple_none p hu'
    | bl b =>
      cases (show y = .bl b from g); cases (show v = Value.bool b from q)
      cases l with
      | true => exact RcNeAt.list_bool b p hu'
      | false => exact RcNeAt.tuple_bool b p hu'
    | int b =>
      cases (show y = .int b from g); obtain ⟨t, rfl⟩ := q
      cases l with
      | true => exact RcNeAt.list_int b t p hu'
      | false => exact RcNeAt.tuple_int b t p hu'
    | str b =>
      cases (show y = .str b from g); obtain ⟨t, rfl⟩ := q
      cases l with
      | true => exact RcNeAt.list_str b t p hu'
      | false => exact RcNeAt.tuple_str b t p hu'
    | seq k es =>
      obtain ⟨b, ys, rfl, hb, hm, _⟩ := g
      cases (show v = Value.ref b from q)
      by_cases c : l = k
      · subst c
        have e : eqD (.seq l ds) (.seq l es) = eqDs ds es := by
          show ((l == l) && _) = _
          rw [beq_self_eq_true, Bool.true_and]
        rw [e]
        refine ne_seqs I ha hb hl hm hu' fun j d e x y u v hj he hx hy hru hrv => eq_at I 60 d e x y u v A.in1 ?_ hx hy hru hrv (by rw [PyProof.Rows.units_in1]; omega)
        have h1 : d.dep ≤ depL ds := dep_get hj
        have h2 : depL ds + 1 ≤ 60 := hd
        omega
      · rw [seq_false c]
        obtain ⟨its2, _, p2⟩ := items_at I hb
        cases l <;> cases k <;> first | exact absurd rfl c | skip
        · exact RcNeAt.tuple_list p p2 hu'
        · exact RcNeAt.list_tuple p p2 hu'
end
section
variable {X : Cx}
theorem op_neA (hu : X.A.units + 64 < cLine) : OpR X (compareOp .NotEq) (rEqA true) := by
  intro pins s σ H x y v u Q I rx ry h
  obtain ⟨S, d, e, hd, h1, h2, q⟩ := h
  exact rcne_at I hd h1.out h2.out rx ry hu _ _ _ _ ⟨.bl _, H, I, rfl, q⟩
/-! ### in, not in -/
def rInA (neg : Bool) : R2 := fun x y H Q => ∃ (S : List Addr) (d : D) (l : Bool) (es : List D), (∀ e ∈ es, e.dep ≤ 60) ∧ At (hidS S H) d x ∧ At (hidS S H) (.seq l es) y ∧ Q (.bl (if neg then !(es.any fun e => eqD e d) else es.any fun e => eqD e d)) H
def inO (neg : Bool) : D → D → Option D := fun d e => match e with
  | .seq _ es => if es.all (fun e => decide (e.dep ≤ 60)) = true then some (.bl (if neg then !(es.any fun e => eqD e d) else es.any fun e => eqD e d)) else none
  | _ => none
theorem ro_in {neg : Bool} : Ro2 (rInA neg) (inO neg) := by
  intro S H x y dx dy d Q hS h1 h2 e q
  cases dy with
  | seq l es =>
    replace e : (if es.all (fun e => decide (e.dep ≤ 60)) = true then some (D.bl (if neg then !(es.any fun e => eqD e dx) else es.any fun e => eqD e dx)) else none) = some d := e
    by_cases c : es.all (fun e => decide (e.dep ≤ 60)) = true
    · rw [if_pos c] at e
      cases e
      exact ⟨S, dx, l, es, fun e he => of_decide_eq_true (List.all_eq_true.mp c e he), h1, h2, q _ _ (Same.refl _) rfl⟩
    · rw [if_neg c] at e
      cases e
  | _ => cases e
theorem any_rel {R : D → Value → Prop} {p : D → Bool} : ∀ {ds : List D} {us : List Value} {f : Value → Bool}, (∀ (j : Nat) d u, ds[j]? = some d → us[j]? = some u → p d = f u) → ds.length = us.length → ds.any p = us.any f
  | [], [], _, _, _ => rfl
  | d :: ds, u :: us, f, h, hl => by
    rw [List.any_cons, List.any_cons, h 0 d u rfl rfl, any_rel (R := R) (ds := ds) (us := us) (f := f) (fun j d u h1 h2 => h (j + 1) d u (by simpa using h1) (by simpa using h2)) (by simpa using hl)]
  | [], _ :: _, _, _, h => by cases h
  | _ :: _, [], _, _, h => by cases h
def unV : Value → V
  | .none => .non
  | .bool b => .bl b
  | .int i _ => .int i
  | .str x _ => .str x
  | .bytes b _ => .byt b
  | .float b _ => .flt b
  | .ref a => .ref a
  | .type n => .ty n
  | _ => .non
theorem unV_of {x : V} {u : Value} (h : L2.RelV x u) : unV u = x := by
  cases x with
  | non => cases (show u = Value.none from h); rfl
  | bl b => cases (show u = Value.bool b from h); rfl
  | ref b => cases (show u = Value.ref b from h); rfl
  | ty b => cases (show u = Value.type b from h); rfl
  | int i => obtain ⟨t, rfl⟩ := h; rfl
  | str i => obtain ⟨t, rfl⟩ := h; rfl
  | byt i => obtain ⟨t, rfl⟩ := h; rfl
  | flt i => obtain ⟨t, rfl⟩ := h; rfl
theorem relV_det {x y : V} {u : Value} (h : L2.RelV x u) (g : L2.RelV y u) : x = y := (unV_of h).symm.trans (unV_of g)
noncomputable def eqTo (H : Hp) (d : D) (u : Value) : Bool := @decide (∃ x e, L2.RelV x u ∧ At H e x ∧ eqD e d = true) (Classical.propDecidable _)
theorem eqTo_at {H : Hp} {d e : D} {x : V} {u : Value} (r : L2.RelV x u) (h : At H e x) : eqTo H d u = eqD e d := by
  unfold eqTo
  cases c : eqD e d with
  | true => exact @decide_eq_true _ (Classical.propDecidable _) ⟨x, e, r, h, c⟩
  | false =>
    refine @decide_eq_false _ (Classical.propDecidable _) fun ⟨y, e2, r2, h2, c2⟩ => ?_
    cases relV_det r r2
    cases At.det h h2
    rw [c] at c2
    cases c2
theorem in_core {pins : List (Addr × Obj)} {σ : L2.St} {H : Hp} {s : Shared} (I : Inv X pins σ H s) {d : D} {es : List D} {x : V} {v : Value} {l : Bool} {b : Addr} {ys : List V} {A : Around} (he : ∀ e ∈ es, e.dep ≤ 60) (h : At H d x) (r : RelV x v) (hb : H b = some (seqO l ys)) (hl : AtL H es ys) (hu : A.units + 64 < cLine) :
    ∃ its : Array Value, (if l = true then s.heap.IsList b its else s.heap.IsTuple b its) ∧ (∀ y, y ∈ its → EqAt A.in1 s y v (eqTo H d y)) ∧ its.any (eqTo H d) = es.any fun e => eqD e d := by
  obtain ⟨its, r1, p1⟩ := items_at I hb
  have l1 : its.length = es.length := by rw [← r1.length, hl.length]
  have at' : ∀ (j : Nat) e u, es[j]? = some e → its[j]? = some u → ∃ y, RelV y u ∧ At H e y := fun j e u h1 h2 => by
    obtain ⟨y, hy, ha⟩ := hl.get h1
    obtain ⟨u', hu', ru⟩ := r1.get hy
    rw [h2] at hu'
    cases hu'
    exact ⟨y, ru, ha⟩
  refine ⟨its.toArray, ?_, fun y hy => ?_, ?_⟩
  · cases l
    · exact p1
    · exact p1
  · have hy : y ∈ its := by simpa using hy
    obtain ⟨j, hj⟩ := List.getElem?_of_mem hy
    obtain ⟨e, hje⟩ := some_at (l := es) (i := j) (by rw [← l1]; exact (List.getElem?_eq_some_iff.mp hj).1)
    obtain ⟨z, rz, az⟩ := at' j e y hje hj
    rw [eqTo_at rz az]
    exact eq_at I 60 e d z x y v A.in1 (he e (List.mem_of_getElem? hje)) az h rz r (by rw [PyProof.Rows.units_in1]; omega)
  · rw [List.any_toArray]
    symm
    refine any_rel (R := fun _ _ => True) (fun j e u h1 h2 => ?_) l1.symm
    obtain ⟨z, rz, az⟩ := at' j e u h1 h2
    exact (eqTo_at rz az).symm
theorem op_inA (hu : X.A.units + 64 < cLine) : OpR X (compareOp .In) (rInA false) := by
  intro pins s σ H x y v u Q I rx ry h
  obtain ⟨S, d, l, es, he, h1, h2, q⟩ := h
  obtain ⟨b, ys, rfl, hb, hl, _⟩ := h2.out
  cases (show u = Value.ref b from ry)
  obtain ⟨its, p, he2, ea⟩ := in_core I he h1.out rx hb hl hu
  cases l with
  | true => exact SeqAt.in_listAt (eqTo H d) p he2 ⟨.bl _, H, I, rfl, by rw [ea]; exact q⟩
  | false => exact SeqAt.in_tupleAt (eqTo H d) p he2 ⟨.bl _, H, I, rfl, by rw [ea]; exact q⟩
theorem op_notinA (hu : X.A.units + 64 < cLine) : OpR X (compareOp .NotIn) (rInA true) := by
  intro pins s σ H x y v u Q I rx ry h
  obtain ⟨S, d, l, es, he, h1, h2, q⟩ := h
  obtain ⟨b, ys, rfl, hb, hl, _⟩ := h2.out
  cases (show u = Value.ref b from ry)
  obtain ⟨its, p, he2, ea⟩ := in_core I he h1.out rx hb hl hu
  cases l with
  | true => exact SeqAt.notIn_listAt (eqTo H d) p he2 ⟨.bl _, H, I, rfl, by rw [ea]; exact q⟩
  | false => exact SeqAt.notIn_tupleAt (eqTo H d) p he2 ⟨.bl _, H, I, rfl, by rw [ea]; exact q⟩
/-! ### slices -/
def cutO (d : D) (lo hi : Option Int) : Option D := match d with
  | .seq l ds => some (.seq l (cutD ds lo hi))
  | .str z => if z.length ≤ 16000000 then some (.str (cutS z lo hi)) else none
  | _ => none
abbrev MO := DE → Option (Option Int × DE)
def mNoP : MO := fun δ => some (none, δ)
def mPart (m : M) : MO := fun δ => (m δ).bind fun p => (intOf p.1).map fun i => (some i, p.2)
def mSl (m : M) (lo hi : MO) : M := fun δ => (m δ).bind fun p => (lo p.2).bind fun q => (hi q.2).bind fun r => (cutO p.1 q.1 r.1).map fun d => (d, r.2)
structure Rdo (O : List Nat) (t : TO) (m : MO) : Prop where
  run : ∀ (f : Fr) (A : Own) (H : Hp) (σ : L2.St) (δ : DE) (d : Option Int) (δ' : DE) (Q : Option Int → Hp → Prop), A.map (·.1) = O → Rl f A H σ δ → m δ = some (d, δ') →
    (∀ H', Rl f A H' σ δ' → Same (hidS (SA f A) H) (hidS (SA f A) H') → Q d H') → t σ H Q
structure OD (X : Cx) (O : List Nat) (e : Option Expr) (t : TO) (m : MO) : Prop where
  pe : PO X e t
  rd : Rdo O t m
variable {O : List Nat} {e : Expr} {te : TE} {m : M} {pos p2 : Pos}
theorem od_none : OD X O none tNoPart mNoP := ⟨po_none, ⟨fun f A H σ δ d δ' Q hA R hm q => by
  cases hm
  exact q H R (Same.refl _)⟩⟩
theorem od_some (h : ED X O e te m) : OD X O (some e) (tPart te) (mPart m) := ⟨po_some h.pe, ⟨fun f A H σ δ d δ' Q hA R hm q => by
  obtain ⟨⟨dx, δ1⟩, e1, hm⟩ := bind_some hm
  obtain ⟨i, ei, hm⟩ := map_some' hm
  cases hm
  refine h.rd.run f A H σ δ dx _ _ hA R e1 fun v H1 R1 s1 h1 => ?_
  cases (show dx = .int i from intOf_some ei)
  exact ⟨i, h1, q H1 R1 s1⟩⟩⟩
def rSlD (K : PySem.W.Frag) : V → Option Int → Option Int → Hp → VK → Prop := fun x lo hi H Q => (rSlL K x lo hi H Q ∨ rSlS x lo hi H Q) ∨ (∃ (S : List Addr) (ds : List D), (∀ y ∈ S, H y ≠ none) ∧ At (hidS S H) (.seq false ds) x ∧ ∀ H' u, Same H H' → At (hidS S H') (.seq false (cutD ds lo hi)) u → Q u H')
theorem sl_D : SlR X (rSlD X.K) := (sl_list.or sl_str).or sl_tupD
theorem ed_sl {lo hi : Option Expr} {tl th : TO} {ml mh : MO} (h : ED X O e te m) (hl : OD X O lo tl ml) (hh : OD X O hi th mh) : ED X O (.Subscript e (.Slice lo hi none p2) pos) (tSl (rSlD X.K) te tl th) (mSl m ml mh) := by
  refine ⟨pe_slice sl_D h.pe hl.pe hh.pe, ⟨fun f A H σ δ d δ' Q hA R hm q => ?_⟩⟩
  obtain ⟨⟨dx, δ1⟩, e1, hm⟩ := bind_some hm
  obtain ⟨⟨l, δ2⟩, e2, hm⟩ := bind_some hm
  obtain ⟨⟨u, δ3⟩, e3, hm⟩ := bind_some hm
  obtain ⟨d', e4, hm⟩ := map_some' hm
  cases hm
  refine h.rd.run f A H σ δ dx _ _ hA R e1 fun v H1 R1 s1 h1 => ?_
  refine hl.rd.run f A H1 σ δ1 l _ _ hA R1 e2 fun H2 R2 s2 => ?_
  refine hh.rd.run f A H2 σ δ2 u _ _ hA R2 e3 fun H3 R3 s3 => ?_
  have hx := At.up (s2.trans s3) h1
  cases dx with
  | seq k ds =>
    cases (show some (D.seq k (cutD ds l u)) = some d from e4)
    cases k with
    | true =>
      obtain ⟨a, xs, rfl, ha, hL, hz⟩ := hx
      refine .inl (.inl ⟨a, xs, rfl, SqL.of (hidS_some ha).1, fun p hp => ?_⟩)
      exact q _ _ (R3.grow (Same.new hp)) (s1.trans (s2.trans (s3.trans (Same.hidS _ (Same.new hp))))) (seq_new (l := true) R3.alive hp (hL.cut l u) (Nat.le_trans cutD_len hz))
    | false => exact .inr ⟨SA f A, ds, R3.alive, hx, fun H' w s hw => q w H' (R3.grow s) (s1.trans (s2.trans (s3.trans (Same.hidS _ s)))) hw⟩
  | str z =>
    cases (show v = .str z from hx)
    replace e4 : (if z.length ≤ 16000000 then some (D.str (cutS z l u)) else none) = some d := e4
    by_cases c : z.length ≤ 16000000
    · rw [if_pos c] at e4
      cases e4
      exact .inl (.inr ⟨z, rfl, sz_small c, q _ H3 R3 (s1.trans (s2.trans s3)) rfl⟩)
    · rw [if_neg c] at e4
      cases e4
  | _ => cases e4
end
end Kd
set_option Elab.async false
set_option linter.all false
set_option maxRecDepth 100000
set_option maxHeartbeats 4000000
namespace Kd
open PySem PySem.Spec PyProof.Rows L2 Kw
section
variable {X : Cx} {K : PySem.W.Frag} {IO OL O O' : List Nat} {e a b tg : Expr} {es : List Expr} {ta tb te : TE} {ma mb m : M} {mas : MA} {ts : TA} {pos : Pos}
/-! ### the written part named (within comprehensions) -/
theorem ed_ixK (hK : X.K = K) (ha : ED X O a ta ma) (hb : ED X O b tb mb) (hs : PlainIx b) : ED X O (.Subscript a b pos) (tOp (rIx K) ta tb) (mOp atD ma mb) := by
  subst hK
  exact ed_ix ha hb hs
theorem ed_ixOK {i : Nat} {x : Str} {p : Pos} (hK : X.K = K) (hb : ED X O b tb mb) (hs : PlainIx b) (hO : O.contains i = true := by rfl) (hN : X.N[i]? = some x := by rfl) (hv : Vis X.env.scope x := by first | exact Or.inl rfl | exact Or.inr (Or.inl rfl) | exact Or.inr (Or.inr rfl)) (h1 : (x == Str.ofString "__debug__") = false := by decide) (h2 : (x == Str.ofString "__classdict__") = false := by decide) :
    ED X O (.Subscript (.Name x p) b pos) (tOp (rIx K) (tVar i) tb) (mIxO i mb) := by
  subst hK
  exact ed_ixO hb hs hO hN hv h1 h2
theorem ed_lenOK {i : Nat} {x : Str} {p p2 : Pos} (hK : X.K = K) (hg : Gl X "len") (hm : X.mg "len" = none) (hO : O.contains i = true := by rfl) (hN : X.N[i]? = some x := by rfl) (hv : Vis X.env.scope x := by first | exact Or.inl rfl | exact Or.inr (Or.inl rfl) | exact Or.inr (Or.inr rfl)) (h1 : (x == Str.ofString "__debug__") = false := by decide) (h2 : (x == Str.ofString "__classdict__") = false := by decide)
    (he : starEach [.Name x p2] X.env = (false, eval (.Name x p2) X.env) :: starEach [] X.env := by rfl) (hpl : (backTo pos (starEach ([] : List Expr) X.env)).any (·.1) = false := by rfl) :
    ED X O (.Call (.Name "len" p) [.Name x p2] [] pos) (tCB (rLenA K) (tCons (tVar i) tNil)) (mLenO i) := by
  subst hK
  exact ed_lenO hg hm hO hN hv h1 h2 he hpl
theorem call_lenK (hK : X.K = K) : CallR X (.builtin "len") (rLenA K) := by
  subst hK
  exact call_lenA
theorem call_tuK (hK : X.K = K) : CallR X (.type "tuple") (fun xs H Q => ∃ p ys, xs = [V.ref p] ∧ ((SqL K H p ys ∧ ∀ l, H l = none → Q (V.ref l) (upd H l (HO.tup ys))) ∨ SqT K H p ys ∧ Q (V.ref p) H)) := by
  subst hK
  exact call_tuple_of
theorem ed_isiK {T n : Str} {T' : String} {p p2 : Pos} (hK : X.K = K) (hg : Gl X "isinstance") (hm : X.mg "isinstance" = none) (hgT : Gl X T) (hmT : X.mg T = none) (hvT : bootBuiltins T = some (.type T')) (ha : ED X O e te m)
    (hT1 : T ≠ "__name__" := by decide) (hTd : (T == ("__debug__" : Str)) = false := by decide)
    (he : starEach [e, .Name T p2] X.env = (false, eval e X.env) :: starEach [.Name T p2] X.env := by rfl) (he2 : starEach [.Name T p2] X.env = (false, eval (.Name T p2) X.env) :: starEach [] X.env := by rfl) (hpl : (backTo pos (starEach [.Name T p2] X.env)).any (·.1) = false := by rfl) :
    ED X O (.Call (.Name "isinstance" p) [e, .Name T p2] [] pos) (tCB (rIsi K) (tCons te (tCons (tC (.ty T')) tNil))) (mUn (isiD T') m) := by
  subst hK
  exact ed_isi (n := n) hg hm hgT hmT hvT ha hT1 hTd he he2 hpl
theorem ed_joinK {o : Expr} {to : TE} {mo : M} {apos : Pos} (hK : X.K = K) (ho : ED X O o to mo) (he : ED X O e te m) (hs : starEach [e] X.env = [(false, eval e X.env)] := by rfl) (hbase : attributeBase o "join" X.env (eval o X.env) = eval o X.env := by rfl) (hline : (apos.endLine == pos.line) = true := by rfl) :
    ED X O (.Call (.Attribute o "join" apos) [e] [] pos) (tM1 (rJoin K) to te) (mOp joinD mo m) := by
  subst hK
  exact ed_join ho he hs hbase hline
theorem ed_slK {lo hi : Option Expr} {tl th : TO} {ml mh : MO} {p2 : Pos} (hK : X.K = K) (h : ED X O e te m) (hl : OD X O lo tl ml) (hh : OD X O hi th mh) : ED X O (.Subscript e (.Slice lo hi none p2) pos) (tSl (rSlD K) te tl th) (mSl m ml mh) := by
  subst hK
  exact ed_sl h hl hh
theorem td_truK (hK : X.K = K) (ha : ED X O a ta ma) (he : ∀ whole, isTrue a X.env whole = (do let v ← whole; standAt a.pos; holding [v] (truthy v))) : TD X O a (fun σ H Q => ta σ H fun x H' => ∃ k, TruV K x H' k ∧ Q k H') (mTru ma) := by
  subst hK
  exact td_tru ha he
theorem id_seqK (hK : X.K = K) (h : ED X O e te m) : ID X O tg e (iSqE K te) (iSeq m) := by
  subst hK
  exact id_seq h
/-! ### more -/
def str1D : List D → Option D
  | [.int i] => if i.natAbs.log2 < 1920 then some (.str (Str.ofString (toString i))) else none
  | _ => none
theorem ro_str1 : RoL (fun xs H Q => ∃ i, xs = [V.int i] ∧ i.natAbs.log2 < 1920 ∧ Q (.str (Str.ofString (toString i))) H) str1D := by
  intro S H xs ds d Q hS h e q
  match ds, h, e with
  | [.int i], h, e =>
    obtain ⟨x, rfl, hx⟩ := atL_one h
    cases (show x = .int i from hx)
    replace e : (if i.natAbs.log2 < 1920 then some (D.str (Str.ofString (toString i))) else none) = some d := e
    by_cases c : i.natAbs.log2 < 1920
    · rw [if_pos c] at e
      cases e
      exact ⟨i, rfl, c, q _ H (Same.refl _) rfl⟩
    · rw [if_neg c] at e
      cases e
  | [], _, e => cases e
  | [.non], _, e => cases e
  | [.bl _], _, e => cases e
  | [.str _], _, e => cases e
  | [.seq _ _], _, e => cases e
  | a :: b :: r, _, e => cases a <;> (cases e; done)
def min2D : List D → Option D
  | [.int i, .int j] => some (.int (if j < i then j else i))
  | _ => none
def max2D : List D → Option D
  | [.int i, .int j] => some (.int (if j > i then j else i))
  | _ => none
theorem two_ints {ds : List D} {d : D} {g : Int → Int → Option D} (e : (match ds with | [.int i, .int j] => g i j | _ => none) = some d) : ∃ i j, ds = [.int i, .int j] ∧ g i j = some d := by
  split at e
  · exact ⟨_, _, rfl, e⟩
  · cases e
theorem ro_min2 : RoL (fun xs H Q => ∃ i j, xs = [V.int i, V.int j] ∧ Q (.int (if j < i then j else i)) H) min2D := by
  intro S H xs ds d Q hS h e q
  obtain ⟨i, j, rfl, e⟩ := two_ints (g := fun i j => some (D.int (if j < i then j else i))) e
  obtain ⟨x, y, rfl, hx, hy⟩ := atL_two h
  cases (show x = .int i from hx)
  cases (show y = .int j from hy)
  cases e
  exact ⟨i, j, rfl, q _ H (Same.refl _) rfl⟩
theorem ro_max2 : RoL (fun xs H Q => ∃ i j, xs = [V.int i, V.int j] ∧ Q (.int (if j > i then j else i)) H) max2D := by
  intro S H xs ds d Q hS h e q
  obtain ⟨i, j, rfl, e⟩ := two_ints (g := fun i j => some (D.int (if j > i then j else i))) e
  obtain ⟨x, y, rfl, hx, hy⟩ := atL_two h
  cases (show x = .int i from hx)
  cases (show y = .int j from hy)
  cases e
  exact ⟨i, j, rfl, q _ H (Same.refl _) rfl⟩
/-- list(x) as a new list of one's own -/
theorem fd_list {x : Str} {p : Pos} (hg : Gl X x) (hm : X.mg x = none) (hv : bootBuiltins x = some (.type "list")) (ha : AD X O (e :: es) ts mas)
    (hn : x ≠ "__name__" := by decide) (hdb : (x == ("__debug__" : Str)) = false := by decide) (he : starEach (e :: es) X.env = (false, eval e X.env) :: starEach es X.env := by rfl) (hpl : (backTo pos (starEach es X.env)).any (·.1) = false := by rfl) :
    FD X O (.Call (.Name x p) (e :: es) [] pos) (tCB (fun vs H Q => ∃ (l : Bool) (a : Addr) (xs : List V), vs = [.ref a] ∧ H a = some (seqO l xs) ∧ ∀ p, H p = none → Q (.ref p) (upd H p (.lst xs))) ts) (mCall (seqOfD true) mas) := by
  refine ⟨pe_callTy call_liD hg hm hv ha.pe hn hdb he hpl, ⟨fun f A H σ δ d δ' Q hA R hm q => ?_⟩⟩
  obtain ⟨⟨ds, δ1⟩, e1, hm⟩ := bind_some hm
  obtain ⟨d', e3, hm⟩ := map_some' hm
  cases hm
  refine ha.rd.run f A H σ δ ds _ _ hA R e1 fun xs H1 R1 s1 h1 => ?_
  match ds, h1, e3 with
  | [.seq l es], h1, e3 =>
    obtain ⟨x, rfl, a, ys, rfl, ha', hl, hz⟩ := atL_one h1
    cases e3
    exact ⟨l, a, ys, rfl, (hidS_some ha').1, fun p hp => q es p ys H1 rfl R1 s1 hp hl hz⟩
  | [], _, e3 => cases e3
  | [.non], _, e3 => cases e3
  | [.bl _], _, e3 => cases e3
  | [.int _], _, e3 => cases e3
  | [.str _], _, e3 => cases e3
  | a :: b :: r, _, e3 => cases a <;> (cases e3; done)
/-! own.append(e), own.insert(i, e), own.extend(e), own.pop() -/
def sAppO (i : Nat) (m : M) : MS := fun δ => (m δ).bind fun p => (lstAt p.2 i).bind fun ds => if ds.length < 16000000 then some (.nx (p.2.set i (some (.seq true (ds ++ [p.1]))))) else none
theorem sd_appO {i : Nat} {x : Str} {p ap cp : Pos} (hK : X.K = K) (h : ED X O e te m) (hO : O.contains i = true := by rfl) (hN : X.N[i]? = some x := by rfl) (hv : Vis X.env.scope x := by first | exact Or.inl rfl | exact Or.inr (Or.inl rfl) | exact Or.inr (Or.inr rfl)) (h1 : (x == Str.ofString "__debug__") = false := by decide) (h2 : (x == Str.ofString "__classdict__") = false := by decide)
    {hpe : PE X (.Call (.Attribute (.Name x p) "append" ap) [e] [] cp) (tBM K "list" rAppend (tVar i) (tCons te tNil))} (hs : swapsWith (.Call (.Attribute (.Name x p) "append" ap) [e] [] cp) none pos.line X.env = pure false := by rfl) :
    SD X IO OL O (.Expr (.Call (.Attribute (.Name x p) "append" ap) [e] [] cp) pos) (tDrop (tBM K "list" rAppend (tVar i) (tCons te tNil))) (sAppO i m) O := by
  refine ⟨ps_expr hpe hs, ⟨fun f A H σ δ r E hI hA R hm P => ?_⟩⟩
  obtain ⟨⟨d, δ1⟩, e1, hm⟩ := bind_some hm
  obtain ⟨a0, ha0, _, _, _, es', e4, _⟩ := own_at R hA hO
  refine ⟨.ref a0, es', .inl ⟨rfl, _, .inl (.inl e4)⟩, h.rd.run f A H σ δ d δ1 _ hA R e1 fun v H1 R1 s1 hd => ?_⟩
  obtain ⟨ds, xs, q1, q2, q3, q4, q5⟩ := R1.own _ ha0
  obtain ⟨ds', ed, hm⟩ := bind_some hm
  rw [show lstAt (d, δ1).2 i = some ds from lstAt_of q1] at ed
  cases ed
  by_cases c : ds.length < 16000000
  · rw [if_pos c] at hm
    cases hm
    exact ⟨a0, xs, v, rfl, rfl, q3, lt_small (by rw [q4.length]; omega), P A _ σ hA (R1.write (p := (i, a0)) ha0 (AtL.append q4 (AtL.one hd)) (by rw [List.length_append, List.length_singleton]; omega))⟩
  · rw [if_neg c] at hm
    cases hm
/-! targets of several names -/
def gNs : List Nat → TGs
  | [] => gNil
  | i :: r => gCons (gName i) (gNs r)
def setNs : List Nat → List D → DE → DE
  | i :: is, d :: ds, δ => setNs is ds (δ.set i (some d))
  | _, _, δ => δ
def gT (is : List Nat) : D → DE → Option DE := fun d δ => match d with
  | .seq false ds => if ds.length = is.length then some (setNs is ds δ) else none
  | _ => none
theorem gNs_run {f : Fr} {A : Own} {H : Hp} : ∀ {is : List Nat} {ds : List D} {xs : List V} {σ : L2.St} {Q : L2.St → Hp → Prop}, (∀ i ∈ is, i ∉ A.map (·.1)) → ds.length = is.length → AtL (hidS (SA f A) H) ds xs →
    (∀ σ' : L2.St, (∀ (F : Hp) (δ : DE), Rl f A F σ δ → AtL (hidS (SA f A) F) ds xs → Rl f A F σ' (setNs is ds δ)) → (∀ vs : List Nat, (∀ i ∈ is, i ∈ vs) → wipe σ' vs = wipe σ vs) → Q σ' H) → gNs is xs σ H Q
  | [], [], xs, σ, Q, _, _, h, q => by
    cases (show xs = [] from h)
    exact ⟨rfl, q σ (fun F δ R _ => R) fun _ _ => rfl⟩
  | i :: is, d :: ds, xs, σ, Q, hi, hl, h, q => by
    obtain ⟨x, ys, rfl, h1, h2⟩ := h
    refine ⟨x, ys, rfl, ?_⟩
    refine gNs_run (is := is) (ds := ds) (fun k hk => hi k (List.mem_cons_of_mem _ hk)) (by simpa using hl) h2 fun σ' T w => ?_
    refine q σ' (fun F δ R hA => ?_) fun vs hvs => ?_
    · obtain ⟨x', ys', e, a1, a2⟩ := hA
      cases e
      exact T F _ (R.setD (hi i (List.mem_cons_self ..)) a1) a2
    · rw [w vs fun k hk => hvs k (List.mem_cons_of_mem _ hk)]
      have hm := hvs i (List.mem_cons_self ..)
      apply List.ext_getElem?
      intro k
      by_cases c : k ∈ vs
      · have h1 : ∀ (τ : L2.St), (wipe τ vs)[k]? = if k < τ.length then some none else none := fun τ => by
          have hx : ∀ o, (wipe τ vs)[k]? = some (some o) → False := fun o z => (wipe_some z).2 c
          by_cases l : k < τ.length
          · rw [if_pos l]
            have l2 : k < (wipe τ vs).length := by rw [wipe_length]; exact l
            rw [List.getElem?_eq_getElem l2]
            cases q : (wipe τ vs)[k] with
            | none => rfl
            | some o => exact (hx o (by rw [List.getElem?_eq_getElem l2, q])).elim
          · rw [if_neg l, List.getElem?_eq_none]
            rw [wipe_length]
            omega
        rw [h1, h1, List.length_set]
      · rw [wipe_out c, wipe_out c]
        exact get_set_ne fun (z : i = k) => c (by rw [← z]; exact hm)
  | [], _ :: _, _, _, _, _, hl, _, _ => by cases hl
  | _ :: _, [], _, _, _, _, hl, _, _ => by cases hl
theorem rdg_tup {is : List Nat} {n : Nat} (hn : is.length = n) (hO : ∀ i ∈ is, O.contains i = false) : Rdg O is (gTup K n (gNs is)) (gT is) := by
  refine ⟨fun f A H σ δ d v δ' Q hA R h hg q => ?_, hO⟩
  cases d with
  | seq l ds =>
    cases l with
    | true => cases hg
    | false =>
      replace hg : (if ds.length = is.length then some (setNs is ds δ) else none) = some δ' := hg
      by_cases c : ds.length = is.length
      · rw [if_pos c] at hg
        cases hg
        obtain ⟨a, xs, rfl, ha, hl, hz⟩ := h
        refine ⟨a, xs, rfl, SqT.of (hidS_some ha).1, by rw [hl.length, c, hn], ?_⟩
        refine gNs_run (fun i hi => noO hA (hO i hi)) c hl fun σ' T w => q σ' (fun F sF RF hF => ?_) (w _ fun _ h => h)
        obtain ⟨b, ys, e, hb, hm, _⟩ := hF
        cases e
        have hb2 := sF _ _ (hidS_some hb).1
        rw [(hidS_some ha).1] at hb2
        cases hb2
        exact T F δ RF hm
      · rw [if_neg c] at hg
        cases hg
  | _ => cases hg
def sAsgG (m : M) (gd : D → DE → Option DE) : MS := fun δ => (m δ).bind fun p => (gd p.1 p.2).map .nx
theorem rs_asgG {vs : List Nat} {g : TG} {gd : D → DE → Option DE} (h : Rde O te m) (hg : Rdg O vs g gd) : Rds IO OL O (tAsg te g) (sAsgG m gd) O := by
  refine ⟨fun f A H σ δ r E hI hA R hm P => ?_⟩
  obtain ⟨⟨d, δ1⟩, e1, hm⟩ := bind_some hm
  obtain ⟨δ2, e2, rfl⟩ := map_some' hm
  refine h.run f A H σ δ d δ1 _ hA R e1 fun v H1 R1 s1 h1 => ?_
  exact hg.run f A H1 σ δ1 d v δ2 _ hA R1 h1 e2 fun σ' T _ => P A H1 σ' hA (T H1 (Same.refl _) R1 h1)
theorem sd_asgG {vs : List Nat} {g : TG} {gd : D → DE → Option DE} (h : ED X O e te m) (hgp : PG X tg g) (hg : Rdg O vs g gd) (hs : swapsWithSole [tg] e pos.line X.env = pure false := by rfl) (hw : swappedStores [tg] e X.env = pure none := by rfl)
    (h1 : (assignEach [tg] X.env).map (·.2) = [assign tg X.env] := by rfl) : SD X IO OL O (.Assign [tg] e pos) (tAsg te g) (sAsgG m gd) O := ⟨ps_asg h.pe hgp hs hw h1, rs_asgG h.rd hg⟩
end
end Kd
set_option Elab.async false
set_option linter.all false
set_option maxRecDepth 100000
set_option maxHeartbeats 4000000
namespace Kd
open PySem PySem.Spec PyProof.Rows L2 Kw
open PySem.SeqAt (EqAt RcAt)
open PySem.MeetsSeq PySem.MeetsSeq2 PySem.MeetsSeq3
/-! ### the order of tuples: the first place that differs decides, what stands behind it is not asked -/
/-- up to place c all is equal; at c (if there is one in both) it isn't, and the answer there is k; otherwise z -/
def FirstAt (op : CmpOp) (A : Around) (s : Shared) (us ws : Array Value) (z k : Bool) : Prop :=
  ∃ c : Nat, c ≤ min us.size ws.size ∧ (∀ j (h1 : j < us.size) (h2 : j < ws.size), j < c → EqAt A.in1 s us[j] ws[j] true) ∧
    ((c = min us.size ws.size ∧ k = z) ∨ (∃ (h1 : c < us.size) (h2 : c < ws.size), EqAt A.in1 s us[c] ws[c] false ∧ Ob.RcOp op A.in1 s us[c] ws[c] k))
theorem first_lt (p q : Addr) (us ws : Array Value) (n1 n2 : Nat) (d1 d2 : Option Addr) (s1 s2 : Array (Option Value)) (k : Bool) :
    Meets (Builtin.«tuple.__lt__» ⟨[.ref p, .ref q], []⟩)
      (fun A R s => s.heap.get? p = some { cls := .type "tuple", dict := d1, data := .seq us n1, slots := s1 } ∧ s.heap.get? q = some { cls := .type "tuple", dict := d2, data := .seq ws n2, slots := s2 } ∧
        FirstAt .Lt A s us ws (decide (us.size < ws.size)) k ∧ R (.ok (.ret (.bool k))) s) :=
  .of_wp fun prog w A R s x => by
    obtain ⟨H0, g0, D0, t0, o0⟩ := s
    obtain ⟨hp, hq, ⟨c, c1, ceq, cend⟩, hR⟩ := x
    have sub := AutoSeq1.sub_tuple_tuple
    have zl : (us.toList.zip ws.toList).length = min us.size ws.size := by simp
    wp_walk using AutoSeq1.wpAny_loadPart' hp, AutoSeq1.wpAny_loadPart' hq, wpAny_forIn_list _ (fun left b st => b.1 = none ∧ st = ⟨H0, g0, D0, t0, o0⟩ ∧ ∃ i, i ≤ c ∧ left = (us.toList.zip ws.toList).drop i) _
    case turn =>
      rintro ⟨u, v⟩ left b st ⟨b0, rfl, i, hic, hl⟩
      have li : i < (us.toList.zip ws.toList).length := by
        rcases Nat.lt_or_ge i (us.toList.zip ws.toList).length with z | z
        · exact z
        · rw [List.drop_of_length_le z] at hl
          cases hl
      rw [List.drop_eq_getElem_cons li] at hl
      injection hl with huv hrest
      have l1 : i < us.size := by omega
      have l2 : i < ws.size := by omega
      have eu : u = us[i] := by simpa using congrArg Prod.fst huv
      have ev : v = ws[i] := by simpa using congrArg Prod.snd huv
      subst eu ev
      by_cases lt : i < c
      · refine wpAny_bind (ceq i l1 l2 lt prog w _ _ ?_)
        wp_walk
        exact ⟨rfl, rfl, i + 1, by omega, hrest⟩
      · have ic : i = c := by omega
        subst ic
        rcases cend with ⟨e, _⟩ | ⟨m1, m2, ne, rc⟩
        · omega
        · refine wpAny_bind (ne prog w _ _ ?_)
          have rc' := rc prog w
          wp_walk using rc'
          exact ⟨_, rfl, by simpa using hR⟩
    case fin =>
      rintro ⟨b1, b2⟩ st ⟨b0, rfl, i, hic, hl⟩
      simp only at b0
      subst b0
      have ge : min us.size ws.size ≤ i := by
        rcases Nat.lt_or_ge i (us.toList.zip ws.toList).length with z | z
        · rw [List.drop_eq_getElem_cons z] at hl
          cases hl
        · omega
      have hk : k = decide (us.size < ws.size) := by
        rcases cend with ⟨_, e⟩ | ⟨m1, m2, _⟩
        · exact e
        · omega
      subst hk
      wp_walk
      exact ⟨_, rfl, by simpa [Builtin.Tuple.tupleCompareSizes] using hR⟩
    case h =>
      exact ⟨rfl, rfl, 0, Nat.zero_le _, rfl⟩
theorem tups_lt {A : Around} {s : Shared} {p q : Addr} {us ws : Array Value} {k : Bool} (hp : s.heap.IsTuple p us) (hq : s.heap.IsTuple q ws) (hu : A.units < cLine) (h : FirstAt .Lt A s us ws (decide (us.size < ws.size)) k) : Ob.RcOp .Lt A s (.ref p) (.ref q) k := fun prog w E Q hQ => by
  obtain ⟨⟨k1, a1, y1, z1⟩, g1, c1, n1, e1⟩ := id hp
  obtain ⟨⟨k2, a2, y2, z2⟩, g2, c2, n2, e2⟩ := id hq
  simp only at c1 e1 c2 e2
  subst c1 e1 c2 e2
  refine richCompare_meets_room (op := .Lt) ⟨_, g1, rfl⟩ ⟨_, g2, rfl⟩ F.slot_tuple_lt F.entry_tuple_lt (F.args_tuple_lt_2 _ _) (first_lt p q us ws n1 n2 a1 a2 z1 z2 k) ⟨g1, g2, h, (show Value.bool k ≠ Value.notImplemented ∧ Q (.bool k) s from ⟨(fun x => nomatch x), hQ⟩)⟩ hu
theorem first_le (p q : Addr) (us ws : Array Value) (n1 n2 : Nat) (d1 d2 : Option Addr) (s1 s2 : Array (Option Value)) (k : Bool) :
    Meets (Builtin.«tuple.__le__» ⟨[.ref p, .ref q], []⟩)
      (fun A R s => s.heap.get? p = some { cls := .type "tuple", dict := d1, data := .seq us n1, slots := s1 } ∧ s.heap.get? q = some { cls := .type "tuple", dict := d2, data := .seq ws n2, slots := s2 } ∧
        FirstAt .LtE A s us ws (decide (us.size ≤ ws.size)) k ∧ R (.ok (.ret (.bool k))) s) :=
  .of_wp fun prog w A R s x => by
    obtain ⟨H0, g0, D0, t0, o0⟩ := s
    obtain ⟨hp, hq, ⟨c, c1, ceq, cend⟩, hR⟩ := x
    have sub := AutoSeq1.sub_tuple_tuple
    have zl : (us.toList.zip ws.toList).length = min us.size ws.size := by simp
    wp_walk using AutoSeq1.wpAny_loadPart' hp, AutoSeq1.wpAny_loadPart' hq, wpAny_forIn_list _ (fun left b st => b.1 = none ∧ st = ⟨H0, g0, D0, t0, o0⟩ ∧ ∃ i, i ≤ c ∧ left = (us.toList.zip ws.toList).drop i) _
    case turn =>
      rintro ⟨u, v⟩ left b st ⟨b0, rfl, i, hic, hl⟩
      have li : i < (us.toList.zip ws.toList).length := by
        rcases Nat.lt_or_ge i (us.toList.zip ws.toList).length with z | z
        · exact z
        · rw [List.drop_of_length_le z] at hl
          cases hl
      rw [List.drop_eq_getElem_cons li] at hl
      injection hl with huv hrest
      have l1 : i < us.size := by omega
      have l2 : i < ws.size := by omega
      have eu : u = us[i] := by simpa using congrArg Prod.fst huv
      have ev : v = ws[i] := by simpa using congrArg Prod.snd huv
      subst eu ev
      by_cases lt : i < c
      · refine wpAny_bind (ceq i l1 l2 lt prog w _ _ ?_)
        wp_walk
        exact ⟨rfl, rfl, i + 1, by omega, hrest⟩
      · have ic : i = c := by omega
        subst ic
        rcases cend with ⟨e, _⟩ | ⟨m1, m2, ne, rc⟩
        · omega
        · refine wpAny_bind (ne prog w _ _ ?_)
          have rc' := rc prog w
          wp_walk using rc'
          exact ⟨_, rfl, by simpa using hR⟩
    case fin =>
      rintro ⟨b1, b2⟩ st ⟨b0, rfl, i, hic, hl⟩
      simp only at b0
      subst b0
      have ge : min us.size ws.size ≤ i := by
        rcases Nat.lt_or_ge i (us.toList.zip ws.toList).length with z | z
        · rw [List.drop_eq_getElem_cons z] at hl
          cases hl
        · omega
      have hk : k = decide (us.size ≤ ws.size) := by
        rcases cend with ⟨_, e⟩ | ⟨m1, m2, _⟩
        · exact e
        · omega
      subst hk
      wp_walk
      exact ⟨_, rfl, by simpa [Builtin.Tuple.tupleCompareSizes] using hR⟩
    case h =>
      exact ⟨rfl, rfl, 0, Nat.zero_le _, rfl⟩
theorem tups_le {A : Around} {s : Shared} {p q : Addr} {us ws : Array Value} {k : Bool} (hp : s.heap.IsTuple p us) (hq : s.heap.IsTuple q ws) (hu : A.units < cLine) (h : FirstAt .LtE A s us ws (decide (us.size ≤ ws.size)) k) : Ob.RcOp .LtE A s (.ref p) (.ref q) k := fun prog w E Q hQ => by
  obtain ⟨⟨k1, a1, y1, z1⟩, g1, c1, n1, e1⟩ := id hp
  obtain ⟨⟨k2, a2, y2, z2⟩, g2, c2, n2, e2⟩ := id hq
  simp only at c1 e1 c2 e2
  subst c1 e1 c2 e2
  refine richCompare_meets_room (op := .LtE) ⟨_, g1, rfl⟩ ⟨_, g2, rfl⟩ F.slot_tuple_le F.entry_tuple_le (F.args_tuple_le_2 _ _) (first_le p q us ws n1 n2 a1 a2 z1 z2 k) ⟨g1, g2, h, (show Value.bool k ≠ Value.notImplemented ∧ Q (.bool k) s from ⟨(fun x => nomatch x), hQ⟩)⟩ hu
theorem first_gt (p q : Addr) (us ws : Array Value) (n1 n2 : Nat) (d1 d2 : Option Addr) (s1 s2 : Array (Option Value)) (k : Bool) :
    Meets (Builtin.«tuple.__gt__» ⟨[.ref p, .ref q], []⟩)
      (fun A R s => s.heap.get? p = some { cls := .type "tuple", dict := d1, data := .seq us n1, slots := s1 } ∧ s.heap.get? q = some { cls := .type "tuple", dict := d2, data := .seq ws n2, slots := s2 } ∧
        FirstAt .Gt A s us ws (decide (us.size > ws.size)) k ∧ R (.ok (.ret (.bool k))) s) :=
  .of_wp fun prog w A R s x => by
    obtain ⟨H0, g0, D0, t0, o0⟩ := s
    obtain ⟨hp, hq, ⟨c, c1, ceq, cend⟩, hR⟩ := x
    have sub := AutoSeq1.sub_tuple_tuple
    have zl : (us.toList.zip ws.toList).length = min us.size ws.size := by simp
    wp_walk using AutoSeq1.wpAny_loadPart' hp, AutoSeq1.wpAny_loadPart' hq, wpAny_forIn_list _ (fun left b st => b.1 = none ∧ st = ⟨H0, g0, D0, t0, o0⟩ ∧ ∃ i, i ≤ c ∧ left = (us.toList.zip ws.toList).drop i) _
    case turn =>
      rintro ⟨u, v⟩ left b st ⟨b0, rfl, i, hic, hl⟩
      have li : i < (us.toList.zip ws.toList).length := by
        rcases Nat.lt_or_ge i (us.toList.zip ws.toList).length with z | z
        · exact z
        · rw [List.drop_of_length_le z] at hl
          cases hl
      rw [List.drop_eq_getElem_cons li] at hl
      injection hl with huv hrest
      have l1 : i < us.size := by omega
      have l2 : i < ws.size := by omega
      have eu : u = us[i] := by simpa using congrArg Prod.fst huv
      have ev : v = ws[i] := by simpa using congrArg Prod.snd huv
      subst eu ev
      by_cases lt : i < c
      · refine wpAny_bind (ceq i l1 l2 lt prog w _ _ ?_)
        wp_walk
        exact ⟨rfl, rfl, i + 1, by omega, hrest⟩
      · have ic : i = c := by omega
        subst ic
        rcases cend with ⟨e, _⟩ | ⟨m1, m2, ne, rc⟩
        · omega
        · refine wpAny_bind (ne prog w _ _ ?_)
          have rc' := rc prog w
          wp_walk using rc'
          exact ⟨_, rfl, by simpa using hR⟩
    case fin =>
      rintro ⟨b1, b2⟩ st ⟨b0, rfl, i, hic, hl⟩
      simp only at b0
      subst b0
      have ge : min us.size ws.size ≤ i := by
        rcases Nat.lt_or_ge i (us.toList.zip ws.toList).length with z | z
        · rw [List.drop_eq_getElem_cons z] at hl
          cases hl
        · omega
      have hk : k = decide (us.size > ws.size) := by
        rcases cend with ⟨_, e⟩ | ⟨m1, m2, _⟩
        · exact e
        · omega
      subst hk
      wp_walk
      exact ⟨_, rfl, by simpa [Builtin.Tuple.tupleCompareSizes] using hR⟩
    case h =>
      exact ⟨rfl, rfl, 0, Nat.zero_le _, rfl⟩
theorem tups_gt {A : Around} {s : Shared} {p q : Addr} {us ws : Array Value} {k : Bool} (hp : s.heap.IsTuple p us) (hq : s.heap.IsTuple q ws) (hu : A.units < cLine) (h : FirstAt .Gt A s us ws (decide (us.size > ws.size)) k) : Ob.RcOp .Gt A s (.ref p) (.ref q) k := fun prog w E Q hQ => by
  obtain ⟨⟨k1, a1, y1, z1⟩, g1, c1, n1, e1⟩ := id hp
  obtain ⟨⟨k2, a2, y2, z2⟩, g2, c2, n2, e2⟩ := id hq
  simp only at c1 e1 c2 e2
  subst c1 e1 c2 e2
  refine richCompare_meets_room (op := .Gt) ⟨_, g1, rfl⟩ ⟨_, g2, rfl⟩ F.slot_tuple_gt F.entry_tuple_gt (F.args_tuple_gt_2 _ _) (first_gt p q us ws n1 n2 a1 a2 z1 z2 k) ⟨g1, g2, h, (show Value.bool k ≠ Value.notImplemented ∧ Q (.bool k) s from ⟨(fun x => nomatch x), hQ⟩)⟩ hu
theorem first_ge (p q : Addr) (us ws : Array Value) (n1 n2 : Nat) (d1 d2 : Option Addr) (s1 s2 : Array (Option Value)) (k : Bool) :
    Meets (Builtin.«tuple.__ge__» ⟨[.ref p, .ref q], []⟩)
      (fun A R s => s.heap.get? p = some { cls := .type "tuple", dict := d1, data := .seq us n1, slots := s1 } ∧ s.heap.get? q = some { cls := .type "tuple", dict := d2, data := .seq ws n2, slots := s2 } ∧
        FirstAt .GtE A s us ws (decide (us.size ≥ ws.size)) k ∧ R (.ok (.ret (.bool k))) s) :=
  .of_wp fun prog w A R s x => by
    obtain ⟨H0, g0, D0, t0, o0⟩ := s
    obtain ⟨hp, hq, ⟨c, c1, ceq, cend⟩, hR⟩ := x
    have sub := AutoSeq1.sub_tuple_tuple
    have zl : (us.toList.zip ws.toList).length = min us.size ws.size := by simp
    wp_walk using AutoSeq1.wpAny_loadPart' hp, AutoSeq1.wpAny_loadPart' hq, wpAny_forIn_list _ (fun left b st => b.1 = none ∧ st = ⟨H0, g0, D0, t0, o0⟩ ∧ ∃ i, i ≤ c ∧ left = (us.toList.zip ws.toList).drop i) _
    case turn =>
      rintro ⟨u, v⟩ left b st ⟨b0, rfl, i, hic, hl⟩
      have li : i < (us.toList.zip ws.toList).length := by
        rcases Nat.lt_or_ge i (us.toList.zip ws.toList).length with z | z
        · exact z
        · rw [List.drop_of_length_le z] at hl
          cases hl
      rw [List.drop_eq_getElem_cons li] at hl
      injection hl with huv hrest
      have l1 : i < us.size := by omega
      have l2 : i < ws.size := by omega
      have eu : u = us[i] := by simpa using congrArg Prod.fst huv
      have ev : v = ws[i] := by simpa using congrArg Prod.snd huv
      subst eu ev
      by_cases lt : i < c
      · refine wpAny_bind (ceq i l1 l2 lt prog w _ _ ?_)
        wp_walk
        exact ⟨rfl, rfl, i + 1, by omega, hrest⟩
      · have ic : i = c := by omega
        subst ic
        rcases cend with ⟨e, _⟩ | ⟨m1, m2, ne, rc⟩
        · omega
        · refine wpAny_bind (ne prog w _ _ ?_)
          have rc' := rc prog w
          wp_walk using rc'
          exact ⟨_, rfl, by simpa using hR⟩
    case fin =>
      rintro ⟨b1, b2⟩ st ⟨b0, rfl, i, hic, hl⟩
      simp only at b0
      subst b0
      have ge : min us.size ws.size ≤ i := by
        rcases Nat.lt_or_ge i (us.toList.zip ws.toList).length with z | z
        · rw [List.drop_eq_getElem_cons z] at hl
          cases hl
        · omega
      have hk : k = decide (us.size ≥ ws.size) := by
        rcases cend with ⟨_, e⟩ | ⟨m1, m2, _⟩
        · exact e
        · omega
      subst hk
      wp_walk
      exact ⟨_, rfl, by simpa [Builtin.Tuple.tupleCompareSizes] using hR⟩
    case h =>
      exact ⟨rfl, rfl, 0, Nat.zero_le _, rfl⟩
theorem tups_ge {A : Around} {s : Shared} {p q : Addr} {us ws : Array Value} {k : Bool} (hp : s.heap.IsTuple p us) (hq : s.heap.IsTuple q ws) (hu : A.units < cLine) (h : FirstAt .GtE A s us ws (decide (us.size ≥ ws.size)) k) : Ob.RcOp .GtE A s (.ref p) (.ref q) k := fun prog w E Q hQ => by
  obtain ⟨⟨k1, a1, y1, z1⟩, g1, c1, n1, e1⟩ := id hp
  obtain ⟨⟨k2, a2, y2, z2⟩, g2, c2, n2, e2⟩ := id hq
  simp only at c1 e1 c2 e2
  subst c1 e1 c2 e2
  refine richCompare_meets_room (op := .GtE) ⟨_, g1, rfl⟩ ⟨_, g2, rfl⟩ F.slot_tuple_ge F.entry_tuple_ge (F.args_tuple_ge_2 _ _) (first_ge p q us ws n1 n2 a1 a2 z1 z2 k) ⟨g1, g2, h, (show Value.bool k ≠ Value.notImplemented ∧ Q (.bool k) s from ⟨(fun x => nomatch x), hQ⟩)⟩ hu
/-! ### the order of data -/
structure OrdP where
  i : Int → Int → Bool
  s : Str → Str → Bool
  n : Nat → Nat → Bool
def ltO : OrdP := ⟨fun i j => decide (i < j), fun a b => decide (a.cps.toList < b.cps.toList), fun m n => decide (m < n)⟩
def leO : OrdP := ⟨fun i j => decide (i ≤ j), fun a b => !decide (b.cps.toList < a.cps.toList), fun m n => decide (m ≤ n)⟩
def gtO : OrdP := ⟨fun i j => decide (j < i), fun a b => decide (b.cps.toList < a.cps.toList), fun m n => decide (m > n)⟩
def geO : OrdP := ⟨fun i j => decide (j ≤ i), fun a b => !decide (a.cps.toList < b.cps.toList), fun m n => decide (m ≥ n)⟩
mutual
def ordD (o : OrdP) : D → D → Option Bool
  | .int i, .int j => some (o.i i j)
  | .str a, .str b => some (o.s a b)
  | .bl a, .bl b => some (o.i (b2i a) (b2i b))
  | .seq false xs, .seq false ys => ordDs o xs ys
  | _, _ => none
def ordDs (o : OrdP) : List D → List D → Option Bool
  | [], ys => some (o.n 0 ys.length)
  | x :: xs, [] => some (o.n (xs.length + 1) 0)
  | x :: xs, y :: ys => if eqD x y = true then ordDs o xs ys else ordD o x y
end
structure OpRules (op : CmpOp) (o : OrdP) : Prop where
  int : ∀ (A : Around) (s : Shared) (i j : Int) (t u : Tok), Ob.RcOp op A s (.int i t) (.int j u) (o.i i j)
  str : ∀ (A : Around) (s : Shared) (i j : Str) (t u : Tok), Ob.RcOp op A s (.str i t) (.str j u) (o.s i j)
  bl : ∀ (A : Around) (s : Shared) (i j : Bool), Ob.RcOp op A s (.bool i) (.bool j) (o.i (b2i i) (b2i j))
  tup : ∀ (A : Around) (s : Shared) (p q : Addr) (us ws : Array Value) (k : Bool), s.heap.IsTuple p us → s.heap.IsTuple q ws → A.units < cLine → FirstAt op A s us ws (o.n us.size ws.size) k → Ob.RcOp op A s (.ref p) (.ref q) k
  nn : ∀ m n, o.n (m + 1) (n + 1) = o.n m n
theorem rules_lt : OpRules .Lt ltO := ⟨fun A s i j t u => Ob.RcOp.lt_int i j t u, fun A s i j t u _ _ _ _ h => PyProof.Rows.lt_str h, fun A s i j _ _ _ _ h => PyProof.Rows.lt_bool h, fun A s p q us ws k h1 h2 h3 h4 => tups_lt h1 h2 h3 h4, fun m n => decide_eq_decide.mpr (by omega)⟩
theorem rules_le : OpRules .LtE leO := ⟨fun A s i j t u => Ob.RcOp.le_int i j t u, fun A s i j t u _ _ _ _ h => PySem.P.le_str h, fun A s i j _ _ _ _ h => PyProof.Rows.le_bool h, fun A s p q us ws k h1 h2 h3 h4 => tups_le h1 h2 h3 h4, fun m n => decide_eq_decide.mpr (by omega)⟩
theorem rules_gt : OpRules .Gt gtO := ⟨fun A s i j t u => Ob.RcOp.gt_int i j t u, fun A s i j t u _ _ _ _ h => PySem.P.gt_str h, fun A s i j _ _ _ _ h => PyProof.Rows.gt_bool h, fun A s p q us ws k h1 h2 h3 h4 => tups_gt h1 h2 h3 h4, fun m n => decide_eq_decide.mpr (by omega)⟩
theorem rules_ge : OpRules .GtE geO := ⟨fun A s i j t u => Ob.RcOp.ge_int i j t u, fun A s i j t u _ _ _ _ h => PySem.P.ge_str h, fun A s i j _ _ _ _ h => PyProof.Rows.ge_bool h, fun A s p q us ws k h1 h2 h3 h4 => tups_ge h1 h2 h3 h4, fun m n => decide_eq_decide.mpr (by omega)⟩
/-- where two lists part -/
theorem ordDs_parts {op : CmpOp} {o : OrdP} (r : OpRules op o) : ∀ {xs ys : List D} {k : Bool}, ordDs o xs ys = some k → ∃ c : Nat, c ≤ min xs.length ys.length ∧ (∀ j, j < c → eqD (xs.getD j .non) (ys.getD j .non) = true) ∧
    ((c = min xs.length ys.length ∧ k = o.n xs.length ys.length) ∨ (c < xs.length ∧ c < ys.length ∧ eqD (xs.getD c .non) (ys.getD c .non) = false ∧ ordD o (xs.getD c .non) (ys.getD c .non) = some k))
  | [], ys, k, h => ⟨0, Nat.zero_le _, fun j hj => absurd hj (Nat.not_lt_zero _), .inl ⟨by simp, (Option.some.inj h).symm⟩⟩
  | x :: xs, [], k, h => ⟨0, Nat.zero_le _, fun j hj => absurd hj (Nat.not_lt_zero _), .inl ⟨by simp, (Option.some.inj h).symm⟩⟩
  | x :: xs, y :: ys, k, h => by
    replace h : (if eqD x y = true then ordDs o xs ys else ordD o x y) = some k := h
    cases e : eqD x y with
    | true =>
      rw [e, if_pos rfl] at h
      obtain ⟨c, h1, h2, h3⟩ := ordDs_parts r h
      refine ⟨c + 1, by simp only [List.length_cons]; omega, fun j hj => ?_, ?_⟩
      · cases j with
        | zero => exact e
        | succ j => exact h2 j (by omega)
      · rcases h3 with ⟨a, b⟩ | ⟨a, b, d, f⟩
        · exact .inl ⟨by simp only [List.length_cons]; omega, by rw [b, List.length_cons, List.length_cons, r.nn]⟩
        · exact .inr ⟨by simp only [List.length_cons]; omega, by simp only [List.length_cons]; omega, d, f⟩
    | false =>
      rw [e, if_neg (by decide)] at h
      exact ⟨0, Nat.zero_le _, fun j hj => absurd hj (Nat.not_lt_zero _), .inr ⟨by simp, by simp, e, h⟩⟩
theorem ordD_inv {o : OrdP} {d e : D} {k : Bool} (h : ordD o d e = some k) : (∃ i j, d = .int i ∧ e = .int j ∧ k = o.i i j) ∨ (∃ a b, d = .str a ∧ e = .str b ∧ k = o.s a b) ∨ (∃ a b, d = .bl a ∧ e = .bl b ∧ k = o.i (b2i a) (b2i b)) ∨ ∃ xs ys, d = .seq false xs ∧ e = .seq false ys ∧ ordDs o xs ys = some k := by
  unfold ordD at h
  split at h
  · exact .inl ⟨_, _, rfl, rfl, (Option.some.inj h).symm⟩
  · exact .inr (.inl ⟨_, _, rfl, rfl, (Option.some.inj h).symm⟩)
  · exact .inr (.inr (.inl ⟨_, _, rfl, rfl, (Option.some.inj h).symm⟩))
  · exact .inr (.inr (.inr ⟨_, _, rfl, rfl, h⟩))
  · cases h
theorem ord_at {X : Cx} {pins : List (Addr × Obj)} {σ : L2.St} {H : Hp} {s : Shared} {op : CmpOp} {o : OrdP} (r : OpRules op o) (I : L2.Inv X pins σ H s) :
    ∀ (n : Nat) (d e : D) (x y : V) (u v : Value) (A : Around) (k : Bool), d.dep ≤ n → ordD o d e = some k → At H d x → At H e y → L2.RelV x u → L2.RelV y v → A.units + n < cLine → Ob.RcOp op A s u v k := by
  intro n
  induction n with
  | zero =>
    intro d e x y u v A k hd ho h g ru rv hu
    rcases ordD_inv ho with ⟨i, j, rfl, rfl, rfl⟩ | ⟨i, j, rfl, rfl, rfl⟩ | ⟨i, j, rfl, rfl, rfl⟩ | ⟨ds, es, rfl, rfl, ho⟩
    · cases (show x = .int _ from h); cases (show y = .int _ from g)
      obtain ⟨t, rfl⟩ := ru; obtain ⟨t', rfl⟩ := rv
      exact r.int A s _ _ t t'
    · cases (show x = .str _ from h); cases (show y = .str _ from g)
      obtain ⟨t, rfl⟩ := ru; obtain ⟨t', rfl⟩ := rv
      exact r.str A s _ _ t t'
    · cases (show x = .bl _ from h); cases (show y = .bl _ from g)
      cases (show u = Value.bool _ from ru); cases (show v = Value.bool _ from rv)
      exact r.bl A s _ _
    · exact absurd hd (by show ¬ (depL ds + 1 ≤ 0); omega)
  | succ n ih =>
    intro d e x y u v A k hd ho h g ru rv hu
    rcases ordD_inv ho with ⟨i, j, rfl, rfl, rfl⟩ | ⟨i, j, rfl, rfl, rfl⟩ | ⟨i, j, rfl, rfl, rfl⟩ | ⟨ds, es, rfl, rfl, ho⟩
    · exact ih _ _ x y u v A _ (Nat.zero_le _) rfl h g ru rv (by omega)
    · exact ih _ _ x y u v A _ (Nat.zero_le _) rfl h g ru rv (by omega)
    · exact ih _ _ x y u v A _ (Nat.zero_le _) rfl h g ru rv (by omega)
    · have ho := ho
      obtain ⟨a, xs, rfl, ha, hl, _⟩ := h
      obtain ⟨b, ys, rfl, hb, hm, _⟩ := g
      cases (show u = Value.ref a from ru); cases (show v = Value.ref b from rv)
      obtain ⟨its, r1, p1⟩ := items_at I (l := false) ha
      obtain ⟨its2, r2, p2⟩ := items_at I (l := false) hb
      replace p1 : s.heap.IsTuple a its.toArray := p1
      replace p2 : s.heap.IsTuple b its2.toArray := p2
      have l1 : its.toArray.size = ds.length := by rw [List.size_toArray, ← r1.length, hl.length]
      have l2 : its2.toArray.size = es.length := by rw [List.size_toArray, ← r2.length, hm.length]
      obtain ⟨c, c1, c2, c3⟩ := ordDs_parts r ho
      have dd : ∀ {d : D} {j : Nat}, ds[j]? = some d → d.dep ≤ n := fun {d j} hj => by
        have h1 : d.dep ≤ depL ds := dep_get hj
        have h2 : depL ds + 1 ≤ n + 1 := hd
        omega
      have at' : ∀ j (h1 : j < its.toArray.size) (h2 : j < its2.toArray.size), ∃ x y, ds[j]? = some (ds.getD j .non) ∧ At H (ds.getD j .non) x ∧ At H (es.getD j .non) y ∧ L2.RelV x its.toArray[j] ∧ L2.RelV y its2.toArray[j] := fun j h1 h2 => by
        obtain ⟨d, hd⟩ := some_at (l := ds) (i := j) (by omega)
        obtain ⟨e, he⟩ := some_at (l := es) (i := j) (by omega)
        obtain ⟨x, hx', ax⟩ := hl.get hd
        obtain ⟨y, hy', ay⟩ := hm.get he
        obtain ⟨u, hu', ru⟩ := r1.get hx'
        obtain ⟨v, hv', rv⟩ := r2.get hy'
        have e1 : its.toArray[j] = u := by
          have := (List.getElem?_eq_some_iff.mp hu').2
          simpa using this
        have e2 : its2.toArray[j] = v := by
          have := (List.getElem?_eq_some_iff.mp hv').2
          simpa using this
        rw [e1, e2, getD_of hd, getD_of he]
        exact ⟨x, y, hd, ax, ay, ru, rv⟩
      have eqat : ∀ j (h1 : j < its.toArray.size) (h2 : j < its2.toArray.size), EqAt A.in1 s its.toArray[j] its2.toArray[j] (eqD (ds.getD j .non) (es.getD j .non)) := fun j h1 h2 => by
        obtain ⟨x, y, hd, ax, ay, ru, rv⟩ := at' j h1 h2
        exact eq_at I n _ _ x y _ _ A.in1 (dd hd) ax ay ru rv (by rw [PyProof.Rows.units_in1]; omega)
      refine r.tup A s a b _ _ k p1 p2 (by omega) ⟨c, by rw [l1, l2]; exact c1, fun j h1 h2 hj => ?_, ?_⟩
      · have := eqat j h1 h2
        rwa [c2 j hj] at this
      · rcases c3 with ⟨a1, a2⟩ | ⟨a1, a2, a3, a4⟩
        · exact .inl ⟨by rw [l1, l2]; exact a1, by rw [l1, l2]; exact a2⟩
        · have h1 : c < its.toArray.size := by omega
          have h2 : c < its2.toArray.size := by omega
          refine .inr ⟨h1, h2, ?_, ?_⟩
          · have := eqat c h1 h2
            rwa [a3] at this
          · obtain ⟨x, y, hd, ax, ay, ru, rv⟩ := at' c h1 h2
            exact ih _ _ x y _ _ A.in1 k (dd hd) a4 ax ay ru rv (by rw [PyProof.Rows.units_in1]; omega)
def rOrd (o : OrdP) : R2 := fun x y H Q => ∃ (S : List Addr) (d e : D) (b : Bool), d.dep ≤ 60 ∧ ordD o d e = some b ∧ At (hidS S H) d x ∧ At (hidS S H) e y ∧ Q (.bl b) H
def ordO (o : OrdP) : D → D → Option D := fun d e => if d.dep ≤ 60 then (ordD o d e).map D.bl else none
theorem ro_ord {o : OrdP} : Ro2 (rOrd o) (ordO o) := by
  intro S H x y dx dy d Q hS h1 h2 e q
  unfold ordO at e
  by_cases c : dx.dep ≤ 60
  · rw [if_pos c] at e
    obtain ⟨b, eb, rfl⟩ := map_some' e
    exact ⟨S, dx, dy, b, c, eb, h1, h2, q _ _ (Same.refl _) rfl⟩
  · rw [if_neg c] at e
    cases e
section
variable {X : Cx}
theorem ord_run {op : CmpOp} {o : OrdP} (r : OpRules op o) (hc : ∀ a b, compareOp op a b = richCompare op a b) (hu : X.A.units + 64 < cLine) : OpR X (compareOp op) (rOrd o) := by
  intro pins s σ H x y v u Q I rx ry h
  obtain ⟨S, d, e, b, hd, ho, h1, h2, q⟩ := h
  rw [hc]
  exact ord_at r I 60 d e x y v u X.A b hd ho h1.out h2.out rx ry (by omega) _ _ _ _ ⟨.bl b, H, I, rfl, q⟩
theorem op_ltO (hu : X.A.units + 64 < cLine) : OpR X (compareOp .Lt) (rOrd ltO) := ord_run rules_lt (fun _ _ => rfl) hu
theorem op_leO (hu : X.A.units + 64 < cLine) : OpR X (compareOp .LtE) (rOrd leO) := ord_run rules_le (fun _ _ => rfl) hu
theorem op_gtO (hu : X.A.units + 64 < cLine) : OpR X (compareOp .Gt) (rOrd gtO) := ord_run rules_gt (fun _ _ => rfl) hu
theorem op_geO (hu : X.A.units + 64 < cLine) : OpR X (compareOp .GtE) (rOrd geO) := ord_run rules_ge (fun _ _ => rfl) hu
/-! ### constants of the top, a text times a number, isinstance of two classes -/
def addI : D → D → Option D := fun x y => match x, y with
  | .int i, .int j => some (.int (i + j))
  | _, _ => none
/-- what a name of the module holds -/
def CG (mg : Str → Option Value) (x : Str) (d : D) : Prop := ∃ v u, mg x = some u ∧ L2.RelV v u ∧ ∀ H, At H d v
def repS (z : Str) (k : Nat) : Str := ⟨(List.replicate k z.cps.toList).flatten.toArray⟩
theorem op_mul_strR : OpR X (binaryOp .Mult) (fun x y H Q => ∃ z k, x = .str z ∧ y = .int k ∧ 0 ≤ k ∧ k ≤ 1000 ∧ z.length ≤ 1000 ∧ Q (.str (repS z k.toNat)) H) := by
  intro pins s σ H x y v u Q I rx ry h
  obtain ⟨z, k, rfl, rfl, h0, h1, hz, q⟩ := h
  obtain ⟨t, rfl⟩ := rx
  obtain ⟨t', rfl⟩ := ry
  have hm : z.length * k.toNat ≤ 1000 * 1000 := Nat.mul_le_mul hz (by omega)
  have hs : z.length * k.toNat ≤ sizeLine := Nat.le_trans hm (by rw [sizeLine_eq]; decide)
  have fold : ∀ (n : Nat) (a : Array Nat), ((List.replicate n z.cps).foldl (· ++ ·) a) = a ++ (List.replicate n z.cps.toList).flatten.toArray := by
    intro n
    induction n with
    | zero => intro a; simp
    | succ n ih =>
      intro a
      rw [List.replicate_succ, List.foldl_cons, ih, List.replicate_succ, List.flatten_cons]
      apply Array.toList_inj.mp
      simp
  refine PySem.P.mul_str ?_ ?_ ?_ ?_
  · have a : ¬ k < -(2 ^ 63 : Int) := by omega
    have b : ¬ k ≥ 2 ^ 63 := by omega
    rw [decide_eq_false a, decide_eq_false b]
    rfl
  · intro hk _
    have hk : (2 ^ 63 - 1 : Int) / k ≥ 1000 := by
      have : (1000 : Int) * k ≤ 2 ^ 63 - 1 := by omega
      exact (Int.le_ediv_iff_mul_le (by omega)).mpr this
    have : (z.length : Int) ≤ 1000 := by omega
    omega
  · intro _ _
    show decide (z.length * k.toNat > sizeLine) = false
    exact decide_eq_false (by omega)
  · by_cases c : k < 1
    · rw [if_pos c]
      have e : k.toNat = 0 := by omega
      rw [e] at q
      exact ⟨by show (0 : Nat) ≤ sizeLine; exact Nat.zero_le _, .str Str.empty, H, I.tok _, ⟨_, rfl⟩, q⟩
    · rw [if_neg c]
      by_cases d : (k == 1 || z.length == 0) = true
      · rw [if_pos d]
        have e : repS z k.toNat = z := by
          rw [Bool.or_eq_true, beq_iff_eq, beq_iff_eq] at d
          rcases d with d | d
          · subst d
            show (⟨([z.cps.toList] : List (List Nat)).flatten.toArray⟩ : Str) = z
            simp
          · have e0 : z.cps.toList = [] := by
              apply List.eq_nil_of_length_eq_zero
              rw [Array.length_toList]
              exact d
            show (⟨(List.replicate k.toNat z.cps.toList).flatten.toArray⟩ : Str) = z
            rw [e0]
            have : (List.replicate k.toNat ([] : List Nat)).flatten = [] := by simp
            rw [this, ← e0]
        rw [e] at q
        exact ⟨.str z, H, I.tok _, ⟨_, rfl⟩, q⟩
      · rw [if_neg d]
        have e : (⟨(List.replicate k.toNat z.cps).foldl (· ++ ·) #[]⟩ : Str) = repS z k.toNat := by
          rw [fold]
          show _ = (⟨_⟩ : Str)
          simp
        refine ⟨?_, .str (repS z k.toNat), H, I.tok _, ⟨_, congrArg (fun a => Value.str a _) e⟩, q⟩
        show Array.size ((List.replicate k.toNat z.cps).foldl (· ++ ·) #[]) ≤ sizeLine
        have := Kw.rep_size z.cps k.toNat #[]
        rw [this]
        have : k.toNat * z.cps.size = z.length * k.toNat := Nat.mul_comm _ _
        have e0 : (#[] : Array Nat).size = 0 := rfl
        omega
def mulB : D → D → Option D
  | .str z, .int k => if 0 ≤ k ∧ k ≤ 1000 ∧ z.length ≤ 1000 then some (.str (repS z k.toNat)) else none
  | d, e => mulD d e
def rMulB : R2 := fun x y H Q => rMul x y H Q ∨ ∃ z k, x = .str z ∧ y = .int k ∧ 0 ≤ k ∧ k ≤ 1000 ∧ z.length ≤ 1000 ∧ Q (.str (repS z k.toNat)) H
theorem op_mulB : OpR X (binaryOp .Mult) rMulB := op_mulA.or op_mul_strR
theorem ro_mulB : Ro2 rMulB mulB := by
  intro S H x y dx dy d Q hS h1 h2 e q
  cases dx with
  | str z =>
    cases dy <;> first | (cases e; done) | skip
    rename_i k
    cases (show x = .str z from h1)
    cases (show y = .int k from h2)
    replace e : (if 0 ≤ k ∧ k ≤ 1000 ∧ z.length ≤ 1000 then some (D.str (repS z k.toNat)) else none) = some d := e
    by_cases c : 0 ≤ k ∧ k ≤ 1000 ∧ z.length ≤ 1000
    · rw [if_pos c] at e
      cases e
      exact .inr ⟨z, k, rfl, rfl, c.1, c.2.1, c.2.2, q _ _ (Same.refl _) rfl⟩
    · rw [if_neg c] at e
      cases e
  | non => exact .inl (ro_mul S H x y _ dy d Q hS h1 h2 e q)
  | bl b => exact .inl (ro_mul S H x y _ dy d Q hS h1 h2 e q)
  | int b => exact .inl (ro_mul S H x y _ dy d Q hS h1 h2 e q)
  | seq l b => exact .inl (ro_mul S H x y _ dy d Q hS h1 h2 e q)
end
end Kd
set_option Elab.async false
set_option linter.all false
set_option maxRecDepth 100000
set_option maxHeartbeats 4000000
namespace Kd
open PySem PySem.Spec PyProof.Rows L2 Kw
/-- what is asked of the law: True at every script -/
def sp_law (K : PySem.W.Frag) : Sp := fun vs H Q _ => ∃ (a : Addr) (ns : List Int), vs = [.ref a] ∧ SqL K H a (ns.map V.int) ∧ ns.length ≤ 63 ∧ ∀ H', Q (.bl true) H'
/-- the state of the draws at the start -/
def stD (ns : List Int) : D := .seq true [.seq true (ns.map .int), .int 0, .int 0, .int 1]
def envL (n i : Nat) (ns : List Int) : DE := (List.replicate n none).set i (some (stD ns))
def rLi (K : PySem.W.Frag) : List V → Hp → VK → Prop := fun xs H Q => ∃ p ys, xs = [.ref p] ∧ (SqL K H p ys ∨ SqT K H p ys) ∧ ∀ l, H l = none → Q (.ref l) (upd H l (.lst ys))
theorem call_liK {X : Cx} {K : PySem.W.Frag} (hK : X.K = K) : CallR X (.type "list") (rLi K) := by
  subst hK
  exact call_list_of
section
variable {P : Program} {w : World} {K : PySem.W.Frag} {mg : Str → Option Value} {base : Heap}
theorem ok_law0 {x qual : Str} {st st0 : Stmt} {rest : List Stmt} {f : Addr} {fd : FuncData} {N : List Str} {k i : Nat} {ms : MS} {O' : List Nat} (F : Fun K x qual st f fd) (S : FnScope N ["script"] (defScope st)) (hb : defBody st = st0 :: rest) (hi : i ≠ 0) (hiN : i < N.length)
    (h : ∀ (cdv : Value) (A : Around) (outer : List Env) (s : Shared) (H : Hp) (E : XK), Room k (A.deeper (envOfC qual (defScope st) s.heap.objs.size f cdv)) →
      PS (cxOf CX0 P w K mg base N qual (defScope st) f cdv A outer s H E).nox st0 (tAsg (tLst (tCons (tCB (rLi K) (tCons (tVar 0) tNil)) (tCons (tC (.int 0)) (tCons (tC (.int 0)) (tCons (tC (.int 1)) tNil))))) (gName i)) ∧
      ∃ t, SSD (cxOf CX0 P w K mg base N qual (defScope st) f cdv A outer s H E).nox [] [] [i] rest t ms O')
    (hm : ∀ ns : List Int, ns.length ≤ 63 → ∃ δ, ms (envL N.length i ns) = some (.rt (.bl true) δ)) : FnOk P w K mg base CX0 (k + 1) f fd ["script"] (sp_law K) := by
  refine F.ok S (fun vs H Q E ⟨a, ns, e, _⟩ => by rw [e]; rfl) fun cdv A outer s H vs Q E hr hsp => ?_
  obtain ⟨a, ns, rfl, hS, hlen, q⟩ := hsp
  obtain ⟨h0, t, hB⟩ := h cdv A outer s H E hr
  rw [hb]
  refine ⟨_, pss_cons h0 hB.pe, ?_⟩
  refine ⟨.ref a, rfl, a, _, rfl, .inl hS, fun l hl => ?_⟩
  refine ⟨by show 4 ≤ sizeLine; decide, fun p hp => ?_⟩
  obtain ⟨δ, hδ⟩ := hm ns hlen
  have np : p ≠ l := fun z => by
    rw [z, upd_same] at hp
    cases hp
  have hp0 : H p = none := by
    rw [upd_ne np] at hp
    exact hp
  let H2 : Hp := upd (upd H l (.lst (ns.map V.int))) p (.lst [.ref l, .int 0, .int 0, .int 1])
  have s2 : Same H H2 := (Same.new hl).trans (Same.new hp)
  have hl2 : hidS [p] H2 l = some (.lst (ns.map V.int)) := by
    rw [hidS_eq, if_neg (by simp [Ne.symm np])]
    show upd (upd H l _) p _ l = _
    rw [upd_ne (Ne.symm np), upd_same]
  have R : Rl ⟨[], [], H⟩ [(i, p)] H2 ((L2.start N [.ref a]).set i (some (.ref p))) (envL N.length i ns) := by
    refine ⟨?_, fun x hx => (by cases hx), s2, fun x hx => (by cases hx), fun x hx => ?_, by simp, by simp, fun x hx => (by simp), fun x hx => ?_, fun j d hj hn => ?_⟩
    · unfold envL L2.start
      rw [List.length_set, List.length_set, List.length_append, List.length_replicate, List.length_replicate]
      show 1 + (N.length - 1) = N.length
      omega
    · rw [List.mem_singleton.mp hx]
      exact .inr hp0
    · rw [List.mem_singleton.mp hx]
      refine ⟨[.seq true (ns.map .int), .int 0, .int 0, .int 1], [.ref l, .int 0, .int 0, .int 1], ?_, ?_, upd_same, AtL.cons ⟨l, ns.map V.int, rfl, hl2, AtL.ofInts, by rw [List.length_map]; omega⟩ (AtL.cons rfl (AtL.cons rfl (AtL.one rfl))), by show 4 ≤ 16000000; decide⟩
      · show (envL N.length i ns)[i]? = _
        unfold envL stD
        rw [List.getElem?_set_self (by rw [List.length_replicate]; exact hiN)]
      · show ((L2.start N [.ref a]).set i (some (.ref p)))[i]? = _
        rw [List.getElem?_set_self]
        unfold L2.start
        rw [List.length_append, List.length_replicate]
        show i < 1 + (N.length - 1)
        omega
    · exfalso
      have ne : i ≠ j := fun z => hn (by simp [z])
      unfold envL at hj
      rw [get_set_ne ne, List.getElem?_replicate] at hj
      split at hj <;> cases hj
  refine hB.rd.run ⟨[], [], H⟩ [(i, p)] H2 _ _ _ _ rfl rfl R hδ ?_
  intro v H' X'
  have hv : v = .bl true := X'.vd
  subst hv
  exact q H'
end
end Kd
set_option Elab.async false
set_option linter.all false
set_option maxRecDepth 100000
set_option maxHeartbeats 4000000
namespace Kd
open PySem PySem.Spec PyProof.Rows L2 Kw
/-! ### reckoning with mirrors -/
theorem runS_of {n k : Nat} {ms : MS} {ds : List D} {d : D} {δ : DE} {s : List D} {env : DE} (hk : ds.length = k) (he : start n ds = env) (h : ms env = some (.rt d δ)) (hs : lstAt δ 0 = some s) : runS n k ms ds = some (d, .seq true s) := by
  unfold runS
  rw [if_pos hk, he, h]
  show (lstAt δ 0).map _ = _
  rw [hs]
  rfl
theorem runP_of {n k : Nat} {ms : MS} {ds : List D} {d : D} {δ : DE} {env : DE} (hk : ds.length = k) (he : start n ds = env) (h : ms env = some (.rt d δ)) : runP n k ms ds = some d := by
  unfold runP
  rw [if_pos hk, he, h]
  rfl
theorem ordD_int (o : OrdP) (i j : Int) : ordD o (.int i) (.int j) = some (o.i i j) := rfl
theorem ordD_str (o : OrdP) (i j : Str) : ordD o (.str i) (.str j) = some (o.s i j) := rfl
theorem ordD_bl (o : OrdP) (i j : Bool) : ordD o (.bl i) (.bl j) = some (o.i (b2i i) (b2i j)) := rfl
theorem ordDs_cons (o : OrdP) (x y : D) (xs ys : List D) : ordDs o (x :: xs) (y :: ys) = if eqD x y = true then ordDs o xs ys else ordD o x y := rfl
theorem ordDs_nil (o : OrdP) (ys : List D) : ordDs o [] ys = some (o.n 0 ys.length) := rfl
theorem ordD_tup (o : OrdP) (xs ys : List D) : ordD o (.seq false xs) (.seq false ys) = ordDs o xs ys := rfl
theorem eqD_int (i j : Int) : eqD (.int i) (.int j) = (i == j) := rfl
theorem eqD_str (i j : Str) : eqD (.str i) (.str j) = (i == j) := rfl
theorem lt_i (i j : Int) : ltO.i i j = decide (i < j) := rfl
theorem le_i (i j : Int) : leO.i i j = decide (i ≤ j) := rfl
theorem gt_i (i j : Int) : gtO.i i j = decide (j < i) := rfl
theorem ge_i (i j : Int) : geO.i i j = decide (j ≤ i) := rfl
theorem dep_int (i : Int) : (D.int i).dep = 0 := rfl
theorem dep_str (i : Str) : (D.str i).dep = 0 := rfl
theorem dep_bl (i : Bool) : (D.bl i).dep = 0 := rfl
theorem dep_non : D.non.dep = 0 := rfl
theorem atI_in' {α : Type} {xs : List α} {i : Int} {a : α} (h0 : 0 ≤ i) (h : xs[i.toNat]? = some a) : atI xs i = some a := atI_pos h0 h
/-- the state of the draws -/
def DrL (ds : List D) : Prop := ∃ (ns : List Int) (i b r : Int), ds = [.seq true (ns.map .int), .int i, .int b, .int r] ∧ 0 ≤ i ∧ 0 ≤ b ∧ ns.length ≤ 63
theorem drl_start {ns : List Int} (h : ns.length ≤ 63) : DrL [.seq true (ns.map .int), .int 0, .int 0, .int 1] := ⟨ns, 0, 0, 1, rfl, by decide, by decide, h⟩
/-- what a def over the state promises of its value -/
def Dr (g : List D → Option (D × D)) (as : List D) (p : D → Prop) : Prop := ∀ ds, DrL ds → ∃ d ds', g (.seq true ds :: as) = some (d, .seq true ds') ∧ p d ∧ DrL ds'
/-- a comprehension whose elements draw: E tells the names' values by the state -/
theorem lc_draw {vs : List Nat} {gd : D → DE → Option DE} {el : M} (p : D → D → Prop) (E : List D → DE) (hel : ∀ x ds, DrL ds → ∃ δ1 d δ2 ds', gd x (wipeD (E ds) vs) = some δ1 ∧ el δ1 = some (d, δ2) ∧ backD (E ds) δ2 vs = E ds' ∧ p x d ∧ DrL ds') :
    ∀ (xs : List D) (ds : List D), DrL ds → ∃ es ds', lcD vs gd mYes el xs (E ds) = some (es, E ds') ∧ es.length = xs.length ∧ (∀ (i : Nat) x d, xs[i]? = some x → es[i]? = some d → p x d) ∧ DrL ds'
  | [], ds, h => ⟨[], ds, rfl, rfl, fun i x d hx => by simp at hx, h⟩
  | x :: xs, ds, h => by
    obtain ⟨δ1, d, δ2, ds1, e1, e2, e3, hp, h1⟩ := hel x ds h
    obtain ⟨es, ds2, e4, e5, e6, h2⟩ := lc_draw p E hel xs ds1 h1
    refine ⟨d :: es, ds2, ?_, by simp [e5], fun i y z hy hz => ?_, h2⟩
    · show ((gd x (wipeD (E ds) vs)).bind _) = _
      rw [e1]
      show ((el δ1).bind _) = _
      rw [e2]
      show ((lcD vs gd mYes el xs (backD (E ds) δ2 vs)).bind _) = _
      rw [e3, e4]
      rfl
    · cases i with
      | zero =>
        cases (show some x = some y by simpa using hy)
        cases (show some d = some z by simpa using hz)
        exact hp
      | succ i => exact e6 i y z (by simpa using hy) (by simpa using hz)
theorem strs_all {p : Str → Prop} : ∀ {ds : List D}, (∀ d ∈ ds, ∃ z, d = .str z ∧ p z) → ∃ zs, strsD ds = some zs ∧ zs.length = ds.length ∧ ∀ z ∈ zs, p z
  | [], _ => ⟨[], rfl, rfl, fun z h => by cases h⟩
  | d :: ds, h => by
    obtain ⟨z, rfl, hz⟩ := h d (List.mem_cons_self ..)
    obtain ⟨zs, e1, e2, e3⟩ := strs_all fun e he => h e (List.mem_cons_of_mem _ he)
    refine ⟨z :: zs, ?_, by simp [e2], fun y hy => ?_⟩
    · show (strsD ds).map _ = _
      rw [e1]
      rfl
    · rcases List.mem_cons.mp hy with q | q
      · rw [q]
        exact hz
      · exact e3 y q
theorem all_of_at {α : Type} {p : α → Prop} {l : List α} (h : ∀ (i : Nat) a, l[i]? = some a → p a) : ∀ a ∈ l, p a := fun a ha => by
  obtain ⟨i, hi⟩ := List.getElem?_of_mem ha
  exact h i a hi
theorem rngD_length (lo : Int) (n : Nat) : (rngD lo n).length = n := by unfold rngD; rw [List.length_map, List.length_range]
theorem sum_le {b : Nat} : ∀ {zs : List Str}, (∀ z ∈ zs, z.length ≤ b) → (zs.map (·.length)).sum ≤ zs.length * b
  | [], _ => by simp
  | z :: zs, h => by
    have h1 := h z (List.mem_cons_self ..)
    have h2 := sum_le fun y hy => h y (List.mem_cons_of_mem _ hy)
    rw [List.map_cons, List.sum_cons, List.length_cons, Nat.succ_mul]
    omega
theorem join_ok {a : Str} {l : Bool} {es : List D} {b n : Nat} (h : ∀ d ∈ es, ∃ z, d = D.str z ∧ z.length ≤ b) (hn : es.length ≤ n) (hz : n * b + n * a.length ≤ 16000000) : ∃ z, joinD (.str a) (.seq l es) = some (.str z) ∧ ∃ zs, strsD es = some zs ∧ z = Txt.join a zs ∧ ∀ z ∈ zs, z.length ≤ b := by
  obtain ⟨zs, f1, f2, f3⟩ := strs_all (p := fun z => z.length ≤ b) h
  refine ⟨Txt.join a zs, ?_, zs, f1, rfl, f3⟩
  show ((strsD es).bind fun ys => if (ys.map (·.length)).sum + ys.length * a.length ≤ 16000000 then some (D.str (Txt.join a ys)) else none) = _
  rw [f1, Option.bind_some, if_pos]
  have h1 := sum_le f3
  have h2 : zs.length * b ≤ n * b := Nat.mul_le_mul_right _ (by omega)
  have h3 : zs.length * a.length ≤ n * a.length := Nat.mul_le_mul_right _ (by omega)
  omega
/-! ### steps -/
section
variable {δ δ1 δ2 : DE} {a b m : M} {r : MA} {d x y : D} {as ds es xs : List D} {i : Nat}
theorem mOp_of {g : D → D → Option D} (ha : a δ = some (x, δ1)) (hb : b δ1 = some (y, δ2)) (hg : g x y = some d) : mOp g a b δ = some (d, δ2) := by
  unfold mOp
  rw [ha, Option.bind_some]
  simp only [hb, Option.bind_some, hg]
  rfl
theorem mUn_of {g : D → Option D} (ha : a δ = some (x, δ1)) (hg : g x = some d) : mUn g a δ = some (d, δ1) := by
  unfold mUn
  rw [ha, Option.bind_some]
  simp only [hg]
  rfl
theorem mCons_of (ha : a δ = some (d, δ1)) (hr : r δ1 = some (ds, δ2)) : mCons a r δ = some (d :: ds, δ2) := by
  unfold mCons
  rw [ha, Option.bind_some]
  simp only [hr]
  rfl
theorem mNil_of : mNil δ = some ([], δ) := rfl
theorem mC_of : mC d δ = some (d, δ) := rfl
theorem mVar_of (h : δ[i]? = some (some d)) : mVar i δ = some (d, δ) := by
  unfold mVar
  rw [h]
theorem mCall_of {g : List D → Option D} (hr : r δ = some (as, δ1)) (hg : g as = some d) : mCall g r δ = some (d, δ1) := by
  unfold mCall
  rw [hr, Option.bind_some]
  simp only [hg]
  rfl
theorem mCallS_of {mf : List D → Option (D × D)} (hr : r δ = some (as, δ1)) (hl : lstAt δ1 i = some ds) (hg : mf (.seq true ds :: as) = some (d, .seq true es)) : mCallS i mf r δ = some (d, δ1.set i (some (.seq true es))) := by
  unfold mCallS
  rw [hr, Option.bind_some]
  simp only [hl, Option.bind_some, hg]
theorem mSeq_of {l : Bool} (hr : r δ = some (as, δ1)) (hz : as.length ≤ 16000000) : mSeq l r δ = some (.seq l as, δ1) := by
  unfold mSeq
  rw [hr, Option.bind_some]
  simp only [if_pos hz]
theorem iRg1_of {j : Int} (hr : r δ = some ([.int j], δ1)) (h0 : -4611686018427387904 ≤ j) (h1 : j ≤ 16000000) : iRg1 r δ = some (rngD 0 j.toNat, δ1) := by
  unfold iRg1
  rw [hr, Option.bind_some]
  simp only [if_pos (And.intro h0 h1)]
theorem iSeq_of {l : Bool} (ha : a δ = some (.seq l xs, δ1)) : iSeq a δ = some (xs, δ1) := by
  unfold iSeq
  rw [ha, Option.bind_some]
theorem mLc_of {mi : MA} {vs : List Nat} {gd : D → DE → Option DE} {t : MT} {el : M} (hi : mi δ = some (xs, δ1)) (hl : lcD vs gd t el xs δ1 = some (es, δ2)) (hz : es.length ≤ 16000000) : mLc mi vs gd t el δ = some (.seq true es, δ2) := by
  unfold mLc
  rw [hi, Option.bind_some]
  simp only [hl, Option.bind_some, if_pos hz]
theorem sSeq_nx {s t : MS} (h : s δ = some (.nx δ1)) : sSeq s t δ = t δ1 := by
  unfold sSeq
  rw [h, Option.bind_some]
theorem sSeq_rt {s t : MS} (h : s δ = some (.rt d δ1)) : sSeq s t δ = some (.rt d δ1) := by
  unfold sSeq
  rw [h, Option.bind_some]
theorem sSet_of (h : m δ = some (d, δ1)) : sSet i m δ = some (.nx (δ1.set i (some d))) := by
  unfold sSet
  rw [h]
  rfl
theorem sRet_of (h : m δ = some (d, δ1)) : sRet m δ = some (.rt d δ1) := by
  unfold sRet
  rw [h]
  rfl
theorem sFor_of {mi : MA} {gd : D → DE → Option DE} {body : MS} {z : Fl} (hi : mi δ = some (xs, δ1)) (h : forD gd body xs δ1 = some z) : sFor mi gd body δ = some z := by
  unfold sFor
  rw [hi, Option.bind_some]
  exact h
theorem sIf_t {c : MT} {s t : MS} (h : c δ = some (true, δ1)) : sIf c s t δ = s δ1 := by
  unfold sIf
  rw [h, Option.bind_some, if_pos rfl]
theorem sIf_f {c : MT} {s t : MS} (h : c δ = some (false, δ1)) : sIf c s t δ = t δ1 := by
  unfold sIf
  rw [h, Option.bind_some, if_neg (by simp)]
theorem mTst_of {b : Bool} (h : m δ = some (.bl b, δ1)) : mTst m δ = some (b, δ1) := by
  unfold mTst
  rw [h, Option.bind_some]
theorem mTru_of {b : Bool} (h : m δ = some (d, δ1)) (ht : truD d = some b) : mTru m δ = some (b, δ1) := by
  unfold mTru
  rw [h, Option.bind_some]
  simp only [ht]
  rfl
theorem mNotT_of {c : MT} {b : Bool} (h : c δ = some (b, δ1)) : mNotT c δ = some (!b, δ1) := by
  unfold mNotT
  rw [h]
  rfl
/-- a loop whose turns keep a form of the names' values: E tells them by the state of the draws and by what the loop leaves in its own names -/
theorem for_draw {gd : D → DE → Option DE} {body : MS} (p : DE → Prop) (hb : ∀ x δ, p δ → ∃ δ1 δ2, gd x δ = some δ1 ∧ body δ1 = some (.nx δ2) ∧ p δ2) : ∀ (xs : List D) (δ : DE), p δ → ∃ δ2, forD gd body xs δ = some (.nx δ2) ∧ p δ2
  | [], δ, h => ⟨δ, rfl, h⟩
  | x :: xs, δ, h => by
    obtain ⟨δ1, δ2, e1, e2, h2⟩ := hb x δ h
    obtain ⟨δ3, e3, h3⟩ := for_draw p hb xs δ2 h2
    refine ⟨δ3, ?_, h3⟩
    unfold forD
    rw [e1, Option.bind_some, e2, Option.bind_some]
    exact e3
end
end Kd
set_option Elab.async false
set_option linter.all false
set_option maxRecDepth 100000
set_option maxHeartbeats 4000000
namespace Kd
open PySem PySem.Spec PyProof.Rows L2 Kw
/-! ### the helpers that stand in all laws of this kind: draws, characters, the same data -/
local macro_rules | `(tactic| walk_at "dl") => `(tactic| simp [sSeq, sNext, sIf, sRet, sRetN, sDrop, sSet, sSetO, sAppO, sAsgG, sSubO, sAugO, mVar, mC, mOp, mUn, mNil, mCons, mSeq, mCall, mTst, mNotT, mAndT, mOrT, mIf, mNot, mAnd, mOr, mTru, mIxO, mLenO, mCallS, lstAt, intOf, atD, addI, addD, subD, mulB, mulD, modD, fdivD, powD, negD, eqO, ordO, ordD_int, ordD_str, eqD_int, eqD_str, lt_i, le_i, gt_i, ge_i, dep_int, dep_str, dep_bl, dep_non, lenD, intD, atI, ixN, truD, isNonD, notNonD, isBD, *])
abbrev m_law_next : MS := (sSeq (sIf (mAndT (mTst (mOp (eqO false) (mIxO 0 (mC (.int 2))) (mC (.int 0)))) (mTst (mOp (ordO ltO) (mIxO 0 (mC (.int 1))) (mCall lenD (mCons (mIxO 0 (mC (.int 0))) mNil))))) (sSeq (sSet 2 (mOp atD (mIxO 0 (mC (.int 0))) (mIxO 0 (mC (.int 1)))))
  (sSeq (sAugO 0 addI (mC (.int 1)) (mC (.int 1)))
  (sSeq (sIf (mTst (mOp (ordO geO) (mVar 2) (mOp powD (mC (.int 10)) (mC (.int 18))))) (sSeq (sSubO 0 (mVar 2) (mC (.int 2)))
  sNext) (sSeq (sSubO 0 (mOp modD (mCall intD (mCons (mOp addD (mOp addD (mOp mulB (mIxO 0 (mC (.int 3))) (mC (.int 48271))) (mOp modD (mCall intD (mCons (mVar 2) mNil)) (mC (.int 2147483647)))) (mC (.int 7))) mNil)) (mC (.int 2147483647))) (mC (.int 3)))
  sNext))
  sNext))) sNext)
  (sSeq (sIf (mTst (mOp (ordO gtO) (mIxO 0 (mC (.int 2))) (mC (.int 0)))) (sSeq (sSet 3 (mOp modD (mCall intD (mCons (mIxO 0 (mC (.int 2))) mNil)) (mVar 1)))
  (sSeq (sSubO 0 (mOp fdivD (mIxO 0 (mC (.int 2))) (mVar 1)) (mC (.int 2)))
  (sSeq (sRet (mVar 3))
  sNext))) sNext)
  (sSeq (sSubO 0 (mOp modD (mCall intD (mCons (mOp addD (mOp mulB (mIxO 0 (mC (.int 3))) (mC (.int 69621))) (mC (.int 12345))) mNil)) (mC (.int 2147483647))) (mC (.int 3)))
  (sSeq (sRet (mOp modD (mCall intD (mCons (mOp fdivD (mIxO 0 (mC (.int 3))) (mC (.int 7))) mNil)) (mVar 1)))
  sNext))))
def r_law_next : List D → Option (D × D) := runS 4 2 m_law_next
def charM (a b : Str) : MS := (sSeq (sSet 1 (mC (.str a)))
  (sSeq (sSet 1 (mOp addD (mVar 1) (mC (.str b))))
  (sSeq (sRet (mOp atD (mVar 1) (mOp modD (mCall intD (mCons (mVar 0) mNil)) (mC (.int 95)))))
  sNext)))
abbrev m_law_char : MS := (sSeq (sSet 1 (mC (.str " '!\"#$&()*+,-./0123456789:;<=>?@ABCDEFGHIJKLMNOPQRSTUVWXYZ[\\]^_`")))
  (sSeq (sSet 1 (mOp addD (mVar 1) (mC (.str "abcdefghijklmnopqrstuvwxyz{|}~\n"))))
  (sSeq (sRet (mOp atD (mVar 1) (mOp modD (mCall intD (mCons (mVar 0) mNil)) (mC (.int 95)))))
  sNext)))
def r_law_char : List D → Option D := runP 2 1 m_law_char
abbrev m_law_same (self : List D → Option D) : MS := (sSeq (sIf (mTst (mOp isNonD (mVar 1) (mC .non))) (sSeq (sRet (mOp isNonD (mVar 0) (mC .non)))
  sNext) sNext)
  (sSeq (sIf (mTru (mUn (isiD "bool") (mVar 1))) (sSeq (sRet (mAnd (mUn (isiD "bool") (mVar 0)) (mOp (eqO false) (mVar 0) (mVar 1))))
  sNext) sNext)
  (sSeq (sIf (mTru (mUn (isiD "int") (mVar 1))) (sSeq (sRet (mAnd (mUn (isiD "int") (mVar 0)) (mAnd (mNot (mUn (isiD "bool") (mVar 0))) (mOp (eqO false) (mVar 0) (mVar 1)))))
  sNext) sNext)
  (sSeq (sIf (mTru (mUn (isiD "str") (mVar 1))) (sSeq (sRet (mAnd (mUn (isiD "str") (mVar 0)) (mOp (eqO false) (mVar 0) (mVar 1))))
  sNext) sNext)
  (sSeq (sIf (mAndT (mTru (mUn (isiD "tuple") (mVar 1))) (mNotT (mTru (mUn (isiD "tuple") (mVar 0))))) (sSeq (sRet (mC (.bl false)))
  sNext) sNext)
  (sSeq (sIf (mAndT (mTru (mUn (isiD "list") (mVar 1))) (mNotT (mTru (mUn (isiD "list") (mVar 0))))) (sSeq (sRet (mC (.bl false)))
  sNext) sNext)
  (sSeq (sIf (mTst (mOp (eqO true) (mCall lenD (mCons (mVar 0) mNil)) (mCall lenD (mCons (mVar 1) mNil)))) (sSeq (sRet (mC (.bl false)))
  sNext) sNext)
  (sSeq (sFor (iRg1 (mCons (mCall lenD (mCons (mVar 1) mNil)) mNil)) (gN 2) (sSeq (sIf (mNotT (mTru (mCall self (mCons (mOp atD (mVar 0) (mVar 2)) (mCons (mOp atD (mVar 1) (mVar 2)) mNil))))) (sSeq (sRet (mC (.bl false)))
  sNext) sNext)
  sNext))
  (sSeq (sRet (mC (.bl true)))
  sNext)))))))))
def r_law_same : Nat → List D → Option D
  | 0 => fun _ => none
  | n + 1 => runP 3 2 (m_law_same (r_law_same n))
def NextP (lim : Int) (ns : List Int) : Fl → Prop := fun r => ∃ δ d i' b' r', r = .rt (.int d) δ ∧ lstAt δ 0 = some [.seq true (ns.map .int), .int i', .int b', .int r'] ∧ 0 ≤ d ∧ d < lim ∧ 0 ≤ i' ∧ 0 ≤ b'
theorem next_ok {lim : Int} (hl : 0 < lim) (hlog : lim < 1073741824 ∨ lim.natAbs.log2 < 9000) : Dr r_law_next [.int lim] fun d => ∃ v, d = .int v ∧ 0 ≤ v ∧ v < lim := by
  rintro ds ⟨ns, i, b, r, rfl, h0, hb, hn⟩
  have m0 : ∀ x : Int, 0 ≤ x % lim := fun x => Int.emod_nonneg _ (by omega)
  have m1 : ∀ x : Int, x % lim < lim := fun x => Int.emod_lt_of_pos _ hl
  have d0 : ∀ x : Int, 0 ≤ x → 0 ≤ x / lim := fun x hx => Int.ediv_nonneg hx (by omega)
  have key : ∃ r', m_law_next [some (.seq true [.seq true (ns.map .int), .int i, .int b, .int r]), some (.int lim), none, none] = some r' ∧ NextP lim ns r' := by
    by_cases hb0 : b = 0
    · subst hb0
      by_cases hi : i < ns.length
      · have hlt : i.toNat < ns.length := by omega
        obtain ⟨c, hc⟩ : ∃ c, ns[i.toNat] = c := ⟨_, rfl⟩
        by_cases hc1 : (1000000000000000000 : Int) ≤ c
        · have c0 : 0 < c := by omega
          walk_at "dl"
          exact ⟨_, _, _, _, _, rfl, rfl, m0 _, m1 _, by omega, d0 _ (by omega)⟩
        · walk_at "dl"
          exact ⟨_, _, _, _, _, rfl, rfl, m0 _, m1 _, by omega, by omega⟩
      · walk_at "dl"
        exact ⟨_, _, _, _, _, rfl, rfl, m0 _, m1 _, h0, by omega⟩
    · have b0 : 0 < b := by omega
      walk_at "dl"
      exact ⟨_, _, _, _, _, rfl, rfl, m0 _, m1 _, h0, d0 _ (by omega)⟩
  obtain ⟨r', e0, δ, d, i', b', r'', rfl, e2, e3, e4, e5, e6⟩ := key
  exact ⟨.int d, _, runS_of rfl rfl e0 e2, ⟨d, rfl, e3, e4⟩, ns, i', b', r'', rfl, e5, e6, hn⟩
theorem len_app (a b : Str) : (a ++ b).length = a.length + b.length := Array.size_append
theorem char_core {a b : Str} (h : a.length + b.length = 95) (i : Int) : ∃ z, runP 2 1 (charM a b) [.int i] = some (.str z) ∧ z.length = 1 := by
  have l : (a ++ b).cps.toList.length = 95 := by
    rw [Array.length_toList, ← h]
    exact len_app a b
  have m0 : 0 ≤ i % 95 := by omega
  have m1 : i % 95 < 95 := by omega
  obtain ⟨c, hc⟩ := some_at (l := (a ++ b).cps.toList) (i := (i % 95).toNat) (by omega)
  have hat : atI (a ++ b).cps.toList (i % 95) = some c := atI_pos m0 hc
  have hz : (a ++ b).length ≤ 16000000 := by
    have := len_app a b
    omega
  have hd : atD (.str (a ++ b)) (.int (i % 95)) = some (.str ⟨#[c]⟩) := by
    show (if (a ++ b).length ≤ 16000000 then (atI (a ++ b).cps.toList (i % 95)).map fun c => D.str ⟨#[c]⟩ else none) = _
    rw [if_pos hz, hat]
    rfl
  have hadd : addD (.str a) (.str b) = some (.str (a ++ b)) := by
    show (if a.length + b.length ≤ 16000000 then some (D.str (a ++ b)) else none) = _
    rw [if_pos (by omega)]
  refine ⟨⟨#[c]⟩, runP_of (env := [some (.int i), none]) rfl rfl (δ := [some (.int i), some (.str (a ++ b))]) ?_, rfl⟩
  simp [charM, sSeq, sNext, sRet, sSet, mVar, mC, mOp, mNil, mCons, mCall, hadd, hd, intD, modD]
theorem char_ok (i : Int) : ∃ z, r_law_char [.int i] = some (.str z) ∧ z.length = 1 := char_core (by decide +kernel) i
/-! ### the same data -/
mutual
def sameD : D → D → Bool
  | .non, .non => true
  | .bl a, .bl b => a == b
  | .int a, .int b => a == b
  | .str a, .str b => a == b
  | .seq l xs, .seq k ys => (l == k) && sameDs xs ys
  | _, _ => false
def sameDs : List D → List D → Bool
  | [], [] => true
  | x :: xs, y :: ys => sameD x y && sameDs xs ys
  | _, _ => false
end
/-- the length of the longest list within -/
def bigD : D → Nat
  | .seq _ xs => max xs.length (bigL xs)
  | _ => 0
where bigL : List D → Nat
  | [] => 0
  | d :: ds => max (bigD d) (bigL ds)
theorem sameDs_len : ∀ {xs ys : List D}, xs.length ≠ ys.length → sameDs xs ys = false
  | [], [], h => absurd rfl h
  | [], _ :: _, _ => rfl
  | _ :: _, [], _ => rfl
  | x :: xs, y :: ys, h => by
    show (sameD x y && sameDs xs ys) = false
    rw [sameDs_len fun e => h (by rw [List.length_cons, List.length_cons, e]), Bool.and_false]
mutual
theorem sameD_refl : ∀ d : D, sameD d d = true
  | .non => rfl
  | .bl b => by show (b == b) = true; exact beq_self_eq_true b
  | .int i => by show (i == i) = true; exact beq_self_eq_true i
  | .str z => by show (z == z) = true; exact beq_self_eq_true z
  | .seq l xs => by
    show ((l == l) && sameDs xs xs) = true
    rw [beq_self_eq_true, sameDs_refl xs]
    rfl
theorem sameDs_refl : ∀ xs : List D, sameDs xs xs = true
  | [] => rfl
  | x :: xs => by
    show (sameD x x && sameDs xs xs) = true
    rw [sameD_refl x, sameDs_refl xs]
    rfl
end
theorem big_get : ∀ {ds : List D} {i : Nat} {d : D}, ds[i]? = some d → bigD d ≤ bigD.bigL ds
  | [], i, d, e => by simp at e
  | c :: ds, 0, d, e => by
    have q : c = d := by simpa using e
    subst q
    exact Nat.le_max_left _ _
  | c :: ds, i + 1, d, e => Nat.le_trans (big_get (ds := ds) (i := i) (d := d) (by simpa using e)) (Nat.le_max_right _ _)
def isBl : D → Bool
  | .non => false
  | .bl _ => true
  | .int _ => false
  | .str _ => false
  | .seq true _ => false
  | .seq false _ => false
theorem isi_bool : ∀ d : D, isiD "bool" d = some (.bl (isBl d))
  | .non => rfl
  | .bl _ => rfl
  | .int _ => rfl
  | .str _ => rfl
  | .seq true _ => rfl
  | .seq false _ => rfl
def isInt : D → Bool
  | .non => false
  | .bl _ => true
  | .int _ => true
  | .str _ => false
  | .seq true _ => false
  | .seq false _ => false
theorem isi_int : ∀ d : D, isiD "int" d = some (.bl (isInt d))
  | .non => rfl
  | .bl _ => rfl
  | .int _ => rfl
  | .str _ => rfl
  | .seq true _ => rfl
  | .seq false _ => rfl
def isStr : D → Bool
  | .non => false
  | .bl _ => false
  | .int _ => false
  | .str _ => true
  | .seq true _ => false
  | .seq false _ => false
theorem isi_str : ∀ d : D, isiD "str" d = some (.bl (isStr d))
  | .non => rfl
  | .bl _ => rfl
  | .int _ => rfl
  | .str _ => rfl
  | .seq true _ => rfl
  | .seq false _ => rfl
def isLst : D → Bool
  | .non => false
  | .bl _ => false
  | .int _ => false
  | .str _ => false
  | .seq true _ => true
  | .seq false _ => false
theorem isi_list : ∀ d : D, isiD "list" d = some (.bl (isLst d))
  | .non => rfl
  | .bl _ => rfl
  | .int _ => rfl
  | .str _ => rfl
  | .seq true _ => rfl
  | .seq false _ => rfl
def isTup : D → Bool
  | .non => false
  | .bl _ => false
  | .int _ => false
  | .str _ => false
  | .seq true _ => false
  | .seq false _ => true
theorem isi_tuple : ∀ d : D, isiD "tuple" d = some (.bl (isTup d))
  | .non => rfl
  | .bl _ => rfl
  | .int _ => rfl
  | .str _ => rfl
  | .seq true _ => rfl
  | .seq false _ => rfl
theorem tru_bl (b : Bool) : truD (.bl b) = some b := rfl
/-- the loop over two lists -/
def SameP (a e : D) (b : Bool) : Fl → Prop := fun r => if b = true then ∃ x, r = .nx [some a, some e, x] else ∃ δ, r = .rt (.bl false) δ
theorem same_loop {self : List D → Option D} {l k : Bool} {ds es : List D} (hl : ds.length = es.length) (hs : ∀ (j : Nat) (d e : D), ds[j]? = some d → es[j]? = some e → self [d, e] = some (.bl (sameD d e))) :
    ∀ (m i : Nat) (x : Option D), i + m = es.length → ∃ r, forD (gN 2) (sSeq (sIf (mNotT (mTru (mCall self (mCons (mOp atD (mVar 0) (mVar 2)) (mCons (mOp atD (mVar 1) (mVar 2)) mNil))))) (sSeq (sRet (mC (.bl false))) sNext) sNext) sNext)
      ((List.range' i m).map fun (j : Nat) => D.int (0 + (j : Int))) [some (.seq l ds), some (.seq k es), x] = some r ∧ SameP (.seq l ds) (.seq k es) (sameDs (ds.drop i) (es.drop i)) r
  | 0, i, x, h => by
    refine ⟨_, rfl, ?_⟩
    have e1 : ds.drop i = [] := List.drop_of_length_le (by omega)
    have e2 : es.drop i = [] := List.drop_of_length_le (by omega)
    rw [e1, e2]
    exact ⟨x, rfl⟩
  | m + 1, i, x, h => by
    have hi : i < es.length := by omega
    have hi2 : i < ds.length := by omega
    obtain ⟨d, hd⟩ := some_at hi2
    obtain ⟨e, he⟩ := some_at hi
    have a1 : atI ds (i : Int) = some d := atI_nat hd
    have a2 : atI es (i : Int) = some e := atI_nat he
    have hse := hs i d e hd he
    obtain ⟨_, ed⟩ := List.getElem?_eq_some_iff.mp hd
    obtain ⟨_, ee⟩ := List.getElem?_eq_some_iff.mp he
    rw [List.drop_eq_getElem_cons hi2, List.drop_eq_getElem_cons hi, ed, ee]
    show ∃ r, _ ∧ SameP _ _ (sameD d e && sameDs (ds.drop (i + 1)) (es.drop (i + 1))) r
    have step : ∀ z : Option D, (sSeq (sIf (mNotT (mTru (mCall self (mCons (mOp atD (mVar 0) (mVar 2)) (mCons (mOp atD (mVar 1) (mVar 2)) mNil))))) (sSeq (sRet (mC (.bl false))) sNext) sNext) sNext) [some (.seq l ds), some (.seq k es), some (.int (0 + (i : Int)))] =
        (if sameD d e = true then some (.nx [some (.seq l ds), some (.seq k es), some (.int (0 + (i : Int)))]) else some (.rt (.bl false) [some (.seq l ds), some (.seq k es), some (.int (0 + (i : Int)))])) := fun z => by
      cases c : sameD d e <;> simp [sSeq, sIf, sNext, sRet, mNotT, mTru, mCall, mCons, mNil, mOp, mVar, mC, atD, a1, a2, hse, c, tru_bl]
    rw [List.range'_succ, List.map_cons]
    unfold forD
    show ∃ r, (((gN 2) (D.int (0 + (i : Int))) [some (.seq l ds), some (.seq k es), x]).bind _) = some r ∧ _
    rw [show (gN 2) (D.int (0 + (i : Int))) [some (.seq l ds), some (.seq k es), x] = some [some (.seq l ds), some (.seq k es), some (.int (0 + (i : Int)))] from rfl]
    rw [Option.bind_some, step none]
    cases c : sameD d e with
    | true =>
      obtain ⟨r, e1, e2⟩ := same_loop hl hs m (i + 1) (some (.int (0 + (i : Int)))) (by omega)
      exact ⟨r, by simpa using e1, by simpa using e2⟩
    | false => exact ⟨_, rfl, by show ∃ δ, _; exact ⟨_, rfl⟩⟩
theorem eqD_bl (i j : Bool) : eqD (.bl i) (.bl j) = (i == j) := rfl
theorem same_ok : ∀ (n : Nat) (d e : D), e.dep < n → bigD e ≤ 16000000 → r_law_same n [d, e] = some (.bl (sameD d e))
  | 0, d, e, h, _ => absurd h (Nat.not_lt_zero _)
  | n + 1, d, e, h, hb => by
    show runP 3 2 (m_law_same (r_law_same n)) [d, e] = _
    cases e with
    | non =>
      refine runP_of (env := [some d, some .non, none]) (δ := [some d, some .non, none]) rfl rfl ?_
      cases d with
      | seq l xs => cases l <;> simp [m_law_same, sSeq, sIf, sNext, sRet, mTst, mNotT, mAndT, mTru, mUn, mOp, mVar, mC, mAnd, mNot, isNonD, isi_bool, isi_int, isi_str, isi_tuple, isi_list, isBl, isInt, isStr, isTup, isLst, tru_bl, eqO, eqD_bl, eqD_int, eqD_str, dep_bl, dep_int, dep_str, dep_non, sameD]
      | _ => simp [m_law_same, sSeq, sIf, sNext, sRet, mTst, mNotT, mAndT, mTru, mUn, mOp, mVar, mC, mAnd, mNot, isNonD, isi_bool, isi_int, isi_str, isi_tuple, isi_list, isBl, isInt, isStr, isTup, isLst, tru_bl, eqO, eqD_bl, eqD_int, eqD_str, dep_bl, dep_int, dep_str, dep_non, sameD]
    | bl b =>
      refine runP_of (env := [some d, some (.bl b), none]) (δ := [some d, some (.bl b), none]) rfl rfl ?_
      cases d with
      | seq l xs => cases l <;> simp [m_law_same, sSeq, sIf, sNext, sRet, mTst, mNotT, mAndT, mTru, mUn, mOp, mVar, mC, mAnd, mNot, isNonD, isi_bool, isi_int, isi_str, isi_tuple, isi_list, isBl, isInt, isStr, isTup, isLst, tru_bl, eqO, eqD_bl, eqD_int, eqD_str, dep_bl, dep_int, dep_str, dep_non, sameD]
      | _ => simp [m_law_same, sSeq, sIf, sNext, sRet, mTst, mNotT, mAndT, mTru, mUn, mOp, mVar, mC, mAnd, mNot, isNonD, isi_bool, isi_int, isi_str, isi_tuple, isi_list, isBl, isInt, isStr, isTup, isLst, tru_bl, eqO, eqD_bl, eqD_int, eqD_str, dep_bl, dep_int, dep_str, dep_non, sameD]
    | int b =>
      refine runP_of (env := [some d, some (.int b), none]) (δ := [some d, some (.int b), none]) rfl rfl ?_
      cases d with
      | seq l xs => cases l <;> simp [m_law_same, sSeq, sIf, sNext, sRet, mTst, mNotT, mAndT, mTru, mUn, mOp, mVar, mC, mAnd, mNot, isNonD, isi_bool, isi_int, isi_str, isi_tuple, isi_list, isBl, isInt, isStr, isTup, isLst, tru_bl, eqO, eqD_bl, eqD_int, eqD_str, dep_bl, dep_int, dep_str, dep_non, sameD]
      | _ => simp [m_law_same, sSeq, sIf, sNext, sRet, mTst, mNotT, mAndT, mTru, mUn, mOp, mVar, mC, mAnd, mNot, isNonD, isi_bool, isi_int, isi_str, isi_tuple, isi_list, isBl, isInt, isStr, isTup, isLst, tru_bl, eqO, eqD_bl, eqD_int, eqD_str, dep_bl, dep_int, dep_str, dep_non, sameD]
    | str b =>
      refine runP_of (env := [some d, some (.str b), none]) (δ := [some d, some (.str b), none]) rfl rfl ?_
      cases d with
      | seq l xs => cases l <;> simp [m_law_same, sSeq, sIf, sNext, sRet, mTst, mNotT, mAndT, mTru, mUn, mOp, mVar, mC, mAnd, mNot, isNonD, isi_bool, isi_int, isi_str, isi_tuple, isi_list, isBl, isInt, isStr, isTup, isLst, tru_bl, eqO, eqD_bl, eqD_int, eqD_str, dep_bl, dep_int, dep_str, dep_non, sameD]
      | _ => simp [m_law_same, sSeq, sIf, sNext, sRet, mTst, mNotT, mAndT, mTru, mUn, mOp, mVar, mC, mAnd, mNot, isNonD, isi_bool, isi_int, isi_str, isi_tuple, isi_list, isBl, isInt, isStr, isTup, isLst, tru_bl, eqO, eqD_bl, eqD_int, eqD_str, dep_bl, dep_int, dep_str, dep_non, sameD]
    | seq k es =>
      have hes : es.length ≤ 16000000 := Nat.le_trans (Nat.le_max_left _ _) hb
      cases d with
      | seq l ds =>
        by_cases c : l = k
        · subst c
          have e0 : sameD (.seq l ds) (.seq l es) = sameDs ds es := by
            show ((l == l) && _) = _
            rw [beq_self_eq_true, Bool.true_and]
          rw [e0]
          by_cases hlen : ds.length = es.length
          · have ih : ∀ (j : Nat) (d e : D), ds[j]? = some d → es[j]? = some e → r_law_same n [d, e] = some (.bl (sameD d e)) := fun j d e h1 h2 => by
              have d1 : e.dep ≤ depL es := dep_get h2
              have d2 : depL es + 1 < n + 1 := h
              have b1 : bigD e ≤ bigD.bigL es := big_get h2
              exact same_ok n d e (by omega) (Nat.le_trans b1 (Nat.le_trans (Nat.le_max_right _ _) hb))
            obtain ⟨r, loop, hr⟩ := same_loop (l := l) (k := l) hlen ih es.length 0 none (by omega)
            rw [List.drop_zero, List.drop_zero] at hr
            have hrng : rngD 0 es.length = (List.range' 0 es.length).map fun (j : Nat) => D.int (0 + (j : Int)) := by
              unfold rngD
              rw [List.range_eq_range']
            rw [← hrng] at loop
            have hz : (es.length : Int) ≤ 16000000 := by omega
            have hz0 : -4611686018427387904 ≤ (es.length : Int) := by omega
            cases b : sameDs ds es with
            | true =>
              rw [b] at hr
              obtain ⟨x, rfl⟩ := hr
              refine runP_of (env := [some (.seq l ds), some (.seq l es), none]) (δ := [some (.seq l ds), some (.seq l es), x]) rfl rfl ?_
              cases l <;> simp [m_law_same, sSeq, sIf, sNext, sRet, mTst, mNotT, mAndT, mTru, mUn, mOp, mVar, mC, mAnd, mNot, isNonD, isi_bool, isi_int, isi_str, isi_tuple, isi_list, isBl, isInt, isStr, isTup, isLst, tru_bl, eqO, eqD_bl, eqD_int, eqD_str, dep_bl, dep_int, dep_str, dep_non, sameD, mCall, mCons, mNil, lenD, sFor, iRg1, hlen, loop, hz, hz0]
            | false =>
              rw [b] at hr
              obtain ⟨δ, rfl⟩ := hr
              refine runP_of (env := [some (.seq l ds), some (.seq l es), none]) (δ := δ) rfl rfl ?_
              cases l <;> simp [m_law_same, sSeq, sIf, sNext, sRet, mTst, mNotT, mAndT, mTru, mUn, mOp, mVar, mC, mAnd, mNot, isNonD, isi_bool, isi_int, isi_str, isi_tuple, isi_list, isBl, isInt, isStr, isTup, isLst, tru_bl, eqO, eqD_bl, eqD_int, eqD_str, dep_bl, dep_int, dep_str, dep_non, sameD, mCall, mCons, mNil, lenD, sFor, iRg1, hlen, loop, hz, hz0]
          · rw [sameDs_len hlen]
            refine runP_of (env := [some (.seq l ds), some (.seq l es), none]) (δ := [some (.seq l ds), some (.seq l es), none]) rfl rfl ?_
            have hne : ((ds.length : Int) == (es.length : Int)) = false := beq_eq_false_iff_ne.mpr (by omega)
            cases l <;> simp [m_law_same, sSeq, sIf, sNext, sRet, mTst, mNotT, mAndT, mTru, mUn, mOp, mVar, mC, mAnd, mNot, isNonD, isi_bool, isi_int, isi_str, isi_tuple, isi_list, isBl, isInt, isStr, isTup, isLst, tru_bl, eqO, eqD_bl, eqD_int, eqD_str, dep_bl, dep_int, dep_str, dep_non, mCall, mCons, mNil, lenD, hne]
        · have e0 : sameD (.seq l ds) (.seq k es) = false := by
            show ((l == k) && _) = _
            rw [beq_eq_false_iff_ne.mpr c, Bool.false_and]
          rw [e0]
          refine runP_of (env := [some (.seq l ds), some (.seq k es), none]) (δ := [some (.seq l ds), some (.seq k es), none]) rfl rfl ?_
          cases l <;> cases k <;> first | exact absurd rfl c | simp [m_law_same, sSeq, sIf, sNext, sRet, mTst, mNotT, mAndT, mTru, mUn, mOp, mVar, mC, mAnd, mNot, isNonD, isi_bool, isi_int, isi_str, isi_tuple, isi_list, isBl, isInt, isStr, isTup, isLst, tru_bl, eqO, eqD_bl, eqD_int, eqD_str, dep_bl, dep_int, dep_str, dep_non, sameD]
      | non =>
        refine runP_of (env := [some .non, some (.seq k es), none]) (δ := [some .non, some (.seq k es), none]) rfl rfl ?_
        cases k <;> simp [m_law_same, sSeq, sIf, sNext, sRet, mTst, mNotT, mAndT, mTru, mUn, mOp, mVar, mC, mAnd, mNot, isNonD, isi_bool, isi_int, isi_str, isi_tuple, isi_list, isBl, isInt, isStr, isTup, isLst, tru_bl, eqO, eqD_bl, eqD_int, eqD_str, dep_bl, dep_int, dep_str, dep_non, sameD]
      | bl b =>
        refine runP_of (env := [some (.bl b), some (.seq k es), none]) (δ := [some (.bl b), some (.seq k es), none]) rfl rfl ?_
        cases k <;> simp [m_law_same, sSeq, sIf, sNext, sRet, mTst, mNotT, mAndT, mTru, mUn, mOp, mVar, mC, mAnd, mNot, isNonD, isi_bool, isi_int, isi_str, isi_tuple, isi_list, isBl, isInt, isStr, isTup, isLst, tru_bl, eqO, eqD_bl, eqD_int, eqD_str, dep_bl, dep_int, dep_str, dep_non, sameD]
      | int b =>
        refine runP_of (env := [some (.int b), some (.seq k es), none]) (δ := [some (.int b), some (.seq k es), none]) rfl rfl ?_
        cases k <;> simp [m_law_same, sSeq, sIf, sNext, sRet, mTst, mNotT, mAndT, mTru, mUn, mOp, mVar, mC, mAnd, mNot, isNonD, isi_bool, isi_int, isi_str, isi_tuple, isi_list, isBl, isInt, isStr, isTup, isLst, tru_bl, eqO, eqD_bl, eqD_int, eqD_str, dep_bl, dep_int, dep_str, dep_non, sameD]
      | str b =>
        refine runP_of (env := [some (.str b), some (.seq k es), none]) (δ := [some (.str b), some (.seq k es), none]) rfl rfl ?_
        cases k <;> simp [m_law_same, sSeq, sIf, sNext, sRet, mTst, mNotT, mAndT, mTru, mUn, mOp, mVar, mC, mAnd, mNot, isNonD, isi_bool, isi_int, isi_str, isi_tuple, isi_list, isBl, isInt, isStr, isTup, isLst, tru_bl, eqO, eqD_bl, eqD_int, eqD_str, dep_bl, dep_int, dep_str, dep_non, sameD]
end Kd
set_option Elab.async false
set_option linter.all false
set_option maxRecDepth 100000
set_option maxHeartbeats 4000000
namespace Kd
open PySem PySem.Spec PyProof.Rows L2 Kw
/-! ### xs.extend(ys), ys being a list or a tuple -/
theorem ext_tup (l b : Addr) (xs ys : Array Value) (n m : Nat) (dd : Option Addr) (sl : Array (Option Value)) (h0 : ¬(!xs.isEmpty && Builtin.List.listTooLong (xs.size + ys.size)) = true) (h1 : xs.size ≤ sizeLine) (h2 : xs.size + ys.size ≤ sizeLine + 1) :
    Meets (Builtin.«list.extend» ⟨[.ref l, .ref b], []⟩) fun _ R s => s.heap.get? l = some { cls := .type "list", dict := none, data := .seq xs n, slots := #[] } ∧
      s.heap.get? b = some { cls := .type "tuple", dict := dd, data := .seq ys m, slots := sl } ∧ R (.ok (.ret Value.none)) { s with heap := s.heap.update l (Obj.mapSeq fun x => x ++ ys), toks := s.toks } := by
  refine .of_wp fun prog w A R s h => ?_
  obtain ⟨hp, g, d, tk, os⟩ := s
  obtain ⟨hl, hb, h⟩ := h
  have i1 := AutoSeq1.idx_int
  have i2 := AutoSeq1.sub_tuple_tuple
  have i3 := AutoSeq1.sub_list_list
  have i4 := AutoSeq1.sub_tuple_list
  have i5 := AutoSeq1.sub_list_tuple
  have hz : (xs ++ ys).size ≤ sizeLine + 1 := by
    rw [Array.size_append]
    exact h2
  wp_walk using (wpAny_updateSeq hl rfl (hz := h1) (_hz' := hz)), AutoSeq1.wpAny_loadPart' hl, AutoSeq1.wpAny_loadPart' hb
  exact ⟨_, rfl, h⟩
def rExtQ : V → List V → Hp → VK → Prop := fun x vs H Q => ∃ l b xs zs k, x = .ref l ∧ vs = [.ref b] ∧ H l = some (.lst xs) ∧ H b = some (seqO k zs) ∧ xs.length + zs.length ≤ sizeLine ∧ Q .non (upd H l (.lst (xs ++ zs)))
theorem mt_extQ {X : Cx} : MtM X "list.extend" rExtQ := by
  intro pins s σ H x vs v us Q I rx rv h
  obtain ⟨l, b, xs, zs, k, hx, hv, hH, hB, hz, q⟩ := h
  cases k with
  | true => exact mt_extend pins s σ H x vs v us Q I rx rv ⟨l, b, xs, zs, hx, hv, hH, hB, hz, q⟩
  | false =>
    subst hx hv
    cases rx
    obtain ⟨u, rfl, ru⟩ := rv.one
    cases ru
    obtain ⟨z, its, n, r, hl, e⟩ := I.lstM hH
    obtain ⟨its2, r2, ⟨⟨cl, dd, da, sl⟩, g1, g2, m, g3⟩, z2⟩ := I.tuple (SqT.of hB)
    cases (show cl = _ from g2)
    cases (show da = _ from g3)
    have hl2 := r2.length
    have hsz : its.toArray.size + its2.toArray.size ≤ sizeLine := by rw [List.size_toArray, List.size_toArray]; omega
    refine call_meets F.slot_list_extend ⟨_, e, rfl⟩ F.entry_list_extend (F.args_list_extend_2 _ _) (ext_tup l b its.toArray its2.toArray n m dd sl (extend_door hsz) (Nat.le_trans (Nat.le_add_right _ _) hsz) (Nat.le_succ_of_le hsz)) ⟨e, g1, ?_⟩
    refine ⟨.non, _, I.lset (its' := its ++ its2) hH e (by simp) (r.append r2) ?_, rfl, q⟩
    rw [List.length_append]
    exact hz
section
variable {X : Cx} {K : PySem.W.Frag} {O IO OL : List Nat} {e : Expr} {te : TE} {m : M} {pos : Pos}
theorem peO (O : List Nat) (h : ED X O e te m) : PE X e te := h.pe
def sExtO (i : Nat) (m : M) : MS := fun δ => (m δ).bind fun p => (lstAt p.2 i).bind fun ds => match p.1 with
  | .seq _ es => if ds.length + es.length ≤ 16000000 then some (.nx (p.2.set i (some (.seq true (ds ++ es))))) else none
  | _ => none
theorem sd_extO {i : Nat} {x : Str} {p ap cp : Pos} (hK : X.K = K) (h : ED X O e te m) (hO : O.contains i = true := by rfl) (hN : X.N[i]? = some x := by rfl) (hv : Vis X.env.scope x := by first | exact Or.inl rfl | exact Or.inr (Or.inl rfl) | exact Or.inr (Or.inr rfl)) (h1 : (x == Str.ofString "__debug__") = false := by decide) (h2 : (x == Str.ofString "__classdict__") = false := by decide)
    {hpe : PE X (.Call (.Attribute (.Name x p) "extend" ap) [e] [] cp) (tBM K "list" rExtQ (tVar i) (tCons te tNil))} (hs : swapsWith (.Call (.Attribute (.Name x p) "extend" ap) [e] [] cp) none pos.line X.env = pure false := by rfl) :
    SD X IO OL O (.Expr (.Call (.Attribute (.Name x p) "extend" ap) [e] [] cp) pos) (tDrop (tBM K "list" rExtQ (tVar i) (tCons te tNil))) (sExtO i m) O := by
  refine ⟨ps_expr hpe hs, ⟨fun f A H σ δ r E hI hA R hm P => ?_⟩⟩
  obtain ⟨⟨d, δ1⟩, e1, hm⟩ := bind_some hm
  obtain ⟨a0, ha0, _, _, _, es', e4, _⟩ := own_at R hA hO
  refine ⟨.ref a0, es', .inl ⟨rfl, _, .inl (.inl e4)⟩, h.rd.run f A H σ δ d δ1 _ hA R e1 fun v H1 R1 s1 hd => ?_⟩
  obtain ⟨ds, xs, q1, q2, q3, q4, q5⟩ := R1.own _ ha0
  obtain ⟨ds', ed, hm⟩ := bind_some hm
  rw [show lstAt (d, δ1).2 i = some ds from lstAt_of q1] at ed
  cases ed
  cases d with
  | seq k es =>
    by_cases c : ds.length + es.length ≤ 16000000
    · replace hm : (if ds.length + es.length ≤ 16000000 then some (Fl.nx (δ1.set i (some (.seq true (ds ++ es))))) else none) = some r := hm
      rw [if_pos c] at hm
      cases hm
      obtain ⟨b, zs, rfl, hb, hl, hz⟩ := hd
      exact ⟨a0, b, xs, zs, k, rfl, rfl, q3, (hidS_some hb).1, Nat.le_of_lt (lt_small (by have := q4.length; have := hl.length; omega)), P A _ σ hA (R1.write (p := (i, a0)) ha0 (AtL.append q4 hl) (by rw [List.length_append]; omega))⟩
    · replace hm : (if ds.length + es.length ≤ 16000000 then some (Fl.nx (δ1.set i (some (.seq true (ds ++ es))))) else none) = some r := hm
      rw [if_neg c] at hm
      cases hm
  | _ => cases hm
/-! ### isinstance(x, (T, U)) -/
def isi2D (T U : String) (d : D) : Option D := (kitB d.ty T).bind fun b => if b = true then some (.bl true) else (kitB d.ty U).map D.bl
theorem isi2_any {K : PySem.W.Frag} {T U a : String} {b c : Bool} (h1 : kitB a T = some b) (h2 : b = false → kitB a U = some c) (h3 : b = true → c = true) : PySem.W.kitAny K (.type a) [.type T, .type U] = some c :=
  kitAny_cons (kit_ty h1) (fun e => kitAny_cons (kit_ty (h2 e)) (fun e2 => by rw [e2]; exact kitAny_nil) fun e2 => e2) h3
theorem ed_isi2 {T U : Str} {T' U' : String} {p p1 p2 : Pos} {x1} {pt : Pos} (hK : X.K = K) (hg : Gl X "isinstance") (hm : X.mg "isinstance" = none) (hgT : Gl X T) (hmT : X.mg T = none) (hvT : bootBuiltins T = some (.type T')) (hgU : Gl X U) (hmU : X.mg U = none) (hvU : bootBuiltins U = some (.type U')) (ha : ED X O e te m)
    (hT1 : T ≠ "__name__" := by decide) (hTd : (T == ("__debug__" : Str)) = false := by decide) (hU1 : U ≠ "__name__" := by decide) (hUd : (U == ("__debug__" : Str)) = false := by decide)
    (h1 : starEach [.Name T p1, .Name U p2] X.env = (false, eval (.Name T p1) X.env) :: starEach [.Name U p2] X.env := by rfl) (h2 : starEach [.Name U p2] X.env = (false, eval (.Name U p2) X.env) :: starEach [] X.env := by rfl)
    (he : starEach [e, .Tuple [.Name T p1, .Name U p2] x1 pt] X.env = (false, eval e X.env) :: starEach [.Tuple [.Name T p1, .Name U p2] x1 pt] X.env := by rfl) (he2 : starEach [.Tuple [.Name T p1, .Name U p2] x1 pt] X.env = (false, eval (.Tuple [.Name T p1, .Name U p2] x1 pt) X.env) :: starEach [] X.env := by rfl) (hpl : (backTo pos (starEach [.Tuple [.Name T p1, .Name U p2] x1 pt] X.env)).any (·.1) = false := by rfl) :
    ED X O (.Call (.Name "isinstance" p) [e, .Tuple [.Name T p1, .Name U p2] x1 pt] [] pos) (tCB (rIsiT K) (tCons te (tCons (tTup (tCons (tC (.ty T')) (tCons (tC (.ty U')) tNil))) tNil))) (mUn (isi2D T' U') m) := by
  subst hK
  refine ⟨pe_callB call_isiT hg hm (by decide +kernel) (pa_cons ha.pe (pa_cons (pe_tup (pa_cons (pe_bltn hgT hmT hvT rfl hT1 hTd) (pa_cons (pe_bltn hgU hmU hvU rfl hU1 hUd) pa_nil h2) h1)) pa_nil he2) he) (by decide) (by decide) he hpl, ⟨fun f A H σ δ d δ' Q hA R hm q => ?_⟩⟩
  obtain ⟨⟨dx, δ1⟩, e1, hm⟩ := bind_some hm
  obtain ⟨d', e3, hm⟩ := map_some' hm
  cases hm
  refine ha.rd.run f A H σ δ dx δ1 _ hA R e1 fun x H1 R1 s1 h1 => ?_
  refine ⟨by show 2 ≤ sizeLine; decide, fun p hp => ?_⟩
  have s2 : Same H1 (upd H1 p (.tup [.ty T', .ty U'])) := Same.new hp
  have R2 := R1.grow s2
  have q2 := fun (b : Bool) (eb : d = D.bl b) => q (.bl b) (upd H1 p (.tup [.ty T', .ty U'])) R2 (s1.trans (Same.hidS _ s2)) (by rw [eb]; rfl)
  have ty := At.ty (K := X.K) (At.up (Same.hidS _ s2) h1).out
  obtain ⟨b, e4, e5⟩ := bind_some e3
  cases b with
  | true =>
    cases e5
    exact ⟨x, p, _, .type dx.ty, [.type T', .type U'], true, rfl, upd_same, .cons (.ty _) (.cons (.ty _) .nil), ty, isi2_any e4 (fun h => by cases h) (fun _ => rfl), q2 true rfl⟩
  | false =>
    obtain ⟨c, e6, rfl⟩ := map_some' e5
    exact ⟨x, p, _, .type dx.ty, [.type T', .type U'], c, rfl, upd_same, .cons (.ty _) (.cons (.ty _) .nil), ty, isi2_any e4 (fun _ => e6) (fun h => by cases h), q2 c rfl⟩
theorem isi_int_str (d : D) : isi2D "int" "str" d = some (.bl (isInt d || isStr d || isBl d)) := by
  cases d with
  | seq l xs => cases l <;> rfl
  | _ => rfl
end
end Kd
set_option Elab.async false
set_option linter.all false
set_option maxRecDepth 100000
set_option maxHeartbeats 4000000
namespace Kd
open PySem PySem.Spec PyProof.Rows L2 Kw
/-! ### the order of texts -/
theorem nat_tri : ∀ a b : List Nat, a < b ∨ a = b ∨ b < a
  | [], [] => .inr (.inl rfl)
  | [], _ :: _ => .inl (List.nil_lt_cons ..)
  | _ :: _, [] => .inr (.inr (List.nil_lt_cons ..))
  | x :: a, y :: b => by
    rcases Nat.lt_trichotomy x y with h | h | h
    · exact .inl (List.cons_lt_cons_iff.mpr (.inl h))
    · rcases nat_tri a b with g | g | g
      · exact .inl (List.cons_lt_cons_iff.mpr (.inr ⟨h, g⟩))
      · exact .inr (.inl (by rw [h, g]))
      · exact .inr (.inr (List.cons_lt_cons_iff.mpr (.inr ⟨h.symm, g⟩)))
    · exact .inr (.inr (List.cons_lt_cons_iff.mpr (.inl h)))
theorem str_ext {a b : Str} (h : a.cps.toList = b.cps.toList) : a = b := by
  cases a; cases b
  congr
  exact Array.toList_inj.mp h
theorem str_tri (a b : Str) : (ltO.s a b = true ∧ ltO.s b a = false ∧ (a == b) = false) ∨ (ltO.s a b = false ∧ ltO.s b a = false ∧ (a == b) = true) ∨ (ltO.s a b = false ∧ ltO.s b a = true ∧ (a == b) = false) := by
  have irr : ∀ l : List Nat, ¬ l < l := fun l => List.lt_irrefl l
  rcases nat_tri a.cps.toList b.cps.toList with h | h | h
  · refine .inl ⟨decide_eq_true h, decide_eq_false (List.lt_asymm h), ?_⟩
    rw [beq_eq_false_iff_ne]
    rintro rfl
    exact irr _ h
  · cases str_ext h
    exact .inr (.inl ⟨decide_eq_false (irr _), decide_eq_false (irr _), beq_self_eq_true _⟩)
  · refine .inr (.inr ⟨decide_eq_false (List.lt_asymm h), decide_eq_true h, ?_⟩)
    rw [beq_eq_false_iff_ne]
    rintro rfl
    exact irr _ h
theorem s_le (a b : Str) : leO.s a b = !ltO.s b a := rfl
theorem s_gt (a b : Str) : gtO.s a b = ltO.s b a := rfl
theorem s_ge (a b : Str) : geO.s a b = !ltO.s a b := rfl
theorem join_chars {l : Bool} {es : List D} (h : ∀ d ∈ es, ∃ z, d = D.str z ∧ z.length = 1) (hn : es.length ≤ 16000000) : ∃ z, joinD (.str "") (.seq l es) = some (.str z) ∧ z.length = es.length := by
  obtain ⟨zs, f1, f2, f3⟩ := strs_all (p := fun z => z.length = 1) h
  refine ⟨Txt.join "" zs, ?_, by rw [PySem.W.KT.join_ones zs f3, f2]⟩
  show ((strsD es).bind fun ys => if (ys.map (·.length)).sum + ys.length * ("" : Str).length ≤ 16000000 then some (D.str (Txt.join "" ys)) else none) = _
  rw [f1, Option.bind_some, if_pos]
  have h1 := sum_le (b := 1) fun z hz => Nat.le_of_eq (f3 z hz)
  have h2 : ("" : Str).length = 0 := rfl
  rw [h2]
  omega
def shortD (d : D) : Prop := leafD d = true ∧ ∀ z, d = .str z → z.length ≤ 1000
def LeafP (p : D → Prop) : Fl → Prop := fun r => ∃ d δ ds, r = .rt d δ ∧ lstAt δ 0 = some ds ∧ p d ∧ DrL ds
theorem dr_of {n k : Nat} {ms : MS} {p : D → Prop} {as : List D} (h : ∀ ds, DrL ds → ∃ r, ms (start n (.seq true ds :: as)) = some r ∧ LeafP p r) (hk : as.length + 1 = k := by rfl) : Dr (runS n k ms) as p := fun ds hd => by
  obtain ⟨r, e, d, δ, ds', rfl, e2, hp, h2⟩ := h ds hd
  exact ⟨d, ds', runS_of hk rfl e e2, hp, h2⟩
theorem for_mem {gd : D → DE → Option DE} {body : MS} (p : DE → Prop) : ∀ (xs : List D) (δ : DE), (∀ x ∈ xs, ∀ δ, p δ → ∃ δ1 δ2, gd x δ = some δ1 ∧ body δ1 = some (.nx δ2) ∧ p δ2) → p δ → ∃ δ2, forD gd body xs δ = some (.nx δ2) ∧ p δ2
  | [], δ, _, h => ⟨δ, rfl, h⟩
  | x :: xs, δ, hb, h => by
    obtain ⟨δ1, δ2, e1, e2, h2⟩ := hb x (List.mem_cons_self ..) δ h
    obtain ⟨δ3, e3, h3⟩ := for_mem p xs δ2 (fun y hy => hb y (List.mem_cons_of_mem _ hy)) h2
    refine ⟨δ3, ?_, h3⟩
    unfold forD
    rw [e1, Option.bind_some, e2, Option.bind_some]
    exact e3
/-! ### numbers in order -/
def Tri (l g q : Bool) : Prop := (l = true ∧ g = false ∧ q = false) ∨ (l = false ∧ g = false ∧ q = true) ∨ (l = false ∧ g = true ∧ q = false)
theorem int_tri (i j : Int) : Tri (decide (i < j)) (decide (j < i)) (i == j) := by
  rcases Int.lt_trichotomy i j with h | h | h
  · exact .inl ⟨decide_eq_true h, decide_eq_false (by omega), by rw [beq_eq_false_iff_ne]; omega⟩
  · exact .inr (.inl ⟨decide_eq_false (by omega), decide_eq_false (by omega), by rw [h]; exact beq_self_eq_true _⟩)
  · exact .inr (.inr ⟨decide_eq_false (by omega), decide_eq_true h, by rw [beq_eq_false_iff_ne]; omega⟩)
theorem depL_cons (d : D) (ds : List D) : depL (d :: ds) = max d.dep (depL ds) := rfl
theorem depL_nil : depL [] = 0 := rfl
theorem dep_seq (l : Bool) (ds : List D) : (D.seq l ds).dep = depL ds + 1 := rfl
theorem eqDs_cons (x y : D) (xs ys : List D) : eqDs (x :: xs) (y :: ys) = (eqD x y && eqDs xs ys) := rfl
theorem eqDs_nil : eqDs [] [] = true := rfl
theorem eqD_seq (l : Bool) (xs ys : List D) : eqD (.seq l xs) (.seq l ys) = eqDs xs ys := by
  show ((l == l) && eqDs xs ys) = _
  rw [beq_self_eq_true, Bool.true_and]
end Kd
set_option Elab.async false
set_option linter.all false
set_option maxRecDepth 100000
set_option maxHeartbeats 4000000
namespace Kd
open PySem PySem.Spec PyProof.Rows L2 Kw
/-! ### own lists lent: an expression that tells a leaf -/
def lfD : D → Bool
  | .seq _ _ => false
  | _ => true
theorem at_lf {H H' : Hp} {d : D} {v : V} (h : At H d v) (l : lfD d = true) : At H' d v := by
  cases d <;> first | exact h | cases l
def mBor (m : M) : M := fun δ => (m δ).bind fun p => if lfD p.1 = true then some (p.1, δ) else none
def mBorT (m : MT) : MT := fun δ => (m δ).map fun p => (p.1, δ)
theorem Rl.lentAll {f : Fr} {A : Own} {H : Hp} {σ : L2.St} {δ : DE} (R : Rl f A H σ δ) : Rl ⟨f.T, [], H⟩ [] H σ δ := by
  have s : Same (hidS (SA f A) H) (hidS (SA ⟨f.T, [], H⟩ []) H) := same_hid_sub fun x hx => by
    rcases mem_SA.mp hx with h | ⟨p, hp, e⟩
    · exact mem_SA.mpr (.inl h)
    · cases hp
  refine ⟨R.len, fun x hx => ⟨rfl, R.alive x (mem_SA.mpr (.inl hx))⟩, Same.refl _, fun p hp => (by cases hp), fun p hp => (by cases hp), List.nodup_nil, List.nodup_nil, fun p hp => (by cases hp), fun p hp => (by cases hp), fun j d hj _ => ?_⟩
  by_cases c : j ∈ A.map (·.1)
  · obtain ⟨p, hp, rfl⟩ := List.mem_map.mp c
    obtain ⟨ds, xs, e1, e2, e3, e4, e5⟩ := R.own p hp
    rw [e1] at hj
    cases hj
    refine ⟨.ref p.2, e2, p.2, xs, rfl, ?_, AtL.same s _ _ e4, e5⟩
    rw [hidS_eq, if_neg (fun z => ?_)]
    · exact e3
    · rcases mem_SA.mp z with h | ⟨q, hq, e⟩
      · exact R.dj p hp h
      · cases hq
  · obtain ⟨v, e1, e2⟩ := R.dat j d hj c
    exact ⟨v, e1, At.same s _ _ e2⟩
theorem lent_same {f : Fr} {H H1 : Hp} {σ : L2.St} {δ1 : DE} (R1 : Rl ⟨f.T, [], H⟩ [] H1 σ δ1) (s1 : Same (hidS (SA ⟨f.T, [], H⟩ []) H) (hidS (SA ⟨f.T, [], H⟩ []) H1)) : Same H H1 := fun b o e => by
  by_cases c : b ∈ f.T
  · rw [(R1.tq b c).1]
    exact e
  · refine (hidS_some (s1 b o ?_)).1
    rw [hidS_eq, if_neg fun z => ?_]
    · exact e
    · rcases mem_SA.mp z with h | ⟨q, hq, e⟩
      · exact c h
      · cases hq
section
variable {X : Cx} {K : PySem.W.Frag} {O IO OL : List Nat} {e : Expr} {te : TE} {tt : TT} {m : M} {mt : MT} {pos : Pos} {ts : TA} {mas : MA}
theorem rd_bor (h : Rde [] te m) : Rde O te (mBor m) := by
  refine ⟨fun f A H σ δ d δ' Q hA R hm q => ?_⟩
  obtain ⟨⟨d1, δ1⟩, e1, hm⟩ := bind_some hm
  replace hm : (if lfD d1 = true then some (d1, δ) else none) = some (d, δ') := hm
  by_cases c : lfD d1 = true
  · rw [if_pos c] at hm
    cases hm
    refine h.run ⟨f.T, [], H⟩ [] H σ δ d δ1 _ rfl R.lentAll e1 fun v H1 R1 s1 h1 => ?_
    have s := lent_same R1 s1
    exact q v H1 (R.grow s) (Same.hidS _ s) (at_lf h1 c)
  · rw [if_neg c] at hm
    cases hm
theorem rd_borT (h : Rdt [] tt mt) : Rdt O tt (mBorT mt) := by
  refine ⟨fun f A H σ δ b δ' Q hA R hm q => ?_⟩
  obtain ⟨⟨d1, δ1⟩, e1, hm⟩ := map_some' hm
  cases hm
  refine h.run ⟨f.T, [], H⟩ [] H σ δ _ δ1 _ rfl R.lentAll e1 fun H1 R1 s1 => ?_
  have s := lent_same R1 s1
  exact q H1 (R.grow s) (Same.hidS _ s)
theorem ed_bor (h : ED X [] e te m) : ED X O e te (mBor m) := ⟨h.pe, rd_bor h.rd⟩
theorem td_bor (h : TD X [] e tt mt) : TD X O e tt (mBorT mt) := ⟨h.pe, rd_borT h.rd⟩
/-! ### defs that give a new list -/
def spF (mf : List D → Option (List D)) : Sp := fun vs H Q _ => ∃ (T : List Addr) (ds es : List D), (∀ x ∈ T, H x ≠ none) ∧ AtL (hidS T H) ds vs ∧ mf ds = some es ∧
  ∀ p H1 xs, (∀ x ∈ T, H1 x = H x) → Same (hidS T H) (hidS T H1) → H1 p = none → AtL (hidS T H1) es xs → es.length ≤ 16000000 → Q (.ref p) (upd H1 p (.lst xs))
def mCallF (mf : List D → Option (List D)) (a : MA) : M := fun δ => (a δ).bind fun p => (mf p.1).map fun es => (.seq true es, p.2)
theorem rf_call {mf : List D → Option (List D)} (h : Rda O ts mas) : Rdf O (tCall (spF mf) [] E0 ts) (mCallF mf mas) := by
  refine ⟨fun f A H σ δ d δ' Q hA R hm q => ?_⟩
  obtain ⟨⟨ds, δ1⟩, e1, hm⟩ := bind_some hm
  obtain ⟨es, e3, hm⟩ := map_some' hm
  cases hm
  refine h.run f A H σ δ ds _ _ hA R e1 fun xs H1 R1 s1 h1 => ?_
  rw [List.append_nil]
  refine ⟨SA f A, ds, es, R1.alive, h1, e3, fun p H' xs' hT s hp hl hz => ?_⟩
  refine q es p xs' H' rfl (R1.step (fun x hx => hT x (mem_SA.mpr (.inl hx))) s rfl (fun _ _ => rfl) fun p hp => ?_) (s1.trans s) hp hl hz
  obtain ⟨ds', xs', p1, p2, p3, p4, p5⟩ := R1.own p hp
  exact ⟨ds', xs', p1, (hT _ (mem_SA.mpr (.inr ⟨p, hp, rfl⟩))).trans p3, AtL.same s _ _ p4, p5⟩
theorem fd_callF {mf : List D → Option (List D)} {k : Nat} {x : Str} {p : Pos} {es : List Expr} (c : CalX X.prog X.w X.K X.mg X.base CX0 k x (spF mf)) (hr : Room k X.A) (hg : Gl X x) (ha : AD X O (e :: es) ts mas)
    (hdb : (x == ("__debug__" : Str)) = false := by decide) (he : starEach (e :: es) X.env = (false, eval e X.env) :: starEach es X.env := by rfl) (hpl : (backTo pos (starEach es X.env)).any (·.1) = false := by rfl) :
    FD X O (.Call (.Name x p) (e :: es) [] pos) (tCall (spF mf) [] E0 ts) (mCallF mf mas) := ⟨pe_cx c hr hg pass0 ha.pe hdb he hpl, rf_call ha.rd⟩
/-! ### own.insert(i, e), i not below 0 -/
def rIns : V → List V → Hp → VK → Prop := fun x vs H Q => ∃ (l : Addr) (xs : List V) (i : Int) (y : V), x = .ref l ∧ vs = [.int i, y] ∧ H l = some (.lst xs) ∧ xs.length < sizeLine ∧ 0 ≤ i ∧ i < 2 ^ 63 ∧
    Q .non (upd H l (.lst (xs.take i.toNat ++ [y] ++ xs.drop i.toNat)))
theorem mt_ins : MtR X "list.insert" rIns := mt_insert
def sInsO (i : Nat) (k m : M) : MS := fun δ => (k δ).bind fun p => (m p.2).bind fun q => (intOf p.1).bind fun j => (lstAt q.2 i).bind fun ds => if 0 ≤ j ∧ j < 2 ^ 63 ∧ ds.length < 16000000 then
  some (.nx (q.2.set i (some (.seq true (ds.take j.toNat ++ [q.1] ++ ds.drop j.toNat))))) else none
theorem sd_insO {i : Nat} {x : Str} {k : Expr} {tk : TE} {mk : M} {p ap cp : Pos} (hK : X.K = K) (hk : ED X O k tk mk) (h : ED X O e te m) (hO : O.contains i = true := by rfl) (hN : X.N[i]? = some x := by rfl) (hv : Vis X.env.scope x := by first | exact Or.inl rfl | exact Or.inr (Or.inl rfl) | exact Or.inr (Or.inr rfl)) (h1 : (x == Str.ofString "__debug__") = false := by decide) (h2 : (x == Str.ofString "__classdict__") = false := by decide)
    {hpe : PE X (.Call (.Attribute (.Name x p) "insert" ap) [k, e] [] cp) (tBM K "list" rIns (tVar i) (tCons tk (tCons te tNil)))} (hs : swapsWith (.Call (.Attribute (.Name x p) "insert" ap) [k, e] [] cp) none pos.line X.env = pure false := by rfl) :
    SD X IO OL O (.Expr (.Call (.Attribute (.Name x p) "insert" ap) [k, e] [] cp) pos) (tDrop (tBM K "list" rIns (tVar i) (tCons tk (tCons te tNil)))) (sInsO i mk m) O := by
  refine ⟨ps_expr hpe hs, ⟨fun f A H σ δ r E hI hA R hm P => ?_⟩⟩
  obtain ⟨⟨dk, δ1⟩, e1, hm⟩ := bind_some hm
  obtain ⟨⟨d, δ2⟩, e2, hm⟩ := bind_some hm
  obtain ⟨j, ej, hm⟩ := bind_some hm
  obtain ⟨a0, ha0, _, _, _, es', e4, _⟩ := own_at R hA hO
  refine ⟨.ref a0, es', .inl ⟨rfl, _, .inl (.inl e4)⟩, hk.rd.run f A H σ δ dk δ1 _ hA R e1 fun y H1 R1 s1 hy => ?_⟩
  refine h.rd.run f A H1 σ δ1 d δ2 _ hA R1 e2 fun v H2 R2 s2 hd => ?_
  obtain ⟨ds, xs, q1, q2, q3, q4, q5⟩ := R2.own _ ha0
  obtain ⟨ds', ed, hmf⟩ := bind_some hm
  rw [show lstAt (d, δ2).2 i = some ds from lstAt_of q1] at ed
  cases ed
  cases (show dk = .int j from intOf_some ej)
  cases (show y = .int j from hy)
  by_cases c : 0 ≤ j ∧ j < 2 ^ 63 ∧ ds.length < 16000000
  · rw [if_pos c] at hmf
    cases hmf
    refine ⟨a0, xs, j, v, rfl, rfl, q3, lt_small (by rw [q4.length]; omega), c.1, c.2.1, P A _ σ hA (R2.write (p := (i, a0)) ha0 (AtL.append (AtL.append (AtL.take _ q4) (AtL.one hd)) (AtL.drop _ q4)) ?_)⟩
    rw [List.length_append, List.length_append, List.length_take, List.length_drop, List.length_singleton]
    omega
  · rw [if_neg c] at hmf
    cases hmf
end
end Kd
set_option Elab.async false
set_option linter.all false
set_option maxRecDepth 100000
set_option maxHeartbeats 4000000
namespace Kd
open PySem PySem.Spec PyProof.Rows L2 Kw
/-! ### counts by keys -/
def keyD : D → Option Key
  | .int i => some (.inl i)
  | .str x => some (.inr x)
  | _ => none
def keyLs : List D → Option (List Key)
  | [] => some []
  | d :: ds => (keyD d).bind fun k => (keyLs ds).map fun ks => k :: ks
def keyL : D → Option (List Key)
  | .seq false ds => keyLs ds
  | _ => none
def setC (c : List Key → Int) (k : List Key) (n : Int) : List Key → Int := fun j => if j = k then n else c j
def cameGo (rk : List D → Option D) : (List Key → Int) → List D → Option (List D)
  | _, [] => some []
  | c, row :: r => (rk [row]).bind fun kd => (keyL kd).bind fun k => if 0 < c k then cameGo rk (setC c k (c k - 1)) r else (cameGo rk c r).map fun s => row :: s
def cntGo (rk : List D → Option D) : (List Key → Int) → List D → Option (List Key → Int)
  | c, [] => some c
  | c, row :: r => (rk [row]).bind fun kd => (keyL kd).bind fun k => cntGo rk (setC c k (c k + 1)) r
def cameF (rk : List D → Option D) : List D → Option (List D)
  | [.seq _ old, .seq _ new] => (cntGo rk (fun _ => 0) old).bind fun c => cameGo rk c new
  | _ => none
def wentF (mf : List D → Option (List D)) : List D → Option (List D)
  | [a, b] => mf [b, a]
  | _ => none
theorem keyLs_at {G : Hp} : ∀ {ds : List D} {xs : List V} {k : List Key}, keyLs ds = some k → AtL G ds xs → xs = k.map kV
  | [], xs, k, e, h => by
    cases e
    exact h
  | d :: ds, xs, k, e, h => by
    obtain ⟨k1, e1, e⟩ := bind_some e
    obtain ⟨ks, e2, rfl⟩ := map_some' e
    obtain ⟨x, ys, rfl, h1, h2⟩ := h
    have := keyLs_at e2 h2
    subst this
    cases d with
    | int i =>
      cases e1
      cases (show x = .int i from h1)
      rfl
    | str z =>
      cases e1
      cases (show x = .str z from h1)
      rfl
    | _ => cases e1
theorem key_at {G : Hp} {kd : D} {v : V} {k : List Key} (hk : keyL kd = some k) (h : At G kd v) : ∃ b, v = .ref b ∧ G b = some (.tup (k.map kV)) := by
  cases kd with
  | seq l ds =>
    cases l with
    | true => cases hk
    | false =>
      obtain ⟨a, xs, rfl, ha, hl, _⟩ := h
      refine ⟨a, rfl, ?_⟩
      rw [← keyLs_at hk hl]
      exact ha
  | _ => cases hk
def CI (kvs : List (List Key × V)) (c : List Key → Int) : Prop := ∀ k, (valV kvs k).getD (.int 0) = .int (c k)
theorem CI.nil : CI [] fun _ => 0 := fun _ => rfl
theorem CI.put {kvs : List (List Key × V)} {c : List Key → Int} (h : CI kvs c) (k : List Key) (n : Int) : CI (putK kvs k (.int n)) (setC c k n) := fun j => by
  rw [valV_put]
  unfold setC
  by_cases e : j = k
  · rw [if_pos e, if_pos e]
    rfl
  · rw [if_neg e, if_neg e]
    exact h j
theorem CI.pos {kvs : List (List Key × V)} {c : List Key → Int} (h : CI kvs c) {k : List Key} (hp : 0 < c k) : valV kvs k = some (.int (c k)) := by
  have := h k
  cases e : valV kvs k with
  | none =>
    rw [e] at this
    have : V.int 0 = .int (c k) := this
    injection this with this
    omega
  | some v =>
    rw [e] at this
    exact congrArg some this
end Kd
set_option Elab.async false
set_option linter.all false
set_option maxRecDepth 100000
set_option maxHeartbeats 4000000
namespace Kd
open PySem PySem.Spec PyProof.Rows L2 Kw
def top (i : Nat) : Stmt := PySem.Challenge.pw_kithwhole_k38_came_and_went.main.body.getD i (.Pass ⟨0, 0, 0, 0⟩)
structure Txt (K : PySem.W.Frag) (mg : Str → Option Value) : Prop where
  n_bool : mg "bool" = none
  n_int : mg "int" = none
  n_isinstance : mg "isinstance" = none
  n_len : mg "len" = none
  n_list : mg "list" = none
  n_range : mg "range" = none
  n_str : mg "str" = none
  n_tuple : mg "tuple" = none
section
variable {P : Program} {w : World} {K : PySem.W.Frag} {mg : Str → Option Value} {base : Heap} {f : Addr} {fd : FuncData}
abbrev s_value_key : Stmt := top 1
abbrev N_value_key : List Str := ["value"]
theorem sc_value_key : FnScope N_value_key ["value"] (defScope s_value_key) := ⟨rfl, rfl, rfl, by decide +kernel, rfl, by decide +kernel, by decide +kernel⟩
abbrev m_value_key : MS := (sSeq (sIf (mTst (mOp isNonD (mVar 0) (mC .non))) (sSeq (sRet (mSeq false (mCons (mC (.int 0)) (mCons (mC (.int 0)) mNil))))
  sNext) sNext)
  (sSeq (sIf (mTru (mUn (isiD "bool") (mVar 0))) (sSeq (sRet (mSeq false (mCons (mC (.int 1)) (mCons (mCall intD (mCons (mVar 0) mNil)) mNil))))
  sNext) sNext)
  (sSeq (sIf (mTru (mUn (isiD "int") (mVar 0))) (sSeq (sRet (mSeq false (mCons (mC (.int 2)) (mCons (mVar 0) mNil))))
  sNext) sNext)
  (sSeq (sRet (mSeq false (mCons (mC (.int 3)) (mCons (mVar 0) mNil))))
  sNext))))
def r_value_key : List D → Option D := runP 1 1 m_value_key
theorem ok_value_key (F : Fun K "value_key" "value_key" s_value_key f fd) (T : Txt K mg)  : FnOk P w K mg base CX0 1 f fd ["value"] (spP r_value_key) := ok_P (O' := []) F sc_value_key fun cdv A outer s H E hr => ⟨_, (ssd_cons (sd_if (td_cmp op_isN ro_isN (ed_var (i := 0)) ed_non (nomark _)) (ssd_cons (sd_ret (ed_tup (ad_cons ed_int (ad_cons ed_int ad_nil))))
      ssd_nil) ssd_nil)
      (ssd_cons (sd_if (td_truK (K := K) rfl (ed_isiK (n := "") (K := K) rfl (by rfl) T.n_isinstance (by rfl) T.n_bool (by decide +kernel) (ed_var (i := 0))) (fun _ => rfl)) (ssd_cons (sd_ret (ed_tup (ad_cons ed_int (ad_cons (ed_callTy call_int1 ro_int (by rfl) T.n_int (by decide +kernel) (ad_cons (ed_var (i := 0)) ad_nil)) ad_nil))))
      ssd_nil) ssd_nil)
      (ssd_cons (sd_if (td_truK (K := K) rfl (ed_isiK (n := "") (K := K) rfl (by rfl) T.n_isinstance (by rfl) T.n_int (by decide +kernel) (ed_var (i := 0))) (fun _ => rfl)) (ssd_cons (sd_ret (ed_tup (ad_cons ed_int (ad_cons (ed_var (i := 0)) ad_nil))))
      ssd_nil) ssd_nil)
      (ssd_cons (sd_ret (ed_tup (ad_cons ed_int (ad_cons (ed_var (i := 0)) ad_nil))))
      ssd_nil))))⟩
abbrev s_row_key : Stmt := top 2
abbrev N_row_key : List Str := ["row", "key", "value"]
theorem sc_row_key : FnScope N_row_key ["row"] (defScope s_row_key) := ⟨rfl, rfl, rfl, by decide +kernel, rfl, by decide +kernel, by decide +kernel⟩
abbrev m_row_key : MS := (sSeq (sSetO 1 (mSeq true mNil))
  (sSeq (sFor (iSeq (mVar 0)) (gN 2) (sSeq (sExtO 1 (mCall r_value_key (mCons (mVar 2) mNil)))
  sNext))
  (sSeq (sRet (mCall (seqOfD false) (mCons (mVar 1) mNil)))
  sNext)))
def r_row_key : List D → Option D := runP 3 1 m_row_key
theorem ok_row_key (F : Fun K "row_key" "row_key" s_row_key f fd) (T : Txt K mg) (c_value_key : CalX P w K mg base CX0 1 "value_key" (spP r_value_key)) : FnOk P w K mg base CX0 2 f fd ["row"] (spP r_row_key) := ok_P (O' := []) F sc_row_key fun cdv A outer s H E hr => ⟨_, (ssd_cons (sd_setO (i := 1) sc_row_key.nd rfl (Or.inl rfl) (fd_lst ad_nil))
      (ssd_cons (sd_for PassesOwn.never rfl (id_seqK (K := K) rfl (ed_var (i := 0))) (pg_name (i := 2) sc_row_key.nd rfl (Or.inl rfl)) (rdg_name (i := 2) rfl) (ssd_cons (sd_extO (i := 1) (K := K) rfl (ed_call c_value_key (hr.mono (by omega)) (by rfl) (ad_cons (ed_var (i := 2)) ad_nil)) (hpe := pe_bm PySem.F.plainAttrs_list PySem.F.slot_list_extend PySem.F.type_list_extend mt_extQ (pv 1) (pa_cons (peO [1] (ed_call c_value_key (hr.mono (by omega)) (by rfl) (ad_cons (ed_var (i := 2)) ad_nil))) pa_nil)))
      ssd_nil))
      (ssd_fz 1 rfl (ssd_cons (sd_ret (ed_callTy (call_tuK (K := K) rfl) ro_tuple (by rfl) T.n_tuple (by decide +kernel) (ad_cons (ed_var (i := 1)) ad_nil)))
      ssd_nil))))⟩
abbrev s_came : Stmt := top 4
abbrev N_came : List Str := ["old", "new", "left", "row", "found", "key"]
theorem sc_came : FnScope N_came ["old", "new"] (defScope s_came) := ⟨rfl, rfl, rfl, by decide +kernel, rfl, by decide +kernel, by decide +kernel⟩
abbrev r_came : List D → Option (List D) := cameF r_row_key
abbrev s_went : Stmt := top 5
abbrev N_went : List Str := ["old", "new"]
theorem sc_went : FnScope N_went ["old", "new"] (defScope s_went) := ⟨rfl, rfl, rfl, by decide +kernel, rfl, by decide +kernel, by decide +kernel⟩
abbrev r_went : List D → Option (List D) := wentF r_came
abbrev s_law_next : Stmt := top 7
abbrev N_law_next : List Str := ["state", "limit", "cell", "value"]
theorem sc_law_next : FnScope N_law_next ["state", "limit"] (defScope s_law_next) := ⟨rfl, rfl, rfl, by decide +kernel, rfl, by decide +kernel, by decide +kernel⟩
theorem ok_law_next (F : Fun K "_law_next" "_law_next" s_law_next f fd) (T : Txt K mg)  : FnOk P w K mg base CX0 1 f fd ["state", "limit"] (spS r_law_next) := ok_S (O' := []) F sc_law_next fun cdv A outer s H E hr => ⟨_, (ssd_cons (sd_if (WD.td (wd_and (td_cmp (op_eqA hr.units) ro_eq (ed_ixOK (i := 0) (K := K) rfl ed_int (fun _ _ => rfl)) ed_int (nomark _)) (wd_and1 (td_cmp (op_ltO hr.units) ro_ord (ed_ixOK (i := 0) (K := K) rfl ed_int (fun _ _ => rfl)) (ed_callB (call_lenK (K := K) rfl) ro_len (by rfl) T.n_len (by decide +kernel) (ad_cons (ed_ixOK (i := 0) (K := K) rfl ed_int (fun _ _ => rfl)) ad_nil)) (nomark _))))) (ssd_cons (sd_set (i := 2) sc_law_next.nd rfl (Or.inl rfl) (ed_ixK (K := K) rfl (ed_ixOK (i := 0) (K := K) rfl ed_int (fun _ _ => rfl)) (ed_ixOK (i := 0) (K := K) rfl ed_int (fun _ _ => rfl)) (fun _ _ => rfl)))
      (ssd_cons (sd_augO (i := 0) ed_int ed_int ip_add ro_ipadd)
      (ssd_cons (sd_if (td_cmp (op_geO hr.units) ro_ord (ed_var (i := 2)) (ed_op op_pow ro_pow ed_int ed_int) (nomark _)) (ssd_cons (sd_subO (i := 0) (ed_var (i := 2)) ed_int)
      ssd_nil) (ssd_cons (sd_subO (i := 0) (ed_op op_mod ro_mod (ed_callTy call_int1 ro_int (by rfl) T.n_int (by decide +kernel) (ad_cons (ed_op op_addA ro_add (ed_op op_addA ro_add (ed_op op_mulB ro_mulB (ed_ixOK (i := 0) (K := K) rfl ed_int (fun _ _ => rfl)) ed_int) (ed_op op_mod ro_mod (ed_callTy call_int1 ro_int (by rfl) T.n_int (by decide +kernel) (ad_cons (ed_var (i := 2)) ad_nil)) ed_int)) ed_int) ad_nil)) ed_int) ed_int)
      ssd_nil))
      ssd_nil))) ssd_nil)
      (ssd_cons (sd_if (td_cmp (op_gtO hr.units) ro_ord (ed_ixOK (i := 0) (K := K) rfl ed_int (fun _ _ => rfl)) ed_int (nomark _)) (ssd_cons (sd_set (i := 3) sc_law_next.nd rfl (Or.inl rfl) (ed_op op_mod ro_mod (ed_callTy call_int1 ro_int (by rfl) T.n_int (by decide +kernel) (ad_cons (ed_ixOK (i := 0) (K := K) rfl ed_int (fun _ _ => rfl)) ad_nil)) (ed_var (i := 1))))
      (ssd_cons (sd_subO (i := 0) (ed_op op_fdivA ro_fdiv (ed_ixOK (i := 0) (K := K) rfl ed_int (fun _ _ => rfl)) (ed_var (i := 1))) ed_int)
      (ssd_cons (sd_ret (ed_var (i := 3)))
      ssd_nil))) ssd_nil)
      (ssd_cons (sd_subO (i := 0) (ed_op op_mod ro_mod (ed_callTy call_int1 ro_int (by rfl) T.n_int (by decide +kernel) (ad_cons (ed_op op_addA ro_add (ed_op op_mulB ro_mulB (ed_ixOK (i := 0) (K := K) rfl ed_int (fun _ _ => rfl)) ed_int) ed_int) ad_nil)) ed_int) ed_int)
      (ssd_cons (sd_ret (ed_op op_mod ro_mod (ed_callTy call_int1 ro_int (by rfl) T.n_int (by decide +kernel) (ad_cons (ed_op op_fdivA ro_fdiv (ed_ixOK (i := 0) (K := K) rfl ed_int (fun _ _ => rfl)) ed_int) ad_nil)) (ed_var (i := 1))))
      ssd_nil))))⟩
abbrev s_law_same : Stmt := top 8
abbrev N_law_same : List Str := ["actual", "expected", "k"]
theorem sc_law_same : FnScope N_law_same ["actual", "expected"] (defScope s_law_same) := ⟨rfl, rfl, rfl, by decide +kernel, rfl, by decide +kernel, by decide +kernel⟩
theorem ok_law_same (F : Fn K mg "_law_same" s_law_same ["actual", "expected"] f fd) (T : Txt K mg)  : ∀ n : Nat, CalX P w K mg base CX0 (n + 1) "_law_same" (spP (r_law_same n))
  | 0 => F.cal ⟨fun vs H Q E h => (by obtain ⟨_, _, d, _, _, e, _⟩ := h; cases (show none = some d from e)), fun _ _ _ _ _ _ _ _ _ _ _ _ _ h => (by obtain ⟨_, _, d, _, _, e, _⟩ := h; cases (show none = some d from e))⟩
  | n + 1 => by
    have c_law_same := ok_law_same F T  n
    have q : FnOk P w K mg base CX0 (n + 1 + 1) f fd ["actual", "expected"] (spP (r_law_same (n + 1))) := ok_P (O' := []) F.fn sc_law_same fun cdv A outer s H E hr => ⟨_, (ssd_cons (sd_if (td_cmp op_isN ro_isN (ed_var (i := 1)) ed_non (nomark _)) (ssd_cons (sd_ret (ed_cmp op_isN ro_isN (ed_var (i := 0)) ed_non (nomark _)))
      ssd_nil) ssd_nil)
      (ssd_cons (sd_if (td_truK (K := K) rfl (ed_isiK (n := "") (K := K) rfl (by rfl) T.n_isinstance (by rfl) T.n_bool (by decide +kernel) (ed_var (i := 1))) (fun _ => rfl)) (ssd_cons (sd_ret (ed_and (ed_isiK (n := "") (K := K) rfl (by rfl) T.n_isinstance (by rfl) T.n_bool (by decide +kernel) (ed_var (i := 0))) (ed_one (ed_cmp (op_eqA hr.units) ro_eq (ed_var (i := 0)) (ed_var (i := 1)) (nomark _)))))
      ssd_nil) ssd_nil)
      (ssd_cons (sd_if (td_truK (K := K) rfl (ed_isiK (n := "") (K := K) rfl (by rfl) T.n_isinstance (by rfl) T.n_int (by decide +kernel) (ed_var (i := 1))) (fun _ => rfl)) (ssd_cons (sd_ret (ed_and (ed_isiK (n := "") (K := K) rfl (by rfl) T.n_isinstance (by rfl) T.n_int (by decide +kernel) (ed_var (i := 0))) (ed_and (ed_not (ed_isiK (n := "") (K := K) rfl (by rfl) T.n_isinstance (by rfl) T.n_bool (by decide +kernel) (ed_var (i := 0)))) (ed_one (ed_cmp (op_eqA hr.units) ro_eq (ed_var (i := 0)) (ed_var (i := 1)) (nomark _))))))
      ssd_nil) ssd_nil)
      (ssd_cons (sd_if (td_truK (K := K) rfl (ed_isiK (n := "") (K := K) rfl (by rfl) T.n_isinstance (by rfl) T.n_str (by decide +kernel) (ed_var (i := 1))) (fun _ => rfl)) (ssd_cons (sd_ret (ed_and (ed_isiK (n := "") (K := K) rfl (by rfl) T.n_isinstance (by rfl) T.n_str (by decide +kernel) (ed_var (i := 0))) (ed_one (ed_cmp (op_eqA hr.units) ro_eq (ed_var (i := 0)) (ed_var (i := 1)) (nomark _)))))
      ssd_nil) ssd_nil)
      (ssd_cons (sd_if (WD.td (wd_and (td_truK (K := K) rfl (ed_isiK (n := "") (K := K) rfl (by rfl) T.n_isinstance (by rfl) T.n_tuple (by decide +kernel) (ed_var (i := 1))) (fun _ => rfl)) (wd_and1 (td_not (td_truK (K := K) rfl (ed_isiK (n := "") (K := K) rfl (by rfl) T.n_isinstance (by rfl) T.n_tuple (by decide +kernel) (ed_var (i := 0))) (fun _ => rfl)))))) (ssd_cons (sd_ret ed_bl)
      ssd_nil) ssd_nil)
      (ssd_cons (sd_if (WD.td (wd_and (td_truK (K := K) rfl (ed_isiK (n := "") (K := K) rfl (by rfl) T.n_isinstance (by rfl) T.n_list (by decide +kernel) (ed_var (i := 1))) (fun _ => rfl)) (wd_and1 (td_not (td_truK (K := K) rfl (ed_isiK (n := "") (K := K) rfl (by rfl) T.n_isinstance (by rfl) T.n_list (by decide +kernel) (ed_var (i := 0))) (fun _ => rfl)))))) (ssd_cons (sd_ret ed_bl)
      ssd_nil) ssd_nil)
      (ssd_cons (sd_if (td_cmp (op_neA hr.units) ro_eq (ed_callB (call_lenK (K := K) rfl) ro_len (by rfl) T.n_len (by decide +kernel) (ad_cons (ed_var (i := 0)) ad_nil)) (ed_callB (call_lenK (K := K) rfl) ro_len (by rfl) T.n_len (by decide +kernel) (ad_cons (ed_var (i := 1)) ad_nil)) (nomark _)) (ssd_cons (sd_ret ed_bl)
      ssd_nil) ssd_nil)
      (ssd_cons (sd_for PassesOwn.never rfl (id_rng1 (by rfl) T.n_range (ad_cons (ed_callB (call_lenK (K := K) rfl) ro_len (by rfl) T.n_len (by decide +kernel) (ad_cons (ed_var (i := 1)) ad_nil)) ad_nil)) (pg_name (i := 2) sc_law_same.nd rfl (Or.inl rfl)) (rdg_name (i := 2) rfl) (ssd_cons (sd_if (td_not (td_truK (K := K) rfl (ed_call c_law_same (hr.mono (by omega)) (by rfl) (ad_cons (ed_ixK (K := K) rfl (ed_var (i := 0)) (ed_var (i := 2)) (fun _ _ => rfl)) (ad_cons (ed_ixK (K := K) rfl (ed_var (i := 1)) (ed_var (i := 2)) (fun _ _ => rfl)) ad_nil))) (fun _ => rfl))) (ssd_cons (sd_ret ed_bl)
      ssd_nil) ssd_nil)
      ssd_nil))
      (ssd_cons (sd_ret ed_bl)
      ssd_nil)))))))))⟩
    exact F.cal (q.mono (by omega))
abbrev s_law_char : Stmt := top 9
abbrev N_law_char : List Str := ["index", "chars"]
theorem sc_law_char : FnScope N_law_char ["index"] (defScope s_law_char) := ⟨rfl, rfl, rfl, by decide +kernel, rfl, by decide +kernel, by decide +kernel⟩
theorem ok_law_char (F : Fun K "_law_char" "_law_char" s_law_char f fd) (T : Txt K mg)  : FnOk P w K mg base CX0 1 f fd ["index"] (spP r_law_char) := ok_P (O' := []) F sc_law_char fun cdv A outer s H E hr => ⟨_, (ssd_cons (sd_set (i := 1) sc_law_char.nd rfl (Or.inl rfl) ed_str)
      (ssd_cons (sd_set (i := 1) sc_law_char.nd rfl (Or.inl rfl) (ed_op op_addA ro_add (ed_var (i := 1)) ed_str))
      (ssd_cons (sd_ret (ed_ixK (K := K) rfl (ed_var (i := 1)) (ed_op op_mod ro_mod (ed_callTy call_int1 ro_int (by rfl) T.n_int (by decide +kernel) (ad_cons (ed_var (i := 0)) ad_nil)) ed_int) (fun _ _ => rfl)))
      ssd_nil)))⟩
abbrev s_law_value : Stmt := top 10
abbrev N_law_value : List Str := ["state", "kind", "text"]
theorem sc_law_value : FnScope N_law_value ["state", "kind"] (defScope s_law_value) := ⟨rfl, rfl, rfl, by decide +kernel, rfl, by decide +kernel, by decide +kernel⟩
abbrev m_law_value : MS := (sSeq (sIf (mTst (mOp (eqO false) (mCallS 0 r_law_next (mCons (mC (.int 5)) mNil)) (mC (.int 0)))) (sSeq (sRet (mC .non))
  sNext) sNext)
  (sSeq (sIf (mTst (mOp (eqO false) (mVar 1) (mC (.str "boolean")))) (sSeq (sRet (mOp (eqO false) (mCallS 0 r_law_next (mCons (mC (.int 2)) mNil)) (mC (.int 1))))
  sNext) sNext)
  (sSeq (sIf (mTst (mOp (eqO false) (mVar 1) (mC (.str "integer")))) (sSeq (sRet (mOp mulB (mCallS 0 r_law_next (mCons (mOp atD (mSeq true (mCons (mC (.int 4)) (mCons (mC (.int 4)) (mCons (mC (.int 4)) (mCons (mOp powD (mC (.int 10)) (mC (.int 40))) mNil))))) (mCallS 0 r_law_next (mCons (mC (.int 4)) mNil))) mNil)) (mOp subD (mC (.int 1)) (mOp mulB (mC (.int 2)) (mCallS 0 r_law_next (mCons (mC (.int 2)) mNil))))))
  sNext) sNext)
  (sSeq (sSet 2 (mOp atD (mSeq true (mCons (mC (.str "")) (mCons (mC (.str "a")) (mCons (mC (.str "b")) (mCons (mC (.str "ab")) (mCons (mC (.str "B")) (mCons (mC (.str "None")) (mCons (mC (.str "True")) (mCons (mC (.str "1")) (mCons (mC (.str "-3")) mNil)))))))))) (mCallS 0 r_law_next (mCons (mC (.int 9)) mNil))))
  (sSeq (sIf (mTst (mOp (eqO false) (mCallS 0 r_law_next (mCons (mC (.int 5)) mNil)) (mC (.int 0)))) (sSeq (sSet 2 (mOp addD (mVar 2) (mCall r_law_char (mCons (mCallS 0 r_law_next (mCons (mC (.int 95)) mNil)) mNil))))
  sNext) sNext)
  (sSeq (sRet (mVar 2))
  sNext))))))
def r_law_value : List D → Option (D × D) := runS 3 2 m_law_value
theorem ok_law_value (F : Fun K "_law_value" "_law_value" s_law_value f fd) (T : Txt K mg) (c_law_next : CalX P w K mg base CX0 1 "_law_next" (spS r_law_next)) (c_law_char : CalX P w K mg base CX0 1 "_law_char" (spP r_law_char)) : FnOk P w K mg base CX0 2 f fd ["state", "kind"] (spS r_law_value) := ok_S (O' := []) F sc_law_value fun cdv A outer s H E hr => ⟨_, (ssd_cons (sd_if (td_cmp (op_eqA hr.units) ro_eq (ed_callS (i := 0) c_law_next (hr.mono (by omega)) (by rfl) (ad_cons ed_int ad_nil)) ed_int (nomark _)) (ssd_cons (sd_ret ed_non)
      ssd_nil) ssd_nil)
      (ssd_cons (sd_if (td_cmp (op_eqA hr.units) ro_eq (ed_var (i := 1)) ed_str (nomark _)) (ssd_cons (sd_ret (ed_cmp (op_eqA hr.units) ro_eq (ed_callS (i := 0) c_law_next (hr.mono (by omega)) (by rfl) (ad_cons ed_int ad_nil)) ed_int (nomark _)))
      ssd_nil) ssd_nil)
      (ssd_cons (sd_if (td_cmp (op_eqA hr.units) ro_eq (ed_var (i := 1)) ed_str (nomark _)) (ssd_cons (sd_ret (ed_op op_mulB ro_mulB (ed_callS (i := 0) c_law_next (hr.mono (by omega)) (by rfl) (ad_cons (ed_ixK (K := K) rfl (ed_lst (ad_cons ed_int (ad_cons ed_int (ad_cons ed_int (ad_cons (ed_op op_pow ro_pow ed_int ed_int) ad_nil))))) (ed_callS (i := 0) c_law_next (hr.mono (by omega)) (by rfl) (ad_cons ed_int ad_nil)) (fun _ _ => rfl)) ad_nil)) (ed_op op_sub ro_sub ed_int (ed_op op_mulB ro_mulB ed_int (ed_callS (i := 0) c_law_next (hr.mono (by omega)) (by rfl) (ad_cons ed_int ad_nil))))))
      ssd_nil) ssd_nil)
      (ssd_cons (sd_set (i := 2) sc_law_value.nd rfl (Or.inl rfl) (ed_ixK (K := K) rfl (ed_lst (ad_cons ed_str (ad_cons ed_str (ad_cons ed_str (ad_cons ed_str (ad_cons ed_str (ad_cons ed_str (ad_cons ed_str (ad_cons ed_str (ad_cons ed_str ad_nil)))))))))) (ed_callS (i := 0) c_law_next (hr.mono (by omega)) (by rfl) (ad_cons ed_int ad_nil)) (fun _ _ => rfl)))
      (ssd_cons (sd_if (td_cmp (op_eqA hr.units) ro_eq (ed_callS (i := 0) c_law_next (hr.mono (by omega)) (by rfl) (ad_cons ed_int ad_nil)) ed_int (nomark _)) (ssd_cons (sd_set (i := 2) sc_law_value.nd rfl (Or.inl rfl) (ed_op op_addA ro_add (ed_var (i := 2)) (ed_call c_law_char (hr.mono (by omega)) (by rfl) (ad_cons (ed_callS (i := 0) c_law_next (hr.mono (by omega)) (by rfl) (ad_cons ed_int ad_nil)) ad_nil))))
      ssd_nil) ssd_nil)
      (ssd_cons (sd_ret (ed_var (i := 2)))
      ssd_nil))))))⟩
abbrev s_law_drawn_row : Stmt := top 11
abbrev N_law_drawn_row : List Str := ["state", "width", "k"]
theorem sc_law_drawn_row : FnScope N_law_drawn_row ["state", "width"] (defScope s_law_drawn_row) := ⟨rfl, rfl, rfl, by decide +kernel, rfl, by decide +kernel, by decide +kernel⟩
abbrev m_law_drawn_row : MS := (sSeq (sRet (mCall (seqOfD false) (mCons (mLc (iRg1 (mCons (mVar 1) mNil)) [2] (gN 2) mYes (mCallS 0 r_law_value (mCons (mOp atD (mSeq true (mCons (mC (.str "integer")) (mCons (mC (.str "text")) (mCons (mC (.str "boolean")) mNil)))) (mCallS 0 r_law_next (mCons (mC (.int 3)) mNil))) mNil))) mNil)))
  sNext)
def r_law_drawn_row : List D → Option (D × D) := runS 3 2 m_law_drawn_row
theorem ok_law_drawn_row (F : Fun K "_law_drawn_row" "_law_drawn_row" s_law_drawn_row f fd) (T : Txt K mg) (c_law_value : CalX P w K mg base CX0 2 "_law_value" (spS r_law_value)) (c_law_next : CalX P w K mg base CX0 1 "_law_next" (spS r_law_next)) : FnOk P w K mg base CX0 3 f fd ["state", "width"] (spS r_law_drawn_row) := ok_S (O' := []) F sc_law_drawn_row fun cdv A outer s H E hr => ⟨_, (ssd_cons (sd_ret (ed_callTy (call_tuK (K := K) rfl) ro_tuple (by rfl) T.n_tuple (by decide +kernel) (ad_cons (FD.ed (fd_lc (own := [("k", 2)]) (g := gName 2) rfl sc_law_drawn_row.nd (id_rng1 (by rfl) T.n_range (ad_cons (ed_var (i := 1)) ad_nil)) (blkOk_by (own := [("k", 2)]) (N := N_law_drawn_row) (sc := defScope s_law_drawn_row) (by decide +kernel)) (fun _ _ _ _ _ => (pg_name (i := 2) sc_law_drawn_row.nd rfl (Or.inl rfl))) (rdg_name (i := 2) rfl) tl_nil (fun _ _ _ _ _ => (ed_callS (i := 0) c_law_value (hr.mono (by omega)) (by rfl) (ad_cons (ed_ixK (K := K) rfl (ed_lst (ad_cons ed_str (ad_cons ed_str (ad_cons ed_str ad_nil)))) (ed_callS (i := 0) c_law_next (hr.mono (by omega)) (by rfl) (ad_cons ed_int ad_nil)) (fun _ _ => rfl)) ad_nil))))) ad_nil)))
      ssd_nil)⟩
abbrev s_law_count : Stmt := top 12
abbrev N_law_count : List Str := ["row", "rows", "other"]
theorem sc_law_count : FnScope N_law_count ["row", "rows"] (defScope s_law_count) := ⟨rfl, rfl, rfl, by decide +kernel, rfl, by decide +kernel, by decide +kernel⟩
abbrev m_law_count : MS := (sSeq (sRet (mCall lenD (mCons (mLc (iSeq (mVar 1)) [2] (gN 2) (mTru (mCall (r_law_same 4) (mCons (mVar 2) (mCons (mVar 0) mNil)))) (mVar 2)) mNil)))
  sNext)
def r_law_count : List D → Option D := runP 3 2 m_law_count
theorem ok_law_count (F : Fun K "_law_count" "_law_count" s_law_count f fd) (T : Txt K mg) (c_law_same : CalX P w K mg base CX0 5 "_law_same" (spP (r_law_same 4))) : FnOk P w K mg base CX0 6 f fd ["row", "rows"] (spP r_law_count) := ok_P (O' := []) F sc_law_count fun cdv A outer s H E hr => ⟨_, (ssd_cons (sd_ret (ed_callB (call_lenK (K := K) rfl) ro_len (by rfl) T.n_len (by decide +kernel) (ad_cons (FD.ed (fd_lc (own := [("other", 2)]) (g := gName 2) rfl sc_law_count.nd (id_seqK (K := K) rfl (ed_var (i := 1))) (blkOk_by (own := [("other", 2)]) (N := N_law_count) (sc := defScope s_law_count) (by decide +kernel)) (fun _ _ _ _ _ => (pg_name (i := 2) sc_law_count.nd rfl (Or.inl rfl))) (rdg_name (i := 2) rfl) (tl_one fun _ _ _ _ _ => (td_truK (K := K) rfl (ed_call c_law_same (hr.mono (by omega)) (by rfl) (ad_cons (ed_var (i := 2)) (ad_cons (ed_var (i := 0)) ad_nil))) (fun _ => rfl))) (fun _ _ _ _ _ => (ed_var (i := 2))))) ad_nil)))
      ssd_nil)⟩
abbrev s_law_more : Stmt := top 13
abbrev N_law_more : List Str := ["old", "new", "found", "k"]
theorem sc_law_more : FnScope N_law_more ["old", "new"] (defScope s_law_more) := ⟨rfl, rfl, rfl, by decide +kernel, rfl, by decide +kernel, by decide +kernel⟩
abbrev m_law_more : MS := (sSeq (sSetO 2 (mSeq true mNil))
  (sSeq (sFor (iRg1 (mCons (mCall lenD (mCons (mVar 1) mNil)) mNil)) (gN 3) (sSeq (sIf (mTst (mOp (ordO geO) (mCall r_law_count (mCons (mOp atD (mVar 1) (mVar 3)) (mCons (mSl (mVar 1) mNoP (mPart (mVar 3))) mNil))) (mCall r_law_count (mCons (mOp atD (mVar 1) (mVar 3)) (mCons (mVar 0) mNil))))) (sSeq (sAppO 2 (mOp atD (mVar 1) (mVar 3)))
  sNext) sNext)
  sNext))
  (sSeq (sRet (mVar 2))
  sNext)))
def r_law_more : List D → Option D := runP 4 2 m_law_more
theorem ok_law_more (F : Fun K "_law_more" "_law_more" s_law_more f fd) (T : Txt K mg) (c_law_count : CalX P w K mg base CX0 6 "_law_count" (spP r_law_count)) : FnOk P w K mg base CX0 7 f fd ["old", "new"] (spP r_law_more) := ok_P (O' := []) F sc_law_more fun cdv A outer s H E hr => ⟨_, (ssd_cons (sd_setO (i := 2) sc_law_more.nd rfl (Or.inl rfl) (fd_lst ad_nil))
      (ssd_cons (sd_for PassesOwn.never rfl (id_rng1 (by rfl) T.n_range (ad_cons (ed_callB (call_lenK (K := K) rfl) ro_len (by rfl) T.n_len (by decide +kernel) (ad_cons (ed_var (i := 1)) ad_nil)) ad_nil)) (pg_name (i := 3) sc_law_more.nd rfl (Or.inl rfl)) (rdg_name (i := 3) rfl) (ssd_cons (sd_if (td_cmp (op_geO hr.units) ro_ord (ed_call c_law_count (hr.mono (by omega)) (by rfl) (ad_cons (ed_ixK (K := K) rfl (ed_var (i := 1)) (ed_var (i := 3)) (fun _ _ => rfl)) (ad_cons (ed_slK (K := K) rfl (ed_var (i := 1)) od_none (od_some (ed_var (i := 3)))) ad_nil))) (ed_call c_law_count (hr.mono (by omega)) (by rfl) (ad_cons (ed_ixK (K := K) rfl (ed_var (i := 1)) (ed_var (i := 3)) (fun _ _ => rfl)) (ad_cons (ed_var (i := 0)) ad_nil))) (nomark _)) (ssd_cons (sd_appO (i := 2) (K := K) rfl (ed_ixK (K := K) rfl (ed_var (i := 1)) (ed_var (i := 3)) (fun _ _ => rfl)) (hpe := pe_bm PySem.F.plainAttrs_list PySem.F.slot_list_append PySem.F.type_list_append mt_append (pv 2) (pa_cons (peO [2] (ed_ixK (K := K) rfl (ed_var (i := 1)) (ed_var (i := 3)) (fun _ _ => rfl))) pa_nil)))
      ssd_nil) ssd_nil)
      ssd_nil))
      (ssd_fz 2 rfl (ssd_cons (sd_ret (ed_var (i := 2)))
      ssd_nil))))⟩
abbrev s_law_turned : Stmt := top 14
abbrev N_law_turned : List Str := ["state", "old", "new", "row", "k"]
theorem sc_law_turned : FnScope N_law_turned ["state", "old"] (defScope s_law_turned) := ⟨rfl, rfl, rfl, by decide +kernel, rfl, by decide +kernel, by decide +kernel⟩
abbrev m_law_turned : MS := (sSeq (sSetO 2 (mSeq true mNil))
  (sSeq (sFor (iSeq (mVar 1)) (gN 3) (sSeq (sFor (iRg1 (mCons (mOp atD (mSeq true (mCons (mC (.int 1)) (mCons (mC (.int 1)) (mCons (mC (.int 2)) (mCons (mC (.int 0)) mNil))))) (mCallS 0 r_law_next (mCons (mC (.int 4)) mNil))) mNil)) (gN 4) (sSeq (sInsO 2 (mCallS 0 r_law_next (mCons (mOp addD (mLenO 2) (mC (.int 1))) mNil)) (mVar 3))
  sNext))
  sNext))
  (sSeq (sRet (mVar 2))
  sNext)))
def r_law_turned : List D → Option (D × D) := runS 5 2 m_law_turned
theorem ok_law_turned (F : Fun K "_law_turned" "_law_turned" s_law_turned f fd) (T : Txt K mg) (c_law_next : CalX P w K mg base CX0 1 "_law_next" (spS r_law_next)) : FnOk P w K mg base CX0 2 f fd ["state", "old"] (spS r_law_turned) := ok_S (O' := []) F sc_law_turned fun cdv A outer s H E hr => ⟨_, (ssd_cons (sd_setO (i := 2) sc_law_turned.nd rfl (Or.inl rfl) (fd_lst ad_nil))
      (ssd_cons (sd_for PassesOwn.never rfl (id_seqK (K := K) rfl (ed_var (i := 1))) (pg_name (i := 3) sc_law_turned.nd rfl (Or.inl rfl)) (rdg_name (i := 3) rfl) (ssd_cons (sd_for PassesOwn.never rfl (id_rng1 (by rfl) T.n_range (ad_cons (ed_ixK (K := K) rfl (ed_lst (ad_cons ed_int (ad_cons ed_int (ad_cons ed_int (ad_cons ed_int ad_nil))))) (ed_callS (i := 0) c_law_next (hr.mono (by omega)) (by rfl) (ad_cons ed_int ad_nil)) (fun _ _ => rfl)) ad_nil)) (pg_name (i := 4) sc_law_turned.nd rfl (Or.inl rfl)) (rdg_name (i := 4) rfl) (ssd_cons (sd_insO (i := 2) (K := K) rfl (ed_callS (i := 0) c_law_next (hr.mono (by omega)) (by rfl) (ad_cons (ed_op op_addA ro_add (ed_lenOK (i := 2) (K := K) rfl (by rfl) T.n_len) ed_int) ad_nil)) (ed_var (i := 3)) (hpe := pe_bm PySem.F.plainAttrs_list PySem.F.slot_list_insert PySem.F.type_list_insert mt_ins (pv 2) (pa_cons (peO [2, 0] (ed_callS (i := 0) c_law_next (hr.mono (by omega)) (by rfl) (ad_cons (ed_op op_addA ro_add (ed_lenOK (i := 2) (K := K) rfl (by rfl) T.n_len) ed_int) ad_nil))) (pa_cons (peO [2, 0] (ed_var (i := 3))) pa_nil))))
      ssd_nil))
      ssd_nil))
      (ssd_fz 2 rfl (ssd_cons (sd_ret (ed_var (i := 2)))
      ssd_nil))))⟩
abbrev s_law_balanced : Stmt := top 15
abbrev N_law_balanced : List Str := ["old", "new", "more", "fewer", "row"]
theorem sc_law_balanced : FnScope N_law_balanced ["old", "new", "more", "fewer"] (defScope s_law_balanced) := ⟨rfl, rfl, rfl, by decide +kernel, rfl, by decide +kernel, by decide +kernel⟩
abbrev m_law_balanced : MS := (sSeq (sFor (iSeq (mOp addD (mVar 0) (mVar 1))) (gN 4) (sSeq (sIf (mTst (mOp (eqO true) (mOp addD (mCall r_law_count (mCons (mVar 4) (mCons (mVar 0) mNil))) (mCall r_law_count (mCons (mVar 4) (mCons (mVar 2) mNil)))) (mOp addD (mCall r_law_count (mCons (mVar 4) (mCons (mVar 1) mNil))) (mCall r_law_count (mCons (mVar 4) (mCons (mVar 3) mNil)))))) (sSeq (sRet (mC (.bl false)))
  sNext) sNext)
  (sSeq (sIf (mAndT (mTst (mOp (ordO gtO) (mCall r_law_count (mCons (mVar 4) (mCons (mVar 2) mNil))) (mC (.int 0)))) (mTst (mOp (ordO gtO) (mCall r_law_count (mCons (mVar 4) (mCons (mVar 3) mNil))) (mC (.int 0))))) (sSeq (sRet (mC (.bl false)))
  sNext) sNext)
  sNext)))
  (sSeq (sRet (mC (.bl true)))
  sNext))
def r_law_balanced : List D → Option D := runP 5 4 m_law_balanced
theorem ok_law_balanced (F : Fun K "_law_balanced" "_law_balanced" s_law_balanced f fd) (T : Txt K mg) (c_law_count : CalX P w K mg base CX0 6 "_law_count" (spP r_law_count)) : FnOk P w K mg base CX0 7 f fd ["old", "new", "more", "fewer"] (spP r_law_balanced) := ok_P (O' := []) F sc_law_balanced fun cdv A outer s H E hr => ⟨_, (ssd_cons (sd_for PassesOwn.never rfl (id_seqK (K := K) rfl (ed_op op_addA ro_add (ed_var (i := 0)) (ed_var (i := 1)))) (pg_name (i := 4) sc_law_balanced.nd rfl (Or.inl rfl)) (rdg_name (i := 4) rfl) (ssd_cons (sd_if (td_cmp (op_neA hr.units) ro_eq (ed_op op_addA ro_add (ed_call c_law_count (hr.mono (by omega)) (by rfl) (ad_cons (ed_var (i := 4)) (ad_cons (ed_var (i := 0)) ad_nil))) (ed_call c_law_count (hr.mono (by omega)) (by rfl) (ad_cons (ed_var (i := 4)) (ad_cons (ed_var (i := 2)) ad_nil)))) (ed_op op_addA ro_add (ed_call c_law_count (hr.mono (by omega)) (by rfl) (ad_cons (ed_var (i := 4)) (ad_cons (ed_var (i := 1)) ad_nil))) (ed_call c_law_count (hr.mono (by omega)) (by rfl) (ad_cons (ed_var (i := 4)) (ad_cons (ed_var (i := 3)) ad_nil)))) (nomark _)) (ssd_cons (sd_ret ed_bl)
      ssd_nil) ssd_nil)
      (ssd_cons (sd_if (WD.td (wd_and (td_cmp (op_gtO hr.units) ro_ord (ed_call c_law_count (hr.mono (by omega)) (by rfl) (ad_cons (ed_var (i := 4)) (ad_cons (ed_var (i := 2)) ad_nil))) ed_int (nomark _)) (wd_and1 (td_cmp (op_gtO hr.units) ro_ord (ed_call c_law_count (hr.mono (by omega)) (by rfl) (ad_cons (ed_var (i := 4)) (ad_cons (ed_var (i := 3)) ad_nil))) ed_int (nomark _))))) (ssd_cons (sd_ret ed_bl)
      ssd_nil) ssd_nil)
      ssd_nil)))
      (ssd_cons (sd_ret ed_bl)
      ssd_nil))⟩
abbrev s_law : Stmt := top 16
abbrev N_law : List Str := ["script", "state", "width", "old", "new", "passed", "more", "fewer", "k"]
theorem sc_law : FnScope N_law ["script"] (defScope s_law) := ⟨rfl, rfl, rfl, by decide +kernel, rfl, by decide +kernel, by decide +kernel⟩
abbrev m_law : MS := (sSeq (sSet 2 (mCallS 1 r_law_next (mCons (mC (.int 4)) mNil)))
  (sSeq (sSet 3 (mLc (iRg1 (mCons (mCallS 1 r_law_next (mCons (mC (.int 10)) mNil)) mNil)) [8] (gN 8) mYes (mCallS 1 r_law_drawn_row (mCons (mVar 2) mNil))))
  (sSeq (sSet 4 (mLc (iRg1 (mCons (mCallS 1 r_law_next (mCons (mC (.int 10)) mNil)) mNil)) [8] (gN 8) mYes (mCallS 1 r_law_drawn_row (mCons (mVar 2) mNil))))
  (sSeq (sIf (mTst (mOp (eqO false) (mCallS 1 r_law_next (mCons (mC (.int 2)) mNil)) (mC (.int 1)))) (sSeq (sSet 4 (mOp addD (mCallS 1 r_law_turned (mCons (mVar 3) mNil)) (mSl (mVar 4) mNoP (mPart (mC (.int 2))))))
  sNext) sNext)
  (sSeq (sSet 5 (mSeq true (mCons (mCall (seqOfD true) (mCons (mVar 3) mNil)) (mCons (mCall (seqOfD true) (mCons (mVar 4) mNil)) mNil))))
  (sSeq (sSetO 6 (mCallF r_came (mCons (mOp atD (mVar 5) (mC (.int 0))) (mCons (mOp atD (mVar 5) (mC (.int 1))) mNil))))
  (sSeq (sSetO 7 (mCallF r_went (mCons (mOp atD (mVar 5) (mC (.int 0))) (mCons (mOp atD (mVar 5) (mC (.int 1))) mNil))))
  (sSeq (sIf (mOrT (mNotT (mTru (mBor (mCall (r_law_same 4) (mCons (mVar 6) (mCons (mCall r_law_more (mCons (mVar 3) (mCons (mVar 4) mNil))) mNil)))))) (mNotT (mTru (mBor (mCall (r_law_same 4) (mCons (mVar 7) (mCons (mCall r_law_more (mCons (mVar 4) (mCons (mVar 3) mNil))) mNil))))))) (sSeq (sRet (mC (.bl false)))
  sNext) sNext)
  (sSeq (sIf (mNotT (mTru (mBor (mCall r_law_balanced (mCons (mVar 3) (mCons (mVar 4) (mCons (mVar 6) (mCons (mVar 7) mNil)))))))) (sSeq (sRet (mC (.bl false)))
  sNext) sNext)
  (sSeq (sAppO 6 (mSeq false (mCons (mC (.str "spoilt")) mNil)))
  (sSeq (sAppO 7 (mSeq false (mCons (mC (.str "spoilt")) mNil)))
  (sSeq (sIf (mNotT (mTru (mCall (r_law_same 4) (mCons (mVar 5) (mCons (mSeq true (mCons (mVar 3) (mCons (mVar 4) mNil))) mNil))))) (sSeq (sRet (mC (.bl false)))
  sNext) sNext)
  (sSeq (sRet (mAnd (mCall (r_law_same 4) (mCons (mCallF r_came (mCons (mOp atD (mVar 5) (mC (.int 0))) (mCons (mOp atD (mVar 5) (mC (.int 1))) mNil))) (mCons (mCall r_law_more (mCons (mVar 3) (mCons (mVar 4) mNil))) mNil))) (mCall (r_law_same 4) (mCons (mCallF r_went (mCons (mVar 3) (mCons (mVar 4) mNil))) (mCons (mCall r_law_more (mCons (mVar 4) (mCons (mVar 3) mNil))) mNil)))))
  sNext)))))))))))))
theorem ok_law (F : Fun K "law" "law" s_law f fd) (T : Txt K mg) (c_law_next : CalX P w K mg base CX0 1 "_law_next" (spS r_law_next)) (c_law_drawn_row : CalX P w K mg base CX0 3 "_law_drawn_row" (spS r_law_drawn_row)) (c_law_turned : CalX P w K mg base CX0 2 "_law_turned" (spS r_law_turned)) (c_came : CalX P w K mg base CX0 3 "came" (spF r_came)) (c_went : CalX P w K mg base CX0 4 "went" (spF r_went)) (c_law_same : CalX P w K mg base CX0 5 "_law_same" (spP (r_law_same 4))) (c_law_more : CalX P w K mg base CX0 7 "_law_more" (spP r_law_more)) (c_law_balanced : CalX P w K mg base CX0 7 "_law_balanced" (spP r_law_balanced)) (hm : ∀ ns : List Int, ns.length ≤ 63 → ∃ δ, m_law (envL 9 1 ns) = some (.rt (.bl true) δ)) : FnOk P w K mg base CX0 8 f fd ["script"] (sp_law K) := ok_law0 (O' := []) (i := 1) F sc_law rfl (by decide) (by decide) (fun cdv A outer s H E hr => ⟨(ps_set (i := 1) sc_law.nd rfl (Or.inr rfl) (pe_lst (pa_cons (pe_callTy (call_liK (K := K) rfl) (by rfl) T.n_list (by decide +kernel) (pa_cons (pv 0) pa_nil)) (pa_cons pe_int (pa_cons pe_int (pa_cons pe_int pa_nil)))))), _, (ssd_cons (sd_set (i := 2) sc_law.nd rfl (Or.inr rfl) (ed_callS (i := 1) c_law_next (hr.mono (by omega)) (by rfl) (ad_cons ed_int ad_nil)))
      (ssd_cons (sd_setLc (i := 3) (ps_setLcF (i := 3) (own := [("k", 8)]) (g := gName 8) rfl sc_law.nd rfl rfl (sw_true rfl rfl rfl (by decide +kernel)) (id_rng1 (by rfl) T.n_range (ad_cons (ed_callS (i := 1) c_law_next (hr.mono (by omega)) (by rfl) (ad_cons ed_int ad_nil)) ad_nil)) (blkOk_by (own := [("k", 8)]) (N := N_law) (sc := defScope s_law) (by decide +kernel)) (fun _ _ _ _ _ => (pg_name (i := 8) sc_law.nd rfl (Or.inl rfl))) (rdg_name (i := 8) rfl) tl_nil (fun _ _ _ _ _ => (ed_callS (i := 1) c_law_drawn_row (hr.mono (by omega)) (by rfl) (ad_cons (ed_var (i := 2)) ad_nil)))))
      (ssd_cons (sd_setLc (i := 4) (ps_setLcF (i := 4) (own := [("k", 8)]) (g := gName 8) rfl sc_law.nd rfl rfl (sw_true rfl rfl rfl (by decide +kernel)) (id_rng1 (by rfl) T.n_range (ad_cons (ed_callS (i := 1) c_law_next (hr.mono (by omega)) (by rfl) (ad_cons ed_int ad_nil)) ad_nil)) (blkOk_by (own := [("k", 8)]) (N := N_law) (sc := defScope s_law) (by decide +kernel)) (fun _ _ _ _ _ => (pg_name (i := 8) sc_law.nd rfl (Or.inl rfl))) (rdg_name (i := 8) rfl) tl_nil (fun _ _ _ _ _ => (ed_callS (i := 1) c_law_drawn_row (hr.mono (by omega)) (by rfl) (ad_cons (ed_var (i := 2)) ad_nil)))))
      (ssd_cons (sd_if (td_cmp (op_eqA hr.units) ro_eq (ed_callS (i := 1) c_law_next (hr.mono (by omega)) (by rfl) (ad_cons ed_int ad_nil)) ed_int (nomark _)) (ssd_cons (sd_set (i := 4) sc_law.nd rfl (Or.inl rfl) (ed_op op_addA ro_add (ed_callS (i := 1) c_law_turned (hr.mono (by omega)) (by rfl) (ad_cons (ed_var (i := 3)) ad_nil)) (ed_slK (K := K) rfl (ed_var (i := 4)) od_none (od_some ed_int))))
      ssd_nil) ssd_nil)
      (ssd_cons (sd_set (i := 5) sc_law.nd rfl (Or.inl rfl) (ed_lst (ad_cons (ed_callTy call_liD ro_list (by rfl) T.n_list (by decide +kernel) (ad_cons (ed_var (i := 3)) ad_nil)) (ad_cons (ed_callTy call_liD ro_list (by rfl) T.n_list (by decide +kernel) (ad_cons (ed_var (i := 4)) ad_nil)) ad_nil))))
      (ssd_cons (sd_setO (i := 6) sc_law.nd rfl (Or.inl rfl) (fd_callF c_came (hr.mono (by omega)) (by rfl) (ad_cons (ed_ixK (K := K) rfl (ed_var (i := 5)) ed_int (fun _ _ => rfl)) (ad_cons (ed_ixK (K := K) rfl (ed_var (i := 5)) ed_int (fun _ _ => rfl)) ad_nil))))
      (ssd_cons (sd_setO (i := 7) sc_law.nd rfl (Or.inl rfl) (fd_callF c_went (hr.mono (by omega)) (by rfl) (ad_cons (ed_ixK (K := K) rfl (ed_var (i := 5)) ed_int (fun _ _ => rfl)) (ad_cons (ed_ixK (K := K) rfl (ed_var (i := 5)) ed_int (fun _ _ => rfl)) ad_nil))))
      (ssd_cons (sd_if (WD.td (wd_or (td_not (td_truK (K := K) rfl (ed_bor (ed_call c_law_same (hr.mono (by omega)) (by rfl) (ad_cons (ed_var (i := 6)) (ad_cons (ed_call c_law_more (hr.mono (by omega)) (by rfl) (ad_cons (ed_var (i := 3)) (ad_cons (ed_var (i := 4)) ad_nil))) ad_nil)))) (fun _ => rfl))) (wd_or1 (td_not (td_truK (K := K) rfl (ed_bor (ed_call c_law_same (hr.mono (by omega)) (by rfl) (ad_cons (ed_var (i := 7)) (ad_cons (ed_call c_law_more (hr.mono (by omega)) (by rfl) (ad_cons (ed_var (i := 4)) (ad_cons (ed_var (i := 3)) ad_nil))) ad_nil)))) (fun _ => rfl)))))) (ssd_cons (sd_ret ed_bl)
      ssd_nil) ssd_nil)
      (ssd_cons (sd_if (td_not (td_truK (K := K) rfl (ed_bor (ed_call c_law_balanced (hr.mono (by omega)) (by rfl) (ad_cons (ed_var (i := 3)) (ad_cons (ed_var (i := 4)) (ad_cons (ed_var (i := 6)) (ad_cons (ed_var (i := 7)) ad_nil)))))) (fun _ => rfl))) (ssd_cons (sd_ret ed_bl)
      ssd_nil) ssd_nil)
      (ssd_cons (sd_appO (i := 6) (K := K) rfl (ed_tup (ad_cons ed_str ad_nil)) (hpe := pe_bm PySem.F.plainAttrs_list PySem.F.slot_list_append PySem.F.type_list_append mt_append (pv 6) (pa_cons (peO [7, 6, 1] (ed_tup (ad_cons ed_str ad_nil))) pa_nil)))
      (ssd_cons (sd_appO (i := 7) (K := K) rfl (ed_tup (ad_cons ed_str ad_nil)) (hpe := pe_bm PySem.F.plainAttrs_list PySem.F.slot_list_append PySem.F.type_list_append mt_append (pv 7) (pa_cons (peO [7, 6, 1] (ed_tup (ad_cons ed_str ad_nil))) pa_nil)))
      (ssd_cons (sd_if (td_not (td_truK (K := K) rfl (ed_call c_law_same (hr.mono (by omega)) (by rfl) (ad_cons (ed_var (i := 5)) (ad_cons (ed_lst (ad_cons (ed_var (i := 3)) (ad_cons (ed_var (i := 4)) ad_nil))) ad_nil))) (fun _ => rfl))) (ssd_cons (sd_ret ed_bl)
      ssd_nil) ssd_nil)
      (ssd_cons (sd_ret (ed_and (ed_call c_law_same (hr.mono (by omega)) (by rfl) (ad_cons (FD.ed (fd_callF c_came (hr.mono (by omega)) (by rfl) (ad_cons (ed_ixK (K := K) rfl (ed_var (i := 5)) ed_int (fun _ _ => rfl)) (ad_cons (ed_ixK (K := K) rfl (ed_var (i := 5)) ed_int (fun _ _ => rfl)) ad_nil)))) (ad_cons (ed_call c_law_more (hr.mono (by omega)) (by rfl) (ad_cons (ed_var (i := 3)) (ad_cons (ed_var (i := 4)) ad_nil))) ad_nil))) (ed_one (ed_call c_law_same (hr.mono (by omega)) (by rfl) (ad_cons (FD.ed (fd_callF c_went (hr.mono (by omega)) (by rfl) (ad_cons (ed_var (i := 3)) (ad_cons (ed_var (i := 4)) ad_nil)))) (ad_cons (ed_call c_law_more (hr.mono (by omega)) (by rfl) (ad_cons (ed_var (i := 4)) (ad_cons (ed_var (i := 3)) ad_nil))) ad_nil))))))
      ssd_nil)))))))))))))⟩) hm
end
end Kd
set_option Elab.async false
set_option linter.all false
set_option maxRecDepth 100000
set_option maxHeartbeats 4000000
namespace Kd
open PySem PySem.Spec PyProof.Rows L2 Kw
/-! ### came: a dict of counts -/
/-- what stands behind a step: T as it was, the rest grown, S new -/
structure Stp (T S : List Addr) (H0 H : Hp) : Prop where
  tq : ∀ x ∈ T, H x = H0 x
  al : ∀ x ∈ T, H0 x ≠ none
  sm : Same (hidS T H0) (hidS (S ++ T) H)
  nw : ∀ x ∈ S, H0 x = none
  av : ∀ x ∈ S, H x ≠ none
section
variable {T S : List Addr} {H0 H H' : Hp}
theorem Stp.alive (h : Stp T S H0 H) : ∀ x ∈ S ++ T, H x ≠ none := fun x hx => by
  rcases List.mem_append.mp hx with z | z
  · exact h.av x z
  · rw [h.tq x z]
    exact h.al x z
theorem Stp.start (h : ∀ x ∈ T, H0 x ≠ none) : Stp T [] H0 H0 := ⟨fun _ _ => rfl, h, Same.refl _, fun x hx => (by cases hx), fun x hx => (by cases hx)⟩
theorem Stp.call (h : Stp T S H0 H) (ht : ∀ x ∈ S ++ T, H' x = H x) (s : Same (hidS (S ++ T) H) (hidS (S ++ T) H')) : Stp T S H0 H' :=
  ⟨fun x hx => (ht x (List.mem_append_right _ hx)).trans (h.tq x hx), h.al, h.sm.trans s, h.nw, fun x hx => by rw [ht x (List.mem_append_left _ hx)]; exact h.av x hx⟩
theorem Stp.put (h : Stp T S H0 H) {l : Addr} (hl : l ∈ S) (o : HO) : Stp T S H0 (upd H l o) := by
  have nT : l ∉ T := fun z => h.al l z (h.nw l hl)
  refine ⟨fun x hx => ?_, h.al, ?_, h.nw, fun x hx => ?_⟩
  · rw [upd_ne (fun z : x = l => nT (z ▸ hx))]
    exact h.tq x hx
  · rw [hidS_upd_in (List.mem_append_left _ hl)]
    exact h.sm
  · by_cases c : x = l
    · subst c
      rw [upd_same]
      exact fun z => by cases z
    · rw [upd_ne c]
      exact h.av x hx
theorem Stp.new (h : Stp T S H0 H) {l : Addr} (hl : H l = none) (o : HO) : Stp T (l :: S) H0 (upd H l o) := by
  have n0 : H0 l = none := by
    cases e : H0 l with
    | none => rfl
    | some u =>
      by_cases c : l ∈ T
      · exact absurd ((h.tq l c).symm.trans hl) (h.al l c)
      · have := h.sm l u (by rw [hidS_eq, if_neg c]; exact e)
        rw [(hidS_some this).1] at hl
        cases hl
  have nT : l ∉ T := fun z => h.al l z n0
  refine ⟨fun x hx => ?_, h.al, fun b u e => ?_, fun x hx => ?_, fun x hx => ?_⟩
  · rw [upd_ne (fun z : x = l => nT (z ▸ hx))]
    exact h.tq x hx
  · have e1 := h.sm b u e
    obtain ⟨e2, n2⟩ := hidS_some e1
    have ne : b ≠ l := fun z => by rw [z, hl] at e2; cases e2
    rw [hidS_eq, if_neg fun z => ?_, upd_ne ne]
    · exact e2
    · rcases List.mem_cons.mp z with z | z
      · exact ne z
      · exact n2 z
  · rcases List.mem_cons.mp hx with rfl | hx
    · exact n0
    · exact h.nw x hx
  · by_cases c : x = l
    · subst c
      rw [upd_same]
      exact fun z => by cases z
    · rw [upd_ne c]
      rcases List.mem_cons.mp hx with z | z
      · exact absurd z c
      · exact h.av x z
end
section
variable {P : Program} {w : World} {K : PySem.W.Frag} {mg : Str → Option Value} {base : Heap} {f : Addr} {fd : FuncData}
theorem length_put_old {kvs : List (List Key × V)} {k : List Key} {v y : V} (h : valV kvs k = some v) : (putK kvs k y).length = kvs.length := by
  unfold putK
  rw [valV_any, h]
  rw [if_pos (show (some v).isSome = true from rfl), List.length_map]
theorem upd_hide {H : Hp} {l : Addr} {o : HO} (h : H l = some o) : upd (hide l H) l o = H := by
  funext b
  by_cases c : b = l
  · subst c
    rw [upd_same, h]
  · rw [upd_ne c, hide_ne c]
theorem gname_of {i : Nat} {v : V} {σ : L2.St} {H : Hp} {Q : L2.St → Hp → Prop} (h : Q (σ.set i (some v)) H) : gName i v σ H Q := h
theorem tseq_of {t u : TS} {D : Ends} {σ : L2.St} {H : Hp} (h : t { D with nx := u D } σ H) : tSeq t u D σ H := h
theorem tfor_sq (K : PySem.W.Frag) {σ : L2.St} {T : List Addr} {H0 H : Hp} {a : Addr} {l : Bool} {ds : List D} {xs : List V} {i : Nat} {g : TG} {tb : TS} {D : Ends} (hv : σ[i]? = some (some (.ref a))) (ha : hidS T H0 a = some (seqO l xs)) (hl : AtL (hidS T H0) ds xs) (Pv : Nat → L2.St → Hp → Prop)
    (h0 : Pv 0 σ H) (hG : ∀ i σ H, Pv i σ H → Same (hidS T H0) (hidS T H))
    (hs : ∀ i x σ H d, ds[i]? = some d → At (hidS T H0) d x → Pv i σ H → g x σ H fun σ2 H2 => tb { D with nx := Pv (i + 1), ct := Pv (i + 1), bk := D.nx } σ2 H2)
    (hd : ∀ σ H, Pv ds.length σ H → D.nx σ H) : tFor (iSqE K (tVar i)) g tb D σ H := by
  have h1 := (hidS_some (hG _ _ _ h0 _ _ ha)).1
  obtain ⟨G, Y, w, hG', hY⟩ := itk_seq (K := K) ha hl
  have key := L2.for_it w (g := g) (tb := tb) (D := D) Pv h0 (fun i σ H _ h => hG' H (hG i σ H h)) (fun i x σ H H' hlt h y => by
    obtain ⟨rfl, d, hd, hat⟩ := hY i H x H' hlt y
    exact hs i x σ H' d hd (hat H0 (Same.refl _)) h) hd
  refine ⟨.ref a, hv, a, rfl, ?_⟩
  cases l with
  | true => exact .inl ⟨⟨xs, SqL.of h1⟩, key⟩
  | false => exact .inr ⟨⟨xs, SqT.of h1⟩, key⟩
theorem key_step {σ : L2.St} {T S : List Addr} {H0 H : Hp} {d kd : D} {x : V} {k : List Key} {Q : VK} (St : Stp T S H0 H) (hd : At (hidS T H0) d x) (e1 : r_row_key [d] = some kd) (e2 : keyL kd = some k) (h3 : σ[3]? = some (some x))
    (q : ∀ b H', Stp T S H0 H' → (∀ y ∈ S, H' y = H y) → H' b = some (.tup (k.map kV)) → b ∉ S → Q (.ref b) H') : tCall (spP r_row_key) [] E0 (tCons (tVar 3) tNil) σ H Q := by
  refine ⟨x, h3, ?_⟩
  refine ⟨S ++ T, [d], kd, St.alive, AtL.one (At.same St.sm _ _ hd), e1, fun v H' ht s hv => ?_⟩
  obtain ⟨b, rfl, hb⟩ := key_at e2 hv
  obtain ⟨hb1, hb2⟩ := hidS_some hb
  exact q b H' (St.call ht s) (fun y hy => ht y (List.mem_append_left _ hy)) hb1 fun z => hb2 (List.mem_append_left _ z)
theorem ok_came (F : Fun K "came" "came" s_came f fd) (T : Txt K mg) (c_row_key : CalX P w K mg base CX0 2 "row_key" (spP r_row_key)) : FnOk P w K mg base CX0 3 f fd ["old", "new"] (spF r_came) := by
  refine F.ok sc_came (fun vs H Q E h => ?_) (fun cdv A outer s H0 vs Q E hr h => ?_)
  · obtain ⟨T, ds, es, _, hl, e, _⟩ := h
    rw [hl.length]
    match ds, e with
    | [.seq _ _, .seq _ _], _ => rfl
  · obtain ⟨T, ds, es, hT, hl, e, q⟩ := h
    refine ⟨_, (pss_cons (ps_set (i := 2) sc_came.nd rfl (Or.inl rfl) pe_dnewT)
      (pss_cons (ps_for PassesOwn.never rfl (pi_sqE (pv 0)) (pg_name (i := 3) sc_came.nd rfl (Or.inl rfl)) (pss_cons (ps_set (i := 5) sc_came.nd rfl (Or.inl rfl) (pe_cx c_row_key (hr.mono (by omega)) (by rfl) pass0 (pa_cons (pv 3) pa_nil))) (pss_one (ps_dput (hu_of hr) (pv 2) (pv 5) (pe_op op_add (pe_dget2 (hu_of hr) (pv 2) (pv 5) pe_int ⟨rfl, rfl, rfl, rfl⟩) pe_int) rfl))))
      (pss_cons (ps_set (i := 4) sc_came.nd rfl (Or.inl rfl) (pe_lst pa_nil))
      (pss_cons (ps_for PassesOwn.never rfl (pi_sqE (pv 1)) (pg_name (i := 3) sc_came.nd rfl (Or.inl rfl)) (pss_cons (ps_set (i := 5) sc_came.nd rfl (Or.inl rfl) (pe_cx c_row_key (hr.mono (by omega)) (by rfl) pass0 (pa_cons (pv 3) pa_nil)))
        (pss_one (ps_if (pt_cmpR op_gt (pe_dget2 (hu_of hr) (pv 2) (pv 5) pe_int ⟨rfl, rfl, rfl, rfl⟩) pe_int (nomark _)) (pss_one (ps_daug (hu_of hr) (pv 2) (pv 5) pe_int in_sub (fun _ _ _ => rfl))) (pss_one (ps_expr (pe_bm PySem.F.plainAttrs_list PySem.F.slot_list_append PySem.F.type_list_append mt_append (pv 4) (pa_cons (pv 3) pa_nil))))))))
      (pss_one (ps_ret (pv 4))))))), ?_⟩
    match ds, e, hl with
    | [.seq lo old, .seq ln new], e, hl =>
    obtain ⟨x0, x1, rfl, ⟨a0, xs0, rfl, ha0, hl0, hz0⟩, ⟨a1, xs1, rfl, ha1, hl1, hz1⟩⟩ := atL_two hl
    obtain ⟨cF, ec, e⟩ := bind_some e
    intro p hp
    have St0 := (Stp.start hT).new hp (.dT [])
    have base : ∀ {S : List Addr} {H : Hp}, Stp T S H0 H → Same (hidS T H0) (hidS T H) := fun {S H} St => St.sm.trans (same_hid_sub fun x hx => List.mem_append_right _ hx)
    refine gname_of ?_
    dsimp only
    refine tseq_of ?_
    refine tfor_sq K (T := T) (H0 := H0) rfl ha0 hl0 (fun i σ H => ∃ kvs c o3 o5, σ = [some (.ref a0), some (.ref a1), some (.ref p), o3, none, o5] ∧ Stp T [p] H0 H ∧ H p = some (.dT kvs) ∧ CI kvs c ∧ kvs.length ≤ i ∧ cntGo r_row_key c (old.drop i) = some cF)
      ⟨[], _, none, none, rfl, St0, upd_same, CI.nil, Nat.zero_le _, by rw [List.drop_zero]; exact ec⟩ (fun i σ H ⟨_, _, _, _, _, St0, _⟩ => base St0) ?_ ?_
    · rintro i x σ H d hd hat ⟨kvs, c, o3, o5, rfl, hSt, hpd, hc, hlen, hgo⟩
      obtain ⟨hli, ed⟩ := List.getElem?_eq_some_iff.mp hd
      rw [List.drop_eq_getElem_cons hli, ed] at hgo
      obtain ⟨kd, e1, hgo⟩ := bind_some hgo
      obtain ⟨k, e2, hgo⟩ := bind_some hgo
      refine key_step hSt hat e1 e2 rfl fun b H1 St1 hS hb hbS => ?_
      have hp1 : H1 p = some (.dT kvs) := (hS p (List.mem_singleton.mpr rfl)).trans hpd
      refine ⟨.ref p, rfl, p, rfl, .inr ⟨kvs, .inl hp1⟩, .ref b, rfl, _, DGet.t hp1 hb, _, _, hc k, rfl, .ref p, rfl, .ref b, rfl, p, _, rfl, DPut.t hp1 hb (lt_small (by omega)), ?_⟩
      exact ⟨_, _, some x, some (.ref b), rfl, St1.put (List.mem_singleton.mpr rfl) _, upd_same, hc.put k _, Nat.le_trans (length_putK _ _ _) (by omega), hgo⟩
    · rintro σ H ⟨kvs, c, o3, o5, rfl, hSt, hpd, hc, hlen, hgo⟩
      rw [List.drop_length] at hgo
      cases hgo
      refine ⟨Nat.zero_le _, fun l hll => ?_⟩
      have npl : p ≠ l := fun z => by rw [← z, hpd] at hll; cases hll
      have St2 := hSt.new hll (.lst [])
      refine gname_of ?_
      dsimp only
      refine tseq_of ?_
      refine tfor_sq K (T := T) (H0 := H0) rfl ha1 hl1 (fun i σ H => ∃ kvs c o3 o5 acc zs rest, σ = [some (.ref a0), some (.ref a1), some (.ref p), o3, some (.ref l), o5] ∧ Stp T [l, p] H0 H ∧ H p = some (.dT kvs) ∧ H l = some (.lst zs) ∧ CI kvs c ∧ kvs.length ≤ old.length ∧ AtL (hidS T H0) acc zs ∧ acc.length ≤ i ∧
          cameGo r_row_key c (new.drop i) = some rest ∧ acc ++ rest = es)
        ⟨kvs, cF, o3, o5, [], [], es, rfl, St2, by rw [upd_ne npl]; exact hpd, upd_same, hc, hlen, AtL.nil, Nat.zero_le _, by rw [List.drop_zero]; exact e, rfl⟩ (fun i σ H ⟨_, _, _, _, _, _, _, _, St0, _⟩ => base St0) ?_ ?_
      · rintro i x σ H d hd hat ⟨kvs, c, o3, o5, acc, zs, rest, rfl, hSt, hpd, hl, hc, hlen, hacc, hai, hgo, hes⟩
        obtain ⟨hli, ed⟩ := List.getElem?_eq_some_iff.mp hd
        rw [List.drop_eq_getElem_cons hli, ed] at hgo
        obtain ⟨kd, e1, hgo⟩ := bind_some hgo
        obtain ⟨k, e2, hgo⟩ := bind_some hgo
        refine key_step hSt hat e1 e2 rfl fun b H1 St1 hS hb hbS => ?_
        have hp1 : H1 p = some (.dT kvs) := (hS p (by simp)).trans hpd
        have hl1 : H1 l = some (.lst zs) := (hS l (by simp)).trans hl
        refine ⟨.ref p, rfl, p, rfl, .inr ⟨kvs, .inl hp1⟩, .ref b, rfl, _, DGet.t hp1 hb, _, _, hc k, rfl, _, rfl, ?_⟩
        by_cases pos : 0 < c k
        · rw [if_pos pos] at hgo
          rw [decide_eq_true pos]
          refine iteT ?_
          refine ⟨.ref p, rfl, .ref b, rfl, p, _, rfl, (hc.pos pos) ▸ DGet.t hp1 hb, _, _, rfl, rfl, _, DPut.t hp1 hb (lt_small (by omega)), ?_⟩
          refine ⟨_, _, some x, some (.ref b), acc, zs, rest, rfl, St1.put (by simp) _, upd_same, by rw [upd_ne npl.symm]; exact hl1, hc.put k _, ?_, hacc, by omega, hgo, hes⟩
          rw [length_put_old (hc.pos pos)]
          exact hlen
        · rw [if_neg pos] at hgo
          obtain ⟨rs, e3, rfl⟩ := map_some' hgo
          rw [decide_eq_false pos]
          refine iteF ?_
          have lz := hacc.length
          refine ⟨.ref l, rfl, .inl ⟨rfl, _, SqL.of hl1⟩, x, rfl, l, zs, x, rfl, rfl, hl1, lt_small (by omega), ?_⟩
          refine ⟨kvs, c, some x, some (.ref b), acc ++ [d], zs ++ [x], rs, rfl, St1.put (by simp) _, by rw [upd_ne npl]; exact hp1, upd_same, hc, hlen, AtL.append hacc (AtL.one hat), by rw [List.length_append, List.length_singleton]; omega, e3, by rw [List.append_assoc]; exact hes⟩
      · rintro σ H ⟨kvs, c, o3, o5, acc, zs, rest, rfl, hSt, hpd, hl, hc, hlen, hacc, hai, hgo, hes⟩
        rw [List.drop_length] at hgo
        cases hgo
        rw [List.append_nil] at hes
        subst hes
        have nT : l ∉ T := fun z => hSt.al l z (hSt.nw l (by simp))
        have s : Same (hidS T H0) (hidS T (hide l H)) := fun u o eu => by
          have e1 := hSt.sm u o eu
          obtain ⟨e2, n2⟩ := hidS_some e1
          rw [hidS_eq, if_neg fun z => n2 (List.mem_append_right _ z), hide_ne fun z => n2 (by rw [z]; simp)]
          exact e2
        have := q l (hide l H) zs (fun y hy => by rw [hide_ne (fun z : y = l => nT (z ▸ hy))]; exact hSt.tq y hy) s hide_self (AtL.same s _ _ hacc) (by omega)
        rw [upd_hide hl] at this
        exact ⟨.ref l, rfl, this⟩
theorem ok_went (F : Fun K "went" "went" s_went f fd) (T : Txt K mg) (c_came : CalX P w K mg base CX0 3 "came" (spF r_came)) : FnOk P w K mg base CX0 4 f fd ["old", "new"] (spF r_went) := by
  refine F.ok sc_went (fun vs H Q E h => ?_) (fun cdv A outer s H0 vs Q E hr h => ?_)
  · obtain ⟨T, ds, es, _, hl, e, _⟩ := h
    rw [hl.length]
    match ds, e with
    | [_, _], _ => rfl
  · obtain ⟨T, ds, es, hT, hl, e, q⟩ := h
    refine ⟨_, (pss_one (ps_ret (pe_cx c_came (hr.mono (by omega)) (by rfl) pass0 (pa_cons (pv 1) (pa_cons (pv 0) pa_nil))))), ?_⟩
    match ds, e, hl with
    | [d0, d1], e, hl =>
    obtain ⟨x0, x1, rfl, h0, h1⟩ := atL_two hl
    refine ⟨x1, rfl, x0, rfl, ?_⟩
    exact ⟨T, [d1, d0], es, hT, AtL.cons h1 (AtL.one h0), e, q⟩
end
end Kd
set_option Elab.async false
set_option linter.all false
set_option maxRecDepth 100000
set_option maxHeartbeats 4000000
namespace Kd
open PySem PySem.Spec PyProof.Rows L2 Kw
def leaves (xs : List D) : Prop := ∀ d ∈ xs, leafD d = true
def vk : D → List D
  | .non => [.int 0, .int 0]
  | .bl b => [.int 1, .int (if b then 1 else 0)]
  | .int i => [.int 2, .int i]
  | d => [.int 3, d]
def vK : D → List Key
  | .non => [.inl 0, .inl 0]
  | .bl b => [.inl 1, .inl (if b then 1 else 0)]
  | .int i => [.inl 2, .inl i]
  | .str z => [.inl 3, .inr z]
  | _ => []
def flat : List D → List D
  | [] => []
  | d :: ds => vk d ++ flat ds
def flatK : List D → List Key
  | [] => []
  | d :: ds => vK d ++ flatK ds
theorem vkey_ok {d : D} (h : leafD d = true) : r_value_key [d] = some (.seq false (vk d)) := by
  cases d with
  | non => rfl
  | bl b => cases b <;> rfl
  | int i => rfl
  | str z => rfl
  | seq l xs => cases h
theorem vk_len (d : D) : (vk d).length = 2 := by cases d <;> rfl
theorem vK_len {d : D} (h : leafD d = true) : (vK d).length = 2 := by
  cases d with
  | seq l xs => cases h
  | _ => rfl
theorem vK_inj {d e : D} (hd : leafD d = true) (he : leafD e = true) (h : vK d = vK e) : d = e := by
  cases d with
  | seq l xs => cases hd
  | non => cases e with
    | seq l xs => cases he
    | non => rfl
    | bl b => simp [vK] at h
    | int i => simp [vK] at h
    | str z => simp [vK] at h
  | bl a => cases e with
    | seq l xs => cases he
    | non => simp [vK] at h
    | bl b => cases a <;> cases b <;> simp [vK] at h <;> rfl
    | int i => simp [vK] at h
    | str z => simp [vK] at h
  | int i => cases e with
    | seq l xs => cases he
    | non => simp [vK] at h
    | bl b => simp [vK] at h
    | int j => simp [vK] at h; rw [h]
    | str z => simp [vK] at h
  | str z => cases e with
    | seq l xs => cases he
    | non => simp [vK] at h
    | bl b => simp [vK] at h
    | int j => simp [vK] at h
    | str y => simp [vK] at h; rw [h]
theorem flatK_inj : ∀ {xs ys : List D}, leaves xs → leaves ys → flatK xs = flatK ys → xs = ys
  | [], [], _, _, _ => rfl
  | [], y :: ys, _, hy, h => by
    have := congrArg List.length h
    have l := vK_len (hy y (List.mem_cons_self ..))
    simp [flatK, l] at this
    omega
  | x :: xs, [], hx, _, h => by
    have := congrArg List.length h
    have l := vK_len (hx x (List.mem_cons_self ..))
    simp [flatK, l] at this
  | x :: xs, y :: ys, hx, hy, h => by
    have lx := vK_len (hx x (List.mem_cons_self ..))
    have ly := vK_len (hy y (List.mem_cons_self ..))
    obtain ⟨e1, e2⟩ := List.append_inj (show vK x ++ flatK xs = vK y ++ flatK ys from h) (by rw [lx, ly])
    rw [vK_inj (hx x (List.mem_cons_self ..)) (hy y (List.mem_cons_self ..)) e1, flatK_inj (fun d hd => hx d (List.mem_cons_of_mem _ hd)) (fun d hd => hy d (List.mem_cons_of_mem _ hd)) e2]
theorem keyLs_app : ∀ {xs ys : List D} {a b : List Key}, keyLs xs = some a → keyLs ys = some b → keyLs (xs ++ ys) = some (a ++ b)
  | [], ys, a, b, e1, e2 => by
    cases e1
    exact e2
  | x :: xs, ys, a, b, e1, e2 => by
    obtain ⟨k, h1, e1⟩ := bind_some e1
    obtain ⟨ks, h2, rfl⟩ := map_some' e1
    show ((keyD x).bind fun k => (keyLs (xs ++ ys)).map fun ks => k :: ks) = _
    rw [h1, Option.bind_some, keyLs_app h2 e2]
    rfl
theorem keyLs_vk {d : D} (h : leafD d = true) : keyLs (vk d) = some (vK d) := by
  cases d with
  | seq l xs => cases h
  | _ => rfl
theorem keyLs_flat : ∀ {xs : List D}, leaves xs → keyLs (flat xs) = some (flatK xs)
  | [], _ => rfl
  | x :: xs, h => keyLs_app (keyLs_vk (h x (List.mem_cons_self ..))) (keyLs_flat fun d hd => h d (List.mem_cons_of_mem _ hd))
theorem key_loop {a : Option D} : ∀ (xs acc : List D) (o : Option D), leaves xs → acc.length + 2 * xs.length ≤ 16000000 → ∃ o', forD (gN 2) (sSeq (sExtO 1 (mCall r_value_key (mCons (mVar 2) mNil))) sNext) xs [a, some (.seq true acc), o] = some (.nx [a, some (.seq true (acc ++ flat xs)), o'])
  | [], acc, o, _, _ => ⟨o, by
      show some (Fl.nx [a, some (D.seq true acc), o]) = _
      rw [show flat [] = [] from rfl, List.append_nil]⟩
  | x :: xs, acc, o, hx, hl => by
    have k := vkey_ok (hx x (List.mem_cons_self ..))
    have hl' : acc.length + 2 * (xs.length + 1) ≤ 16000000 := hl
    obtain ⟨o', ih⟩ := key_loop xs (acc ++ vk x) (some x) (fun d hd => hx d (List.mem_cons_of_mem _ hd)) (by rw [List.length_append, vk_len]; omega)
    refine ⟨o', ?_⟩
    have st : sSeq (sExtO 1 (mCall r_value_key (mCons (mVar 2) mNil))) sNext [a, some (.seq true acc), some x] = some (.nx [a, some (.seq true (acc ++ vk x)), some x]) := by
      have c' : acc.length ≤ 15999998 := by omega
      have l := vk_len x
      simp [sSeq, sNext, sExtO, mCall, mCons, mNil, mVar, k, lstAt, l, c']
    unfold forD
    rw [show (gN 2) x [a, some (.seq true acc), o] = some [a, some (.seq true acc), some x] from rfl, Option.bind_some, st, Option.bind_some]
    show forD _ _ xs _ = _
    rw [ih, List.append_assoc]
    rfl
theorem row_key_ok {l : Bool} {xs : List D} (hx : leaves xs) (hl : xs.length ≤ 1000) : r_row_key [.seq l xs] = some (.seq false (flat xs)) := by
  obtain ⟨o, h⟩ := key_loop (a := some (.seq l xs)) xs [] none hx (by show 0 + _ ≤ _; omega)
  refine runP_of (δ := [some (.seq l xs), some (.seq true (flat xs)), o]) rfl rfl ?_
  show m_row_key [some (.seq l xs), none, none] = _
  unfold m_row_key
  rw [sSeq_nx (δ1 := [some (.seq l xs), some (.seq true []), none]) (show _ = some (Fl.nx _) from rfl)]
  refine (sSeq_nx (sFor_of (iSeq_of (l := l) (mVar_of rfl)) h)).trans ?_
  rfl
/-! ### rows -/
def RowP (d : D) : Prop := ∃ xs, d = .seq false xs ∧ leaves xs ∧ xs.length ≤ 1000
def keyR : D → List Key
  | .seq _ xs => flatK xs
  | _ => []
theorem keyR_inj {d e : D} (hd : RowP d) (he : RowP e) (h : keyR d = keyR e) : d = e := by
  obtain ⟨xs, rfl, hx, _⟩ := hd
  obtain ⟨ys, rfl, hy, _⟩ := he
  rw [flatK_inj hx hy h]
theorem row_key {d : D} (hd : RowP d) : ∃ kd, r_row_key [d] = some kd ∧ keyL kd = some (keyR d) := by
  obtain ⟨xs, rfl, hx, hl⟩ := hd
  exact ⟨_, row_key_ok hx hl, keyLs_flat hx⟩
mutual
theorem sameD_eq : ∀ d e : D, sameD d e = true → d = e
  | .non, e, h => by cases e <;> first | rfl | cases h
  | .bl a, e, h => by
    cases e with
    | bl b => rw [eq_of_beq (show (a == b) = true from h)]
    | _ => cases h
  | .int a, e, h => by
    cases e with
    | int b => rw [eq_of_beq (show (a == b) = true from h)]
    | _ => cases h
  | .str a, e, h => by
    cases e with
    | str b => rw [eq_of_beq (show (a == b) = true from h)]
    | _ => cases h
  | .seq l xs, e, h => by
    cases e with
    | seq k ys =>
      have h : ((l == k) && sameDs xs ys) = true := h
      rw [Bool.and_eq_true] at h
      rw [eq_of_beq h.1, sameDs_eq xs ys h.2]
    | _ => cases h
theorem sameDs_eq : ∀ xs ys : List D, sameDs xs ys = true → xs = ys
  | [], ys, h => by cases ys <;> first | rfl | cases h
  | x :: xs, ys, h => by
    cases ys with
    | nil => cases h
    | cons y ys =>
      have h : (sameD x y && sameDs xs ys) = true := h
      rw [Bool.and_eq_true] at h
      rw [sameD_eq x y h.1, sameDs_eq xs ys h.2]
end
def cnt (d : D) (rows : List D) : Nat := (rows.filter fun o => sameD o d).length
theorem cnt_nil (d : D) : cnt d [] = 0 := rfl
theorem cnt_cons (d x : D) (r : List D) : cnt d (x :: r) = (if sameD x d = true then 1 else 0) + cnt d r := by
  unfold cnt
  rw [List.filter_cons]
  by_cases c : sameD x d = true
  · rw [if_pos c, if_pos c, List.length_cons]
    omega
  · rw [if_neg c, if_neg c]
    omega
theorem cnt_app (d : D) (a b : List D) : cnt d (a ++ b) = cnt d a + cnt d b := by
  unfold cnt
  rw [List.filter_append, List.length_append]
theorem cnt_one (d x : D) : cnt d [x] = if sameD x d = true then 1 else 0 := by
  rw [cnt_cons, cnt_nil, Nat.add_zero]
theorem cnt_le (d : D) (r : List D) : cnt d r ≤ r.length := List.length_filter_le _ _
def moreGo (old : List D) : List D → List D → List D
  | _, [] => []
  | seen, x :: r => if cnt x old ≤ cnt x seen then x :: moreGo old (seen ++ [x]) r else moreGo old (seen ++ [x]) r
theorem more_cnt (d : D) (old : List D) : ∀ (r seen : List D), cnt d (moreGo old seen r) + (cnt d seen - cnt d old) = cnt d seen + cnt d r - cnt d old
  | [], seen => by
    show cnt d [] + _ = _ + cnt d [] - _
    rw [cnt_nil]
    omega
  | x :: r, seen => by
    have ih := more_cnt d old r (seen ++ [x])
    rw [cnt_app, cnt_one] at ih
    rw [cnt_cons]
    show cnt d (if cnt x old ≤ cnt x seen then x :: moreGo old (seen ++ [x]) r else moreGo old (seen ++ [x]) r) + _ = _
    by_cases s : sameD x d = true
    · have ex := sameD_eq _ _ s
      rw [if_pos s] at ih ⊢
      by_cases c : cnt x old ≤ cnt x seen
      · rw [if_pos c, cnt_cons, if_pos s]
        rw [ex] at c
        omega
      · rw [if_neg c]
        rw [ex] at c
        omega
    · rw [if_neg s] at ih ⊢
      by_cases c : cnt x old ≤ cnt x seen
      · rw [if_pos c, cnt_cons, if_neg s]
        omega
      · rw [if_neg c]
        omega
theorem more_count (d : D) (old new : List D) : cnt d (moreGo old [] new) = cnt d new - cnt d old := by
  have := more_cnt d old new []
  rw [cnt_nil] at this
  omega
theorem more_mem {old : List D} {d : D} : ∀ {r seen : List D}, d ∈ moreGo old seen r → d ∈ r
  | [], seen, h => by cases h
  | x :: r, seen, h => by
    replace h : d ∈ (if cnt x old ≤ cnt x seen then x :: moreGo old (seen ++ [x]) r else moreGo old (seen ++ [x]) r) := h
    by_cases c : cnt x old ≤ cnt x seen
    · rw [if_pos c] at h
      rcases List.mem_cons.mp h with rfl | h
      · exact List.mem_cons_self ..
      · exact List.mem_cons_of_mem _ (more_mem h)
    · rw [if_neg c] at h
      exact List.mem_cons_of_mem _ (more_mem h)
theorem more_len {old : List D} : ∀ {r seen : List D}, (moreGo old seen r).length ≤ r.length
  | [], seen => Nat.le_refl 0
  | x :: r, seen => by
    have ih := more_len (old := old) (r := r) (seen := seen ++ [x])
    show (if cnt x old ≤ cnt x seen then x :: moreGo old (seen ++ [x]) r else moreGo old (seen ++ [x]) r).length ≤ _
    split
    · rw [List.length_cons, List.length_cons]
      omega
    · rw [List.length_cons]
      omega
/-! ### came is more -/
theorem cnt_go : ∀ (rows : List D) (c : List Key → Int), (∀ d ∈ rows, RowP d) → ∃ c', cntGo r_row_key c rows = some c' ∧ ∀ d, RowP d → c' (keyR d) = c (keyR d) + cnt d rows
  | [], c, _ => ⟨c, rfl, fun d _ => by rw [cnt_nil]; simp⟩
  | x :: r, c, h => by
    have hx := h x (List.mem_cons_self ..)
    obtain ⟨kd, e1, e2⟩ := row_key hx
    obtain ⟨c', e3, e4⟩ := cnt_go r (setC c (keyR x) (c (keyR x) + 1)) fun d hd => h d (List.mem_cons_of_mem _ hd)
    refine ⟨c', ?_, fun d hd => ?_⟩
    · unfold cntGo
      rw [e1, Option.bind_some, e2, Option.bind_some]
      exact e3
    · rw [e4 d hd, cnt_cons]
      unfold setC
      by_cases k : keyR d = keyR x
      · have ed := keyR_inj hd hx k
        subst ed
        rw [if_pos rfl, if_pos (sameD_refl _)]
        omega
      · rw [if_neg k, if_neg fun s => k (by rw [sameD_eq _ _ s])]
        omega
theorem came_go {old : List D} : ∀ (rows seen : List D) (c : List Key → Int), (∀ d ∈ rows, RowP d) → (∀ d, RowP d → c (keyR d) = ((cnt d old - cnt d seen : Nat) : Int)) → cameGo r_row_key c rows = some (moreGo old seen rows)
  | [], seen, c, _, _ => rfl
  | x :: r, seen, c, h, hc => by
    have hx := h x (List.mem_cons_self ..)
    have hr := fun d hd => h d (List.mem_cons_of_mem x hd)
    obtain ⟨kd, e1, e2⟩ := row_key hx
    have cx := hc x hx
    unfold cameGo
    rw [e1, Option.bind_some, e2, Option.bind_some]
    show _ = some (if cnt x old ≤ cnt x seen then x :: moreGo old (seen ++ [x]) r else moreGo old (seen ++ [x]) r)
    by_cases p : 0 < c (keyR x)
    · rw [if_pos p, if_neg (by omega)]
      refine came_go r (seen ++ [x]) _ hr fun d hd => ?_
      rw [cnt_app, cnt_one]
      unfold setC
      by_cases k : keyR d = keyR x
      · have ed := keyR_inj hd hx k
        subst ed
        rw [if_pos rfl, if_pos (sameD_refl _)]
        omega
      · rw [if_neg k, if_neg fun s => k (by rw [sameD_eq _ _ s])]
        rw [hc d hd]
        omega
    · rw [if_neg p, if_pos (by omega), came_go r (seen ++ [x]) c hr fun d hd => ?_]
      · rfl
      · rw [cnt_app, cnt_one, hc d hd]
        by_cases k : sameD x d = true
        · have ed := sameD_eq _ _ k
          subst ed
          rw [if_pos k]
          omega
        · rw [if_neg k]
          omega
theorem came_ok {l k : Bool} {old new : List D} (ho : ∀ d ∈ old, RowP d) (hn : ∀ d ∈ new, RowP d) : r_came [.seq l old, .seq k new] = some (moreGo old [] new) := by
  obtain ⟨c, e1, e2⟩ := cnt_go old (fun _ => 0) ho
  show (cntGo r_row_key (fun _ => 0) old).bind (fun c => cameGo r_row_key c new) = _
  rw [e1, Option.bind_some]
  refine came_go new [] c hn fun d hd => ?_
  rw [e2 d hd, cnt_nil]
  simp
theorem went_ok {l k : Bool} {old new : List D} (ho : ∀ d ∈ old, RowP d) (hn : ∀ d ∈ new, RowP d) : r_went [.seq l old, .seq k new] = some (moreGo new [] old) := came_ok (l := k) (k := l) hn ho
end Kd
set_option Elab.async false
set_option linter.all false
set_option maxRecDepth 100000
set_option maxHeartbeats 4000000
namespace Kd
open PySem PySem.Spec PyProof.Rows L2 Kw
theorem leaves_dep : ∀ {xs : List D}, leaves xs → depL xs = 0
  | [], _ => rfl
  | x :: xs, h => by
    rw [depL_cons, leaves_dep fun d hd => h d (List.mem_cons_of_mem _ hd)]
    have hx := h x (List.mem_cons_self ..)
    cases x with
    | seq l xs => cases hx
    | _ => rfl
theorem leaves_big : ∀ {xs : List D}, leaves xs → bigD.bigL xs = 0
  | [], _ => rfl
  | x :: xs, h => by
    show max (bigD x) (bigD.bigL xs) = 0
    rw [leaves_big fun d hd => h d (List.mem_cons_of_mem _ hd)]
    have hx := h x (List.mem_cons_self ..)
    cases x with
    | seq l xs => cases hx
    | _ => rfl
theorem row_dep {d : D} (h : RowP d) : d.dep = 1 := by
  obtain ⟨xs, rfl, hx, _⟩ := h
  rw [dep_seq, leaves_dep hx]
theorem row_big {d : D} (h : RowP d) : bigD d ≤ 1000 := by
  obtain ⟨xs, rfl, hx, hl⟩ := h
  show max xs.length (bigD.bigL xs) ≤ _
  rw [leaves_big hx]
  omega
theorem rows_dep : ∀ {rows : List D}, (∀ d ∈ rows, RowP d) → depL rows ≤ 1
  | [], _ => Nat.zero_le _
  | x :: r, h => by
    have := rows_dep fun d hd => h d (List.mem_cons_of_mem x hd)
    rw [depL_cons, row_dep (h x (List.mem_cons_self ..))]
    omega
theorem rows_big : ∀ {rows : List D}, (∀ d ∈ rows, RowP d) → bigD.bigL rows ≤ 1000
  | [], _ => Nat.zero_le _
  | x :: r, h => by
    have := rows_big fun d hd => h d (List.mem_cons_of_mem x hd)
    have hx := row_big (h x (List.mem_cons_self ..))
    show max (bigD x) (bigD.bigL r) ≤ _
    omega
theorem same_row {d e : D} (he : RowP e) : r_law_same 4 [d, e] = some (.bl (sameD d e)) := same_ok 4 d e (by rw [row_dep he]; decide) (Nat.le_trans (row_big he) (by decide))
theorem same_rows {d : D} {l : Bool} {rows : List D} (h : ∀ d ∈ rows, RowP d) (hl : rows.length ≤ 1000) : r_law_same 4 [d, .seq l rows] = some (.bl (sameD d (.seq l rows))) := by
  refine same_ok 4 d _ ?_ ?_
  · have := rows_dep h
    rw [dep_seq]
    omega
  · have := rows_big h
    show max rows.length (bigD.bigL rows) ≤ _
    omega
/-! ### counts -/
theorem count_lc {row b : D} (hr : RowP row) : ∀ rows : List D, lcD [2] (gN 2) (mTru (mCall (r_law_same 4) (mCons (mVar 2) (mCons (mVar 0) mNil)))) (mVar 2) rows [some row, some b, none] = some (rows.filter fun o => sameD o row, [some row, some b, none])
  | [] => rfl
  | x :: r => by
    have ih := count_lc hr r (b := b)
    have e : mTru (mCall (r_law_same 4) (mCons (mVar 2) (mCons (mVar 0) mNil))) [some row, some b, some x] = some (sameD x row, [some row, some b, some x]) := mTru_of (mCall_of (mCons_of (mVar_of rfl) (mCons_of (mVar_of rfl) mNil_of)) (same_row hr)) rfl
    unfold lcD
    rw [show (gN 2) x (wipeD [some row, some b, none] [2]) = some [some row, some b, some x] from rfl, Option.bind_some, e, Option.bind_some, List.filter_cons]
    by_cases c : sameD x row = true
    · rw [if_pos c, if_pos c, show mVar 2 [some row, some b, some x] = some (x, [some row, some b, some x]) from rfl, Option.bind_some]
      show ((lcD _ _ _ _ r [some row, some b, none]).bind _) = _
      rw [ih]
      rfl
    · rw [if_neg c, if_neg c]
      exact ih
theorem count_ok {row : D} {l : Bool} {rows : List D} (hr : RowP row) (hl : rows.length ≤ 16000000) : r_law_count [row, .seq l rows] = some (.int (cnt row rows)) := by
  have e := mLc_of (iSeq_of (l := l) (mVar_of (δ := [some row, some (.seq l rows), none]) (i := 1) rfl)) (count_lc (b := .seq l rows) hr rows) (Nat.le_trans (List.length_filter_le _ _) hl)
  refine runP_of (δ := [some row, some (.seq l rows), none]) rfl rfl ?_
  show m_law_count [some row, some (.seq l rows), none] = _
  unfold m_law_count
  exact sSeq_rt (sRet_of (mCall_of (mCons_of e mNil_of) rfl))
/-! ### the law's own more -/
abbrev BMore : MS := (sSeq (sIf (mTst (mOp (ordO geO) (mCall r_law_count (mCons (mOp atD (mVar 1) (mVar 3)) (mCons (mSl (mVar 1) mNoP (mPart (mVar 3))) mNil))) (mCall r_law_count (mCons (mOp atD (mVar 1) (mVar 3)) (mCons (mVar 0) mNil))))) (sSeq (sAppO 2 (mOp atD (mVar 1) (mVar 3)))
  sNext) sNext)
  sNext)
theorem cut_take {xs : List D} {i : Nat} (h : i ≤ xs.length) : Kw.cutD xs none (some (i : Int)) = xs.take i := by
  unfold Kw.cutD
  rw [HT.sIx_nat, show HT.sIx xs.length 0 none = 0 from rfl, List.drop_zero, Nat.sub_zero, Nat.min_eq_left h]
theorem more_loop {l k : Bool} {old new : List D} (ho : old.length ≤ 1000) (hn : ∀ d ∈ new, RowP d) (hz : new.length ≤ 1000) :
    ∀ (m i : Nat) (acc : List D) (o : Option D), i + m = new.length → acc.length ≤ i → ∃ o', forD (gN 3) BMore ((List.range' i m).map fun (j : Nat) => D.int (0 + (j : Int))) [some (.seq l old), some (.seq k new), some (.seq true acc), o] = some (.nx [some (.seq l old), some (.seq k new), some (.seq true (acc ++ moreGo old (new.take i) (new.drop i))), o'])
  | 0, i, acc, o, h, _ => ⟨o, by
      rw [List.drop_of_length_le (l := new) (by omega)]
      show some (Fl.nx [some (.seq l old), some (.seq k new), some (.seq true acc), o]) = some (Fl.nx [some (.seq l old), some (.seq k new), some (.seq true (acc ++ [])), o])
      rw [List.append_nil]⟩
  | m + 1, i, acc, o, h, ha => by
    have hi : i < new.length := by omega
    obtain ⟨d, hd⟩ := some_at hi
    obtain ⟨_, ed⟩ := List.getElem?_eq_some_iff.mp hd
    have hr := hn d (List.mem_of_getElem? hd)
    have a1 : atI new (i : Int) = some d := atI_nat hd
    have z : 0 + (i : Int) = (i : Int) := Int.zero_add _
    rw [List.drop_eq_getElem_cons hi, ed]
    have tk : new.take i ++ [d] = new.take (i + 1) := by rw [List.take_add_one, hd]; rfl
    rw [List.range'_succ, List.map_cons]
    generalize hE : (⟨some (.seq l old), some (.seq k new)⟩ : Option D × Option D) = E
    have c1 : r_law_count [d, .seq k (new.take i)] = some (.int (cnt d (new.take i))) := count_ok hr (by rw [List.length_take]; omega)
    have c2 : r_law_count [d, .seq l old] = some (.int (cnt d old)) := count_ok hr (by omega)
    have v1 : mOp atD (mVar 1) (mVar 3) [some (.seq l old), some (.seq k new), some (.seq true acc), some (.int i)] = some (d, [some (.seq l old), some (.seq k new), some (.seq true acc), some (.int i)]) := mOp_of (mVar_of rfl) (mVar_of rfl) a1
    have v2 : mSl (mVar 1) mNoP (mPart (mVar 3)) [some (.seq l old), some (.seq k new), some (.seq true acc), some (.int i)] = some (.seq k (new.take i), [some (.seq l old), some (.seq k new), some (.seq true acc), some (.int i)]) := by
      have hc : cutO (.seq k new) none (some (i : Int)) = some (.seq k (new.take i)) := by
        show some (D.seq k (Kw.cutD new none (some (i : Int)))) = _
        rw [cut_take (xs := new) (i := i) (by omega)]
      simp [mSl, mNoP, mPart, mVar, intOf, hc]
    have tst : mTst (mOp (ordO geO) (mCall r_law_count (mCons (mOp atD (mVar 1) (mVar 3)) (mCons (mSl (mVar 1) mNoP (mPart (mVar 3))) mNil))) (mCall r_law_count (mCons (mOp atD (mVar 1) (mVar 3)) (mCons (mVar 0) mNil)))) [some (.seq l old), some (.seq k new), some (.seq true acc), some (.int i)] =
        some (decide ((cnt d old : Int) ≤ (cnt d (new.take i) : Int)), [some (.seq l old), some (.seq k new), some (.seq true acc), some (.int i)]) :=
      mTst_of (mOp_of (mCall_of (mCons_of v1 (mCons_of v2 mNil_of)) c1) (mCall_of (mCons_of v1 (mCons_of (mVar_of rfl) mNil_of)) c2) rfl)
    unfold forD
    rw [show (gN 3) (D.int (0 + (i : Int))) [some (.seq l old), some (.seq k new), some (.seq true acc), o] = some [some (.seq l old), some (.seq k new), some (.seq true acc), some (.int (0 + (i : Int)))] from rfl, Option.bind_some, z]
    show ∃ o', ((BMore _).bind _) = some (Fl.nx [_, _, some (.seq true (acc ++ (if cnt d old ≤ cnt d (new.take i) then d :: moreGo old (new.take i ++ [d]) (new.drop (i + 1)) else moreGo old (new.take i ++ [d]) (new.drop (i + 1))))), o'])
    rw [tk]
    by_cases c : cnt d old ≤ cnt d (new.take i)
    · have st : BMore [some (.seq l old), some (.seq k new), some (.seq true acc), some (.int i)] = some (.nx [some (.seq l old), some (.seq k new), some (.seq true (acc ++ [d])), some (.int i)]) := by
        have c' : decide ((cnt d old : Int) ≤ (cnt d (new.take i) : Int)) = true := decide_eq_true (by omega)
        rw [c'] at tst
        have c3 : acc.length < 16000000 := by omega
        have ap : sAppO 2 (mOp atD (mVar 1) (mVar 3)) [some (.seq l old), some (.seq k new), some (.seq true acc), some (.int i)] = some (.nx [some (.seq l old), some (.seq k new), some (.seq true (acc ++ [d])), some (.int i)]) := by
          unfold sAppO
          rw [v1, Option.bind_some]
          show (if acc.length < 16000000 then _ else _) = _
          rw [if_pos c3]
          rfl
        refine (sSeq_nx (δ1 := [some (.seq l old), some (.seq k new), some (.seq true (acc ++ [d])), some (.int i)]) ?_).trans rfl
        rw [sIf_t tst]
        exact (sSeq_nx ap).trans rfl
      rw [st, Option.bind_some, if_pos c]
      obtain ⟨o', e⟩ := more_loop ho hn hz (l := l) (k := k) m (i + 1) (acc ++ [d]) (some (.int i)) (by omega) (by rw [List.length_append, List.length_singleton]; omega)
      refine ⟨o', ?_⟩
      show forD _ _ _ _ = _
      rw [e, List.append_assoc]
      rfl
    · have st : BMore [some (.seq l old), some (.seq k new), some (.seq true acc), some (.int i)] = some (.nx [some (.seq l old), some (.seq k new), some (.seq true acc), some (.int i)]) := by
        have c' : decide ((cnt d old : Int) ≤ (cnt d (new.take i) : Int)) = false := decide_eq_false (by omega)
        rw [c'] at tst
        refine (sSeq_nx (δ1 := [some (.seq l old), some (.seq k new), some (.seq true acc), some (.int i)]) ?_).trans rfl
        rw [sIf_f tst]
        rfl
      rw [st, Option.bind_some, if_neg c]
      obtain ⟨o', e⟩ := more_loop ho hn hz (l := l) (k := k) m (i + 1) acc (some (.int i)) (by omega) (by omega)
      exact ⟨o', e⟩
theorem more_ok {l k : Bool} {old new : List D} (ho : old.length ≤ 1000) (hn : ∀ d ∈ new, RowP d) (hz : new.length ≤ 1000) : r_law_more [.seq l old, .seq k new] = some (.seq true (moreGo old [] new)) := by
  obtain ⟨o, e⟩ := more_loop ho hn hz (l := l) (k := k) new.length 0 [] none (Nat.zero_add _) (Nat.le_refl _)
  have it : iRg1 (mCons (mCall lenD (mCons (mVar 1) mNil)) mNil) [some (.seq l old), some (.seq k new), some (.seq true []), none] = some ((List.range' 0 new.length).map fun (j : Nat) => D.int (0 + (j : Int)), [some (.seq l old), some (.seq k new), some (.seq true []), none]) := by
    refine (iRg1_of (j := new.length) (mCons_of (mCall_of (mCons_of (mVar_of rfl) mNil_of) rfl) mNil_of) (by omega) (by omega)).trans ?_
    unfold rngD
    rw [Int.toNat_natCast, List.range_eq_range']
  refine runP_of (δ := [some (.seq l old), some (.seq k new), some (.seq true (moreGo old [] new)), o]) rfl rfl ?_
  show m_law_more [some (.seq l old), some (.seq k new), none, none] = _
  unfold m_law_more
  rw [sSeq_nx (δ1 := [some (.seq l old), some (.seq k new), some (.seq true []), none]) rfl]
  exact (sSeq_nx (sFor_of it e)).trans rfl
end Kd
set_option Elab.async false
set_option linter.all false
set_option maxRecDepth 100000
set_option maxHeartbeats 4000000
namespace Kd
open PySem PySem.Spec PyProof.Rows L2 Kw
local macro_rules | `(tactic| walk_at "dl") => `(tactic| simp [sSeq, sNext, sIf, sRet, sRetN, sDrop, sSet, sSetO, sAppO, sAsgG, sSubO, sAugO, mVar, mC, mOp, mUn, mNil, mCons, mSeq, mCall, mTst, mNotT, mAndT, mOrT, mIf, mNot, mAnd, mOr, mTru, mIxO, mLenO, mCallS, lstAt, intOf, atD, addI, addD, subD, mulB, mulD, modD, fdivD, powD, negD, eqO, ordO, ordD_int, ordD_str, ordD_bl, eqD_int, eqD_str, eqD_bl, lt_i, le_i, gt_i, ge_i, dep_int, dep_str, dep_bl, dep_non, lenD, intD, atI, ixN, truD, isNonD, notNonD, isBD, isi_bool, isi_int, isi_str, isBl, isInt, isStr, *])
/-! ### draws -/
def kindP (z : Str) : Prop := z = "integer" ∨ z = "text" ∨ z = "boolean"
theorem value_ok {z : Str} (hz : kindP z) : Dr r_law_value [.str z] fun d => leafD d = true := dr_of fun ds hd => by
  obtain ⟨_, ds1, e1, ⟨v, rfl, v0, v1⟩, h1⟩ := next_ok (lim := 5) (by decide) (by decide) ds hd
  show ∃ r, m_law_value [some (.seq true ds), some (.str z), none] = some r ∧ _
  by_cases c1 : v = 0
  · subst c1
    walk_at "dl"
    exact ⟨_, _, _, rfl, rfl, rfl, h1⟩
  have n1 : ¬ (Str.ofString "integer" = Str.ofString "boolean") := by decide
  rcases hz with rfl | rfl | rfl
  · obtain ⟨_, ds2, e2, ⟨u, rfl, u0, u1⟩, h2⟩ := next_ok (lim := 4) (by decide) (by decide) ds1 h1
    have : u = 0 ∨ u = 1 ∨ u = 2 ∨ u = 3 := by omega
    rcases this with rfl | rfl | rfl | rfl
    · obtain ⟨_, ds3, e3, ⟨w, rfl, w0, w1⟩, h3⟩ := next_ok (lim := 4) (by decide) (by decide) ds2 h2
      obtain ⟨_, ds4, e4, ⟨t, rfl, t0, t1⟩, h4⟩ := next_ok (lim := 2) (by decide) (by decide) ds3 h3
      have g : (1 - 2 * t).natAbs < 18446744073709551616 := by omega
      walk_at "dl"
      exact ⟨_, _, _, rfl, rfl, rfl, h4⟩
    · obtain ⟨_, ds3, e3, ⟨w, rfl, w0, w1⟩, h3⟩ := next_ok (lim := 4) (by decide) (by decide) ds2 h2
      obtain ⟨_, ds4, e4, ⟨t, rfl, t0, t1⟩, h4⟩ := next_ok (lim := 2) (by decide) (by decide) ds3 h3
      have g : (1 - 2 * t).natAbs < 18446744073709551616 := by omega
      walk_at "dl"
      exact ⟨_, _, _, rfl, rfl, rfl, h4⟩
    · obtain ⟨_, ds3, e3, ⟨w, rfl, w0, w1⟩, h3⟩ := next_ok (lim := 4) (by decide) (by decide) ds2 h2
      obtain ⟨_, ds4, e4, ⟨t, rfl, t0, t1⟩, h4⟩ := next_ok (lim := 2) (by decide) (by decide) ds3 h3
      have g : (1 - 2 * t).natAbs < 18446744073709551616 := by omega
      walk_at "dl"
      exact ⟨_, _, _, rfl, rfl, rfl, h4⟩
    · obtain ⟨_, ds3, e3, ⟨w, rfl, w0, w1⟩, h3⟩ := next_ok (lim := 10000000000000000000000000000000000000000) (by decide) (.inr (by decide +kernel)) ds2 h2
      obtain ⟨_, ds4, e4, ⟨t, rfl, t0, t1⟩, h4⟩ := next_ok (lim := 2) (by decide) (by decide) ds3 h3
      have g : (1 - 2 * t).natAbs < 18446744073709551616 := by omega
      walk_at "dl"
      exact ⟨_, _, _, rfl, rfl, rfl, h4⟩
  · obtain ⟨_, ds2, e2, ⟨u, rfl, u0, u1⟩, h2⟩ := next_ok (lim := 9) (by decide) (by decide) ds1 h1
    have t1 : ∃ y : Str, y.length ≤ 5 ∧ mOp atD (mSeq true (mCons (mC (.str "")) (mCons (mC (.str "a")) (mCons (mC (.str "b")) (mCons (mC (.str "ab")) (mCons (mC (.str "B")) (mCons (mC (.str "None")) (mCons (mC (.str "True")) (mCons (mC (.str "1")) (mCons (mC (.str "-3")) mNil)))))))))) (mCallS 0 r_law_next (mCons (mC (.int 9)) mNil)) [some (.seq true ds1), some (.str "text"), none] = some (.str y, [some (.seq true ds2), some (.str "text"), none]) := by
      have : u = 0 ∨ u = 1 ∨ u = 2 ∨ u = 3 ∨ u = 4 ∨ u = 5 ∨ u = 6 ∨ u = 7 ∨ u = 8 := by omega
      rcases this with rfl | rfl | rfl | rfl | rfl | rfl | rfl | rfl | rfl
      · exact ⟨"", by decide, by walk_at "dl"⟩
      · exact ⟨"a", by decide, by walk_at "dl"⟩
      · exact ⟨"b", by decide, by walk_at "dl"⟩
      · exact ⟨"ab", by decide, by walk_at "dl"⟩
      · exact ⟨"B", by decide, by walk_at "dl"⟩
      · exact ⟨"None", by decide, by walk_at "dl"⟩
      · exact ⟨"True", by decide, by walk_at "dl"⟩
      · exact ⟨"1", by decide, by walk_at "dl"⟩
      · exact ⟨"-3", by decide, by walk_at "dl"⟩
    obtain ⟨y, ly, ey⟩ := t1
    have st2 := sSet_of (i := 2) ey
    obtain ⟨_, ds3, e3, ⟨w, rfl, w0, w1⟩, h3⟩ := next_ok (lim := 5) (by decide) (by decide) ds2 h2
    obtain ⟨_, ds4, e4, ⟨t, rfl, t0, t1⟩, h4⟩ := next_ok (lim := 95) (by decide) (by decide) ds3 h3
    obtain ⟨ch, ec, lc⟩ := char_ok t
    have c0 : mTst (mOp (eqO false) (mCallS 0 r_law_next (mCons (mC (.int 5)) mNil)) (mC (.int 0))) [some (.seq true ds), some (.str "text"), none] = some (v == 0, [some (.seq true ds1), some (.str "text"), none]) := mTst_of (mOp_of (mCallS_of (mCons_of mC_of mNil_of) rfl e1) mC_of rfl)
    have c0' : (v == 0) = false := by rw [beq_eq_false_iff_ne]; exact c1
    rw [c0'] at c0
    have c2 : ∀ z : Str, mTst (mOp (eqO false) (mVar 1) (mC (.str z))) [some (.seq true ds1), some (.str "text"), none] = some ((("text" : Str) == z), [some (.seq true ds1), some (.str "text"), none]) := fun z => mTst_of (mOp_of (mVar_of rfl) mC_of rfl)
    have c3 : mTst (mOp (eqO false) (mCallS 0 r_law_next (mCons (mC (.int 5)) mNil)) (mC (.int 0))) [some (.seq true ds2), some (.str "text"), some (.str y)] = some (w == 0, [some (.seq true ds3), some (.str "text"), some (.str y)]) := mTst_of (mOp_of (mCallS_of (mCons_of mC_of mNil_of) rfl e3) mC_of rfl)
    have b1 : (("text" : Str) == ("boolean" : Str)) = false := by decide
    have b2 : (("text" : Str) == ("integer" : Str)) = false := by decide
    have d1 := c2 "boolean"
    have d2 := c2 "integer"
    rw [b1] at d1
    rw [b2] at d2
    have ad : mOp addD (mVar 2) (mCall r_law_char (mCons (mCallS 0 r_law_next (mCons (mC (.int 95)) mNil)) mNil)) [some (.seq true ds3), some (.str "text"), some (.str y)] = some (.str (y ++ ch), [some (.seq true ds4), some (.str "text"), some (.str y)]) :=
      mOp_of (mVar_of rfl) (mCall_of (mCons_of (mCallS_of (mCons_of mC_of mNil_of) rfl e4) mNil_of) ec) (by
        show (if y.length + ch.length ≤ 16000000 then _ else _) = _
        rw [if_pos (by omega)])
    have st : m_law_value [some (.seq true ds), some (.str "text"), none] = some (if w = 0 then .rt (.str (y ++ ch)) [some (.seq true ds4), some (.str "text"), some (.str (y ++ ch))] else .rt (.str y) [some (.seq true ds3), some (.str "text"), some (.str y)]) := by
      unfold m_law_value
      rw [sSeq_nx (δ1 := [some (.seq true ds1), some (.str "text"), none]) ((sIf_f c0).trans rfl), sSeq_nx (δ1 := [some (.seq true ds1), some (.str "text"), none]) ((sIf_f d1).trans rfl), sSeq_nx (δ1 := [some (.seq true ds1), some (.str "text"), none]) ((sIf_f d2).trans rfl), sSeq_nx st2]
      by_cases w0 : w = 0
      · have c3' : (w == 0) = true := by rw [w0]; rfl
        rw [c3'] at c3
        rw [if_pos w0]
        refine (sSeq_nx (δ1 := [some (.seq true ds4), some (.str "text"), some (.str (y ++ ch))]) ?_).trans rfl
        refine (sIf_t c3).trans ?_
        exact (sSeq_nx (sSet_of ad)).trans rfl
      · have c3' : (w == 0) = false := by rw [beq_eq_false_iff_ne]; exact w0
        rw [c3'] at c3
        rw [if_neg w0]
        refine (sSeq_nx (δ1 := [some (.seq true ds3), some (.str "text"), some (.str y)]) ?_).trans rfl
        exact (sIf_f c3).trans rfl
    rw [st]
    by_cases w0 : w = 0
    · rw [if_pos w0]
      exact ⟨_, rfl, _, _, _, rfl, rfl, rfl, h4⟩
    · rw [if_neg w0]
      exact ⟨_, rfl, _, _, _, rfl, rfl, rfl, h3⟩
  · obtain ⟨_, ds2, e2, ⟨u, rfl, u0, u1⟩, h2⟩ := next_ok (lim := 2) (by decide) (by decide) ds1 h1
    walk_at "dl"
    exact ⟨_, _, _, rfl, rfl, rfl, h2⟩
end Kd
set_option Elab.async false
set_option linter.all false
set_option maxRecDepth 100000
set_option maxHeartbeats 4000000
namespace Kd
open PySem PySem.Spec PyProof.Rows L2 Kw
local macro_rules | `(tactic| walk_at "dl") => `(tactic| simp [sSeq, sNext, sIf, sRet, sRetN, sDrop, sSet, sSetO, sAppO, sAsgG, sSubO, sAugO, mVar, mC, mOp, mUn, mNil, mCons, mSeq, mCall, mTst, mNotT, mAndT, mOrT, mIf, mNot, mAnd, mOr, mTru, mIxO, mLenO, mCallS, lstAt, intOf, atD, addI, addD, subD, mulB, mulD, modD, fdivD, powD, negD, eqO, ordO, ordD_int, ordD_str, ordD_bl, eqD_int, eqD_str, eqD_bl, lt_i, le_i, gt_i, ge_i, dep_int, dep_str, dep_bl, dep_non, lenD, intD, atI, ixN, truD, isNonD, notNonD, isBD, isi_bool, isi_int, isi_str, isBl, isInt, isStr, *])
/-! ### rows that are drawn -/
abbrev elRow : M := mCallS 0 r_law_value (mCons (mOp atD (mSeq true (mCons (mC (.str "integer")) (mCons (mC (.str "text")) (mCons (mC (.str "boolean")) mNil)))) (mCallS 0 r_law_next (mCons (mC (.int 3)) mNil))) mNil)
theorem el_row (w : D) (x : D) (ds : List D) (h : DrL ds) : ∃ d ds', elRow [some (.seq true ds), some w, some x] = some (d, [some (.seq true ds'), some w, some x]) ∧ leafD d = true ∧ DrL ds' := by
  obtain ⟨_, ds1, e1, ⟨u, rfl, u0, u1⟩, h1⟩ := next_ok (lim := 3) (by decide) (by decide) ds h
  have k : ∃ z, kindP z ∧ mOp atD (mSeq true (mCons (mC (.str "integer")) (mCons (mC (.str "text")) (mCons (mC (.str "boolean")) mNil)))) (mCallS 0 r_law_next (mCons (mC (.int 3)) mNil)) [some (.seq true ds), some w, some x] = some (.str z, [some (.seq true ds1), some w, some x]) := by
    have : u = 0 ∨ u = 1 ∨ u = 2 := by omega
    rcases this with rfl | rfl | rfl
    · exact ⟨"integer", .inl rfl, by walk_at "dl"⟩
    · exact ⟨"text", .inr (.inl rfl), by walk_at "dl"⟩
    · exact ⟨"boolean", .inr (.inr rfl), by walk_at "dl"⟩
  obtain ⟨z, hz, ez⟩ := k
  obtain ⟨d, ds2, e2, hd, h2⟩ := value_ok hz ds1 h1
  exact ⟨d, ds2, mCallS_of (mCons_of ez mNil_of) rfl e2, hd, h2⟩
theorem row_ok {w : Int} (w0 : 0 ≤ w) (w1 : w < 4) : Dr r_law_drawn_row [.int w] RowP := dr_of fun ds hd => by
  show ∃ r, m_law_drawn_row [some (.seq true ds), some (.int w), none] = some r ∧ _
  obtain ⟨es, ds', e1, e2, e3, h'⟩ := lc_draw (vs := [2]) (gd := gN 2) (el := elRow) (fun _ d => leafD d = true) (fun ds => [some (.seq true ds), some (.int w), none]) (fun x ds h => by
    obtain ⟨d, ds', e, hd, h'⟩ := el_row (.int w) x ds h
    exact ⟨_, d, _, ds', rfl, e, rfl, hd, h'⟩) (rngD 0 w.toNat) ds hd
  rw [rngD_length] at e2
  have lv : leaves es := all_of_at fun i a ha => by
    obtain ⟨x, hx⟩ := some_at (l := rngD 0 w.toNat) (i := i) (by rw [rngD_length, ← e2]; exact (List.getElem?_eq_some_iff.mp ha).1)
    exact e3 i x a hx ha
  refine ⟨.rt (.seq false es) [some (.seq true ds'), some (.int w), none], ?_, .seq false es, _, ds', rfl, rfl, ⟨es, rfl, lv, by omega⟩, h'⟩
  unfold m_law_drawn_row
  exact sSeq_rt (sRet_of (mCall_of (mCons_of (mLc_of (iRg1_of (mCons_of (mVar_of rfl) mNil_of) (by omega) (by omega)) e1 (by omega)) mNil_of) rfl))
section
variable {o0 o2 o3 o4 o5 o6 o7 : Option D}
theorem rows_ok {w : Int} (w0 : 0 ≤ w) (w1 : w < 4) (xs ds : List D) (h : DrL ds) : ∃ es ds', lcD [8] (gN 8) mYes (mCallS 1 r_law_drawn_row (mCons (mVar 2) mNil)) xs [o0, some (.seq true ds), some (.int w), o3, o4, o5, o6, o7, none] = some (es, [o0, some (.seq true ds'), some (.int w), o3, o4, o5, o6, o7, none]) ∧ es.length = xs.length ∧ (∀ d ∈ es, RowP d) ∧ DrL ds' := by
  obtain ⟨es, ds', e1, e2, e3, h'⟩ := lc_draw (vs := [8]) (gd := gN 8) (el := mCallS 1 r_law_drawn_row (mCons (mVar 2) mNil)) (fun _ d => RowP d) (fun ds => [o0, some (.seq true ds), some (.int w), o3, o4, o5, o6, o7, none]) (fun x ds h => by
    obtain ⟨d, ds', e, hd, h'⟩ := row_ok w0 w1 ds h
    exact ⟨[o0, some (.seq true ds), some (.int w), o3, o4, o5, o6, o7, some x], d, [o0, some (.seq true ds'), some (.int w), o3, o4, o5, o6, o7, some x], ds', rfl, mCallS_of (mCons_of (mVar_of rfl) mNil_of) rfl e, rfl, hd, h'⟩) xs ds h
  refine ⟨es, ds', e1, e2, all_of_at fun i a ha => ?_, h'⟩
  obtain ⟨x, hx⟩ := some_at (l := xs) (i := i) (by rw [← e2]; exact (List.getElem?_eq_some_iff.mp ha).1)
  exact e3 i x a hx ha
end
/-! ### rows turned -/
abbrev BIns : MS := (sSeq (sInsO 2 (mCallS 0 r_law_next (mCons (mOp addD (mLenO 2) (mC (.int 1))) mNil)) (mVar 3))
  sNext)
theorem ins_loop {o1 : Option D} {row : D} (hr : RowP row) : ∀ (xs acc ds : List D) (o4 : Option D), DrL ds → (∀ d ∈ acc, RowP d) → acc.length + xs.length ≤ 1000 →
    ∃ acc' ds' o4', forD (gN 4) BIns xs [some (.seq true ds), o1, some (.seq true acc), some row, o4] = some (.nx [some (.seq true ds'), o1, some (.seq true acc'), some row, o4']) ∧ DrL ds' ∧ (∀ d ∈ acc', RowP d) ∧ acc'.length = acc.length + xs.length
  | [], acc, ds, o4, h, ha, hl => ⟨acc, ds, o4, rfl, h, ha, rfl⟩
  | x :: xs, acc, ds, o4, h, ha, hl => by
    have hl' : acc.length + (xs.length + 1) ≤ 1000 := hl
    obtain ⟨_, ds1, e1, ⟨v, rfl, v0, v1⟩, h1⟩ := next_ok (lim := (acc.length : Int) + 1) (by omega) (.inl (by omega)) ds h
    have a1 : mOp addD (mLenO 2) (mC (.int 1)) [some (.seq true ds), o1, some (.seq true acc), some row, some x] = some (.int ((acc.length : Int) + 1), [some (.seq true ds), o1, some (.seq true acc), some row, some x]) := mOp_of (x := .int acc.length) (y := .int 1) rfl rfl rfl
    have k1 : mCallS 0 r_law_next (mCons (mOp addD (mLenO 2) (mC (.int 1))) mNil) [some (.seq true ds), o1, some (.seq true acc), some row, some x] = some (.int v, [some (.seq true ds1), o1, some (.seq true acc), some row, some x]) :=
      mCallS_of (mCons_of a1 mNil_of) rfl e1
    have st : BIns [some (.seq true ds), o1, some (.seq true acc), some row, some x] = some (.nx [some (.seq true ds1), o1, some (.seq true (acc.take v.toNat ++ [row] ++ acc.drop v.toNat)), some row, some x]) := by
      refine (sSeq_nx (δ1 := [some (.seq true ds1), o1, some (.seq true (acc.take v.toNat ++ [row] ++ acc.drop v.toNat)), some row, some x]) ?_).trans rfl
      unfold sInsO
      rw [k1, Option.bind_some]
      show ((some (row, [some (.seq true ds1), o1, some (.seq true acc), some row, some x])).bind _) = _
      rw [Option.bind_some]
      show (if 0 ≤ v ∧ v < 2 ^ 63 ∧ acc.length < 16000000 then _ else _) = _
      rw [if_pos ⟨v0, by omega, by omega⟩]
      rfl
    have len : (acc.take v.toNat ++ [row] ++ acc.drop v.toNat).length = acc.length + 1 := by
      rw [List.length_append, List.length_append, List.length_take, List.length_drop, List.length_singleton]
      omega
    obtain ⟨acc', ds', o4', e2, h2, ha2, hl2⟩ := ins_loop hr xs (acc.take v.toNat ++ [row] ++ acc.drop v.toNat) ds1 (some x) h1 (fun d hd => by
      rcases List.mem_append.mp hd with hd | hd
      · rcases List.mem_append.mp hd with hd | hd
        · exact ha d (List.mem_of_mem_take hd)
        · rw [List.mem_singleton.mp hd]
          exact hr
      · exact ha d (List.mem_of_mem_drop hd)) (by rw [len]; omega)
    refine ⟨acc', ds', o4', ?_, h2, ha2, by rw [hl2, len, List.length_cons]; omega⟩
    unfold forD
    rw [show (gN 4) x [some (.seq true ds), o1, some (.seq true acc), some row, o4] = some [some (.seq true ds), o1, some (.seq true acc), some row, some x] from rfl, Option.bind_some, st, Option.bind_some]
    exact e2
abbrev BTurn : MS := (sSeq (sFor (iRg1 (mCons (mOp atD (mSeq true (mCons (mC (.int 1)) (mCons (mC (.int 1)) (mCons (mC (.int 2)) (mCons (mC (.int 0)) mNil))))) (mCallS 0 r_law_next (mCons (mC (.int 4)) mNil))) mNil)) (gN 4) (sSeq (sInsO 2 (mCallS 0 r_law_next (mCons (mOp addD (mLenO 2) (mC (.int 1))) mNil)) (mVar 3))
  sNext))
  sNext)
theorem turn_loop {o1 : Option D} : ∀ (xs acc ds : List D) (o3 o4 : Option D), DrL ds → (∀ d ∈ xs, RowP d) → (∀ d ∈ acc, RowP d) → acc.length + 2 * xs.length ≤ 1000 →
    ∃ acc' ds' o3' o4', forD (gN 3) BTurn xs [some (.seq true ds), o1, some (.seq true acc), o3, o4] = some (.nx [some (.seq true ds'), o1, some (.seq true acc'), o3', o4']) ∧ DrL ds' ∧ (∀ d ∈ acc', RowP d) ∧ acc'.length ≤ acc.length + 2 * xs.length
  | [], acc, ds, o3, o4, h, hx, ha, hl => ⟨acc, ds, o3, o4, rfl, h, ha, Nat.le_refl _⟩
  | x :: xs, acc, ds, o3, o4, h, hx, ha, hl => by
    have hl' : acc.length + 2 * (xs.length + 1) ≤ 1000 := hl
    obtain ⟨_, ds1, e1, ⟨u, rfl, u0, u1⟩, h1⟩ := next_ok (lim := 4) (by decide) (by decide) ds h
    have k : ∃ j : Int, 0 ≤ j ∧ j ≤ 2 ∧ mOp atD (mSeq true (mCons (mC (.int 1)) (mCons (mC (.int 1)) (mCons (mC (.int 2)) (mCons (mC (.int 0)) mNil))))) (mCallS 0 r_law_next (mCons (mC (.int 4)) mNil)) [some (.seq true ds), o1, some (.seq true acc), some x, o4] = some (.int j, [some (.seq true ds1), o1, some (.seq true acc), some x, o4]) := by
      have : u = 0 ∨ u = 1 ∨ u = 2 ∨ u = 3 := by omega
      rcases this with rfl | rfl | rfl | rfl
      · exact ⟨1, by decide, by decide, by walk_at "dl"⟩
      · exact ⟨1, by decide, by decide, by walk_at "dl"⟩
      · exact ⟨2, by decide, by decide, by walk_at "dl"⟩
      · exact ⟨0, by decide, by decide, by walk_at "dl"⟩
    obtain ⟨j, j0, j1, ej⟩ := k
    obtain ⟨acc1, ds2, o4', e2, h2, ha2, hl2⟩ := ins_loop (o1 := o1) (hx x (List.mem_cons_self ..)) (rngD 0 j.toNat) acc ds1 o4 h1 ha (by rw [rngD_length]; omega)
    rw [rngD_length] at hl2
    obtain ⟨acc', ds', o3', o4'', e3, h3, ha3, hl3⟩ := turn_loop (o1 := o1) xs acc1 ds2 (some x) o4' h2 (fun d hd => hx d (List.mem_cons_of_mem _ hd)) ha2 (by omega)
    refine ⟨acc', ds', o3', o4'', ?_, h3, ha3, by rw [List.length_cons]; omega⟩
    have st : BTurn [some (.seq true ds), o1, some (.seq true acc), some x, o4] = some (.nx [some (.seq true ds2), o1, some (.seq true acc1), some x, o4']) := by
      refine (sSeq_nx (δ1 := [some (.seq true ds2), o1, some (.seq true acc1), some x, o4']) ?_).trans rfl
      exact sFor_of (iRg1_of (mCons_of ej mNil_of) (by omega) (by omega)) e2
    unfold forD
    rw [show (gN 3) x [some (.seq true ds), o1, some (.seq true acc), o3, o4] = some [some (.seq true ds), o1, some (.seq true acc), some x, o4] from rfl, Option.bind_some, st, Option.bind_some]
    exact e3
theorem turned_ok {l : Bool} {old : List D} (ho : ∀ d ∈ old, RowP d) (hl : old.length ≤ 20) : Dr r_law_turned [.seq l old] fun d => ∃ new, d = .seq true new ∧ (∀ d ∈ new, RowP d) ∧ new.length ≤ 40 := dr_of fun ds hd => by
  show ∃ r, m_law_turned [some (.seq true ds), some (.seq l old), none, none, none] = some r ∧ _
  obtain ⟨acc, ds', o3, o4, e, h, ha, hl2⟩ := turn_loop (o1 := some (.seq l old)) old [] ds none none hd ho (fun d hd => by cases hd) (by show 0 + _ ≤ _; omega)
  refine ⟨.rt (.seq true acc) [some (.seq true ds'), some (.seq l old), some (.seq true acc), o3, o4], ?_, .seq true acc, _, ds', rfl, rfl, ⟨acc, rfl, ha, by simp at hl2; omega⟩, h⟩
  unfold m_law_turned
  rw [sSeq_nx (δ1 := [some (.seq true ds), some (.seq l old), some (.seq true []), none, none]) rfl]
  exact (sSeq_nx (sFor_of (iSeq_of (l := l) (mVar_of rfl)) e)).trans rfl
/-! ### balanced -/
abbrev BBal : MS := (sSeq (sIf (mTst (mOp (eqO true) (mOp addD (mCall r_law_count (mCons (mVar 4) (mCons (mVar 0) mNil))) (mCall r_law_count (mCons (mVar 4) (mCons (mVar 2) mNil)))) (mOp addD (mCall r_law_count (mCons (mVar 4) (mCons (mVar 1) mNil))) (mCall r_law_count (mCons (mVar 4) (mCons (mVar 3) mNil)))))) (sSeq (sRet (mC (.bl false)))
  sNext) sNext)
  (sSeq (sIf (mAndT (mTst (mOp (ordO gtO) (mCall r_law_count (mCons (mVar 4) (mCons (mVar 2) mNil))) (mC (.int 0)))) (mTst (mOp (ordO gtO) (mCall r_law_count (mCons (mVar 4) (mCons (mVar 3) mNil))) (mC (.int 0))))) (sSeq (sRet (mC (.bl false)))
  sNext) sNext)
  sNext))
theorem bal_step {a b c d : Bool} {old new more fewer : List D} {x : D} (hx : RowP x) (h1 : old.length ≤ 1000) (h2 : new.length ≤ 1000) (h3 : more.length ≤ 1000) (h4 : fewer.length ≤ 1000) (hm : cnt x more = cnt x new - cnt x old) (hf : cnt x fewer = cnt x old - cnt x new) :
    BBal [some (.seq a old), some (.seq b new), some (.seq c more), some (.seq d fewer), some x] = some (.nx [some (.seq a old), some (.seq b new), some (.seq c more), some (.seq d fewer), some x]) := by
  have c1 : r_law_count [x, .seq a old] = some (.int (cnt x old)) := count_ok hx (by omega)
  have c2 : r_law_count [x, .seq b new] = some (.int (cnt x new)) := count_ok hx (by omega)
  have c3 : r_law_count [x, .seq c more] = some (.int (cnt x more)) := count_ok hx (by omega)
  have c4 : r_law_count [x, .seq d fewer] = some (.int (cnt x fewer)) := count_ok hx (by omega)
  have t1 : mTst (mOp (eqO true) (mOp addD (mCall r_law_count (mCons (mVar 4) (mCons (mVar 0) mNil))) (mCall r_law_count (mCons (mVar 4) (mCons (mVar 2) mNil)))) (mOp addD (mCall r_law_count (mCons (mVar 4) (mCons (mVar 1) mNil))) (mCall r_law_count (mCons (mVar 4) (mCons (mVar 3) mNil))))) [some (.seq a old), some (.seq b new), some (.seq c more), some (.seq d fewer), some x] = some (!((cnt x old : Int) + cnt x more == (cnt x new : Int) + cnt x fewer), [some (.seq a old), some (.seq b new), some (.seq c more), some (.seq d fewer), some x]) :=
    mTst_of (mOp_of (mOp_of (mCall_of (mCons_of (mVar_of rfl) (mCons_of (mVar_of rfl) mNil_of)) c1) (mCall_of (mCons_of (mVar_of rfl) (mCons_of (mVar_of rfl) mNil_of)) c3) rfl) (mOp_of (mCall_of (mCons_of (mVar_of rfl) (mCons_of (mVar_of rfl) mNil_of)) c2) (mCall_of (mCons_of (mVar_of rfl) (mCons_of (mVar_of rfl) mNil_of)) c4) rfl) rfl)
  have e1 : (!((cnt x old : Int) + cnt x more == (cnt x new : Int) + cnt x fewer)) = false := by
    have : (cnt x old : Int) + cnt x more = (cnt x new : Int) + cnt x fewer := by omega
    rw [this, beq_self_eq_true]
    rfl
  rw [e1] at t1
  have t2 : mTst (mOp (ordO gtO) (mCall r_law_count (mCons (mVar 4) (mCons (mVar 2) mNil))) (mC (.int 0))) [some (.seq a old), some (.seq b new), some (.seq c more), some (.seq d fewer), some x] = some (decide ((0 : Int) < cnt x more), [some (.seq a old), some (.seq b new), some (.seq c more), some (.seq d fewer), some x]) :=
    mTst_of (mOp_of (mCall_of (mCons_of (mVar_of rfl) (mCons_of (mVar_of rfl) mNil_of)) c3) mC_of rfl)
  have t3 : mTst (mOp (ordO gtO) (mCall r_law_count (mCons (mVar 4) (mCons (mVar 3) mNil))) (mC (.int 0))) [some (.seq a old), some (.seq b new), some (.seq c more), some (.seq d fewer), some x] = some (decide ((0 : Int) < cnt x fewer), [some (.seq a old), some (.seq b new), some (.seq c more), some (.seq d fewer), some x]) :=
    mTst_of (mOp_of (mCall_of (mCons_of (mVar_of rfl) (mCons_of (mVar_of rfl) mNil_of)) c4) mC_of rfl)
  have t4 : mAndT (mTst (mOp (ordO gtO) (mCall r_law_count (mCons (mVar 4) (mCons (mVar 2) mNil))) (mC (.int 0)))) (mTst (mOp (ordO gtO) (mCall r_law_count (mCons (mVar 4) (mCons (mVar 3) mNil))) (mC (.int 0)))) [some (.seq a old), some (.seq b new), some (.seq c more), some (.seq d fewer), some x] = some (false, [some (.seq a old), some (.seq b new), some (.seq c more), some (.seq d fewer), some x]) := by
    unfold mAndT
    rw [t2, Option.bind_some]
    by_cases p : (0 : Int) < cnt x more
    · rw [decide_eq_true p, if_pos rfl, t3, decide_eq_false (by omega)]
    · rw [decide_eq_false p]
      rfl
  exact (sSeq_nx ((sIf_f t1).trans rfl)).trans ((sSeq_nx ((sIf_f t4).trans rfl)).trans rfl)
theorem bal_loop {a b c d : Bool} {old new more fewer : List D} (h1 : old.length ≤ 1000) (h2 : new.length ≤ 1000) (h3 : more.length ≤ 1000) (h4 : fewer.length ≤ 1000) (hm : ∀ x, cnt x more = cnt x new - cnt x old) (hf : ∀ x, cnt x fewer = cnt x old - cnt x new) :
    ∀ (xs : List D) (o : Option D), (∀ d ∈ xs, RowP d) → ∃ o', forD (gN 4) BBal xs [some (.seq a old), some (.seq b new), some (.seq c more), some (.seq d fewer), o] = some (.nx [some (.seq a old), some (.seq b new), some (.seq c more), some (.seq d fewer), o'])
  | [], o, _ => ⟨o, rfl⟩
  | x :: xs, o, hx => by
    obtain ⟨o', e⟩ := bal_loop h1 h2 h3 h4 hm hf (a := a) (b := b) (c := c) (d := d) xs (some x) fun d hd => hx d (List.mem_cons_of_mem _ hd)
    refine ⟨o', ?_⟩
    unfold forD
    rw [show (gN 4) x [some (.seq a old), some (.seq b new), some (.seq c more), some (.seq d fewer), o] = some [some (.seq a old), some (.seq b new), some (.seq c more), some (.seq d fewer), some x] from rfl, Option.bind_some, bal_step (hx x (List.mem_cons_self ..)) h1 h2 h3 h4 (hm x) (hf x), Option.bind_some]
    exact e
theorem balanced_ok {c d : Bool} {old new : List D} (ho : ∀ d ∈ old, RowP d) (hn : ∀ d ∈ new, RowP d) (h1 : old.length ≤ 1000) (h2 : new.length ≤ 1000) :
    r_law_balanced [.seq true old, .seq true new, .seq c (moreGo old [] new), .seq d (moreGo new [] old)] = some (.bl true) := by
  obtain ⟨o, e⟩ := bal_loop (a := true) (b := true) (c := c) (d := d) h1 h2 (Nat.le_trans more_len h2) (Nat.le_trans more_len h1) (fun x => more_count x old new) (fun x => more_count x new old) (old ++ new) none fun d hd => by
    rcases List.mem_append.mp hd with hd | hd
    · exact ho d hd
    · exact hn d hd
  have ad : mOp addD (mVar 0) (mVar 1) [some (.seq true old), some (.seq true new), some (.seq c (moreGo old [] new)), some (.seq d (moreGo new [] old)), none] = some (.seq true (old ++ new), [some (.seq true old), some (.seq true new), some (.seq c (moreGo old [] new)), some (.seq d (moreGo new [] old)), none]) := by
    refine mOp_of (mVar_of rfl) (mVar_of rfl) ?_
    show (if _ then _ else _) = _
    rw [if_pos (by omega)]
  refine runP_of (δ := [some (.seq true old), some (.seq true new), some (.seq c (moreGo old [] new)), some (.seq d (moreGo new [] old)), o]) rfl rfl ?_
  show m_law_balanced [some (.seq true old), some (.seq true new), some (.seq c (moreGo old [] new)), some (.seq d (moreGo new [] old)), none] = _
  unfold m_law_balanced
  exact (sSeq_nx (sFor_of (iSeq_of ad) e)).trans rfl
end Kd
set_option Elab.async false
set_option linter.all false
set_option maxRecDepth 100000
set_option maxHeartbeats 4000000
namespace Kd
open PySem PySem.Spec PyProof.Rows L2 Kw
theorem mCallF_of {mf : List D → Option (List D)} {r : MA} {δ δ1 : DE} {as es : List D} (hr : r δ = some (as, δ1)) (hg : mf as = some es) : mCallF mf r δ = some (.seq true es, δ1) := by
  unfold mCallF
  rw [hr, Option.bind_some]
  show (mf as).map _ = _
  rw [hg]
  rfl
theorem mBor_of {m : M} {δ δ1 : DE} {d : D} (h : m δ = some (d, δ1)) (hl : lfD d = true) : mBor m δ = some (d, δ) := by
  unfold mBor
  rw [h, Option.bind_some, if_pos hl]
theorem sSetO_of {i : Nat} {m : M} {δ δ1 : DE} {d : D} (h : m δ = some (d, δ1)) (hi : i < δ1.length) : sSetO i m δ = some (.nx (δ1.set i (some d))) := by
  unfold sSetO
  rw [h, Option.bind_some, if_pos hi]
abbrev law_rest : MS := (sSeq (sSet 5 (mSeq true (mCons (mCall (seqOfD true) (mCons (mVar 3) mNil)) (mCons (mCall (seqOfD true) (mCons (mVar 4) mNil)) mNil))))
  (sSeq (sSetO 6 (mCallF r_came (mCons (mOp atD (mVar 5) (mC (.int 0))) (mCons (mOp atD (mVar 5) (mC (.int 1))) mNil))))
  (sSeq (sSetO 7 (mCallF r_went (mCons (mOp atD (mVar 5) (mC (.int 0))) (mCons (mOp atD (mVar 5) (mC (.int 1))) mNil))))
  (sSeq (sIf (mOrT (mNotT (mTru (mBor (mCall (r_law_same 4) (mCons (mVar 6) (mCons (mCall r_law_more (mCons (mVar 3) (mCons (mVar 4) mNil))) mNil)))))) (mNotT (mTru (mBor (mCall (r_law_same 4) (mCons (mVar 7) (mCons (mCall r_law_more (mCons (mVar 4) (mCons (mVar 3) mNil))) mNil))))))) (sSeq (sRet (mC (.bl false)))
  sNext) sNext)
  (sSeq (sIf (mNotT (mTru (mBor (mCall r_law_balanced (mCons (mVar 3) (mCons (mVar 4) (mCons (mVar 6) (mCons (mVar 7) mNil)))))))) (sSeq (sRet (mC (.bl false)))
  sNext) sNext)
  (sSeq (sAppO 6 (mSeq false (mCons (mC (.str "spoilt")) mNil)))
  (sSeq (sAppO 7 (mSeq false (mCons (mC (.str "spoilt")) mNil)))
  (sSeq (sIf (mNotT (mTru (mCall (r_law_same 4) (mCons (mVar 5) (mCons (mSeq true (mCons (mVar 3) (mCons (mVar 4) mNil))) mNil))))) (sSeq (sRet (mC (.bl false)))
  sNext) sNext)
  (sSeq (sRet (mAnd (mCall (r_law_same 4) (mCons (mCallF r_came (mCons (mOp atD (mVar 5) (mC (.int 0))) (mCons (mOp atD (mVar 5) (mC (.int 1))) mNil))) (mCons (mCall r_law_more (mCons (mVar 3) (mCons (mVar 4) mNil))) mNil))) (mCall (r_law_same 4) (mCons (mCallF r_went (mCons (mVar 3) (mCons (mVar 4) mNil))) (mCons (mCall r_law_more (mCons (mVar 4) (mCons (mVar 3) mNil))) mNil)))))
  sNext)))))))))
section
variable {o0 o1 o2 o6 o7 o8 : Option D}
theorem rest_ok {old new : List D} (ho : ∀ d ∈ old, RowP d) (hn : ∀ d ∈ new, RowP d) (lo : old.length ≤ 100) (ln : new.length ≤ 100) : ∃ δ, law_rest [o0, o1, o2, some (.seq true old), some (.seq true new), none, o6, o7, o8] = some (.rt (.bl true) δ) := by
  have hm := fun d hd => hn d (more_mem (old := old) (r := new) (seen := []) hd)
  have hf := fun d hd => ho d (more_mem (old := new) (r := old) (seen := []) hd)
  have lm : (moreGo old [] new).length ≤ 100 := Nat.le_trans more_len ln
  have lf : (moreGo new [] old).length ≤ 100 := Nat.le_trans more_len lo
  have m1 : r_law_more [.seq true old, .seq true new] = some (.seq true (moreGo old [] new)) := more_ok (by omega) hn (by omega)
  have m2 : r_law_more [.seq true new, .seq true old] = some (.seq true (moreGo new [] old)) := more_ok (by omega) ho (by omega)
  have c1 : r_came [.seq true old, .seq true new] = some (moreGo old [] new) := came_ok ho hn
  have c2 : r_went [.seq true old, .seq true new] = some (moreGo new [] old) := went_ok ho hn
  have s1 : r_law_same 4 [.seq true (moreGo old [] new), .seq true (moreGo old [] new)] = some (.bl true) := by rw [same_rows hm (by omega), sameD_refl]
  have s2 : r_law_same 4 [.seq true (moreGo new [] old), .seq true (moreGo new [] old)] = some (.bl true) := by rw [same_rows hf (by omega), sameD_refl]
  have s3 : r_law_same 4 [.seq true [.seq true old, .seq true new], .seq true [.seq true old, .seq true new]] = some (.bl true) := by
    rw [same_ok 4 _ _ ?_ ?_, sameD_refl]
    · have r1 := rows_dep ho
      have r2 := rows_dep hn
      rw [dep_seq, depL_cons, depL_cons, depL_nil, dep_seq, dep_seq]
      omega
    · have r1 := rows_big ho
      have r2 := rows_big hn
      show max 2 (max (max old.length (bigD.bigL old)) (max (max new.length (bigD.bigL new)) 0)) ≤ _
      omega
  have bal := balanced_ok (c := true) (d := true) ho hn (by omega) (by omega)
  generalize moreGo old [] new = M at *
  generalize moreGo new [] old = F at *
  let P : D := .seq true [.seq true old, .seq true new]
  have q1 : sSet 5 (mSeq true (mCons (mCall (seqOfD true) (mCons (mVar 3) mNil)) (mCons (mCall (seqOfD true) (mCons (mVar 4) mNil)) mNil))) [o0, o1, o2, some (.seq true old), some (.seq true new), none, o6, o7, o8] = some (.nx [o0, o1, o2, some (.seq true old), some (.seq true new), some P, o6, o7, o8]) :=
    sSet_of (mSeq_of (mCons_of (mCall_of (mCons_of (mVar_of rfl) mNil_of) rfl) (mCons_of (mCall_of (mCons_of (mVar_of rfl) mNil_of) rfl) mNil_of)) (by show 2 ≤ 16000000; decide))
  have ca : ∀ (o6 o7 : Option D), mCons (mOp atD (mVar 5) (mC (.int 0))) (mCons (mOp atD (mVar 5) (mC (.int 1))) mNil) [o0, o1, o2, some (.seq true old), some (.seq true new), some P, o6, o7, o8] = some ([.seq true old, .seq true new], [o0, o1, o2, some (.seq true old), some (.seq true new), some P, o6, o7, o8]) := fun o6 o7 =>
    mCons_of (mOp_of (mVar_of rfl) mC_of rfl) (mCons_of (mOp_of (mVar_of rfl) mC_of rfl) mNil_of)
  have q2 : sSetO 6 (mCallF r_came (mCons (mOp atD (mVar 5) (mC (.int 0))) (mCons (mOp atD (mVar 5) (mC (.int 1))) mNil))) [o0, o1, o2, some (.seq true old), some (.seq true new), some P, o6, o7, o8] = some (.nx [o0, o1, o2, some (.seq true old), some (.seq true new), some P, some (.seq true M), o7, o8]) :=
    sSetO_of (mCallF_of (ca _ _) c1) (by show 6 < 9; decide)
  have q3 : sSetO 7 (mCallF r_went (mCons (mOp atD (mVar 5) (mC (.int 0))) (mCons (mOp atD (mVar 5) (mC (.int 1))) mNil))) [o0, o1, o2, some (.seq true old), some (.seq true new), some P, some (.seq true M), o7, o8] = some (.nx [o0, o1, o2, some (.seq true old), some (.seq true new), some P, some (.seq true M), some (.seq true F), o8]) :=
    sSetO_of (mCallF_of (ca _ _) c2) (by show 7 < 9; decide)
  have t1 : mOrT (mNotT (mTru (mBor (mCall (r_law_same 4) (mCons (mVar 6) (mCons (mCall r_law_more (mCons (mVar 3) (mCons (mVar 4) mNil))) mNil)))))) (mNotT (mTru (mBor (mCall (r_law_same 4) (mCons (mVar 7) (mCons (mCall r_law_more (mCons (mVar 4) (mCons (mVar 3) mNil))) mNil)))))) [o0, o1, o2, some (.seq true old), some (.seq true new), some P, some (.seq true M), some (.seq true F), o8] = some (false, [o0, o1, o2, some (.seq true old), some (.seq true new), some P, some (.seq true M), some (.seq true F), o8]) := by
    have a1 : mNotT (mTru (mBor (mCall (r_law_same 4) (mCons (mVar 6) (mCons (mCall r_law_more (mCons (mVar 3) (mCons (mVar 4) mNil))) mNil))))) [o0, o1, o2, some (.seq true old), some (.seq true new), some P, some (.seq true M), some (.seq true F), o8] = some (!true, [o0, o1, o2, some (.seq true old), some (.seq true new), some P, some (.seq true M), some (.seq true F), o8]) :=
      mNotT_of (mTru_of (mBor_of (mCall_of (mCons_of (mVar_of rfl) (mCons_of (mCall_of (mCons_of (mVar_of rfl) (mCons_of (mVar_of rfl) mNil_of)) m1) mNil_of)) s1) rfl) rfl)
    have a2 : mNotT (mTru (mBor (mCall (r_law_same 4) (mCons (mVar 7) (mCons (mCall r_law_more (mCons (mVar 4) (mCons (mVar 3) mNil))) mNil))))) [o0, o1, o2, some (.seq true old), some (.seq true new), some P, some (.seq true M), some (.seq true F), o8] = some (!true, [o0, o1, o2, some (.seq true old), some (.seq true new), some P, some (.seq true M), some (.seq true F), o8]) :=
      mNotT_of (mTru_of (mBor_of (mCall_of (mCons_of (mVar_of rfl) (mCons_of (mCall_of (mCons_of (mVar_of rfl) (mCons_of (mVar_of rfl) mNil_of)) m2) mNil_of)) s2) rfl) rfl)
    unfold mOrT
    rw [a1, Option.bind_some]
    exact a2
  have t2 : mNotT (mTru (mBor (mCall r_law_balanced (mCons (mVar 3) (mCons (mVar 4) (mCons (mVar 6) (mCons (mVar 7) mNil))))))) [o0, o1, o2, some (.seq true old), some (.seq true new), some P, some (.seq true M), some (.seq true F), o8] = some (!true, [o0, o1, o2, some (.seq true old), some (.seq true new), some P, some (.seq true M), some (.seq true F), o8]) :=
    mNotT_of (mTru_of (mBor_of (mCall_of (mCons_of (mVar_of rfl) (mCons_of (mVar_of rfl) (mCons_of (mVar_of rfl) (mCons_of (mVar_of rfl) mNil_of)))) bal) rfl) rfl)
  have sp : ∀ δ : DE, mSeq false (mCons (mC (.str "spoilt")) mNil) δ = some (.seq false [.str "spoilt"], δ) := fun δ => mSeq_of (mCons_of mC_of mNil_of) (by show 1 ≤ 16000000; decide)
  have q4 : sAppO 6 (mSeq false (mCons (mC (.str "spoilt")) mNil)) [o0, o1, o2, some (.seq true old), some (.seq true new), some P, some (.seq true M), some (.seq true F), o8] = some (.nx [o0, o1, o2, some (.seq true old), some (.seq true new), some P, some (.seq true (M ++ [.seq false [.str "spoilt"]])), some (.seq true F), o8]) := by
    unfold sAppO
    rw [sp, Option.bind_some]
    show (if M.length < 16000000 then _ else _) = _
    rw [if_pos (by omega)]
    rfl
  have q5 : sAppO 7 (mSeq false (mCons (mC (.str "spoilt")) mNil)) [o0, o1, o2, some (.seq true old), some (.seq true new), some P, some (.seq true (M ++ [.seq false [.str "spoilt"]])), some (.seq true F), o8] = some (.nx [o0, o1, o2, some (.seq true old), some (.seq true new), some P, some (.seq true (M ++ [.seq false [.str "spoilt"]])), some (.seq true (F ++ [.seq false [.str "spoilt"]])), o8]) := by
    unfold sAppO
    rw [sp, Option.bind_some]
    show (if F.length < 16000000 then _ else _) = _
    rw [if_pos (by omega)]
    rfl
  generalize M ++ [.seq false [.str "spoilt"]] = M' at *
  generalize F ++ [.seq false [.str "spoilt"]] = F' at *
  have t3 : mNotT (mTru (mCall (r_law_same 4) (mCons (mVar 5) (mCons (mSeq true (mCons (mVar 3) (mCons (mVar 4) mNil))) mNil)))) [o0, o1, o2, some (.seq true old), some (.seq true new), some P, some (.seq true M'), some (.seq true F'), o8] = some (!true, [o0, o1, o2, some (.seq true old), some (.seq true new), some P, some (.seq true M'), some (.seq true F'), o8]) :=
    mNotT_of (mTru_of (mCall_of (mCons_of (mVar_of rfl) (mCons_of (mSeq_of (mCons_of (mVar_of rfl) (mCons_of (mVar_of rfl) mNil_of)) (by show 2 ≤ 16000000; decide)) mNil_of)) s3) rfl)
  have f1 : mCall (r_law_same 4) (mCons (mCallF r_came (mCons (mOp atD (mVar 5) (mC (.int 0))) (mCons (mOp atD (mVar 5) (mC (.int 1))) mNil))) (mCons (mCall r_law_more (mCons (mVar 3) (mCons (mVar 4) mNil))) mNil)) [o0, o1, o2, some (.seq true old), some (.seq true new), some P, some (.seq true M'), some (.seq true F'), o8] = some (.bl true, [o0, o1, o2, some (.seq true old), some (.seq true new), some P, some (.seq true M'), some (.seq true F'), o8]) :=
    mCall_of (mCons_of (mCallF_of (ca _ _) c1) (mCons_of (mCall_of (mCons_of (mVar_of rfl) (mCons_of (mVar_of rfl) mNil_of)) m1) mNil_of)) s1
  have f2 : mCall (r_law_same 4) (mCons (mCallF r_went (mCons (mVar 3) (mCons (mVar 4) mNil))) (mCons (mCall r_law_more (mCons (mVar 4) (mCons (mVar 3) mNil))) mNil)) [o0, o1, o2, some (.seq true old), some (.seq true new), some P, some (.seq true M'), some (.seq true F'), o8] = some (.bl true, [o0, o1, o2, some (.seq true old), some (.seq true new), some P, some (.seq true M'), some (.seq true F'), o8]) :=
    mCall_of (mCons_of (mCallF_of (mCons_of (mVar_of rfl) (mCons_of (mVar_of rfl) mNil_of)) c2) (mCons_of (mCall_of (mCons_of (mVar_of rfl) (mCons_of (mVar_of rfl) mNil_of)) m2) mNil_of)) s2
  have ff : mAnd (mCall (r_law_same 4) (mCons (mCallF r_came (mCons (mOp atD (mVar 5) (mC (.int 0))) (mCons (mOp atD (mVar 5) (mC (.int 1))) mNil))) (mCons (mCall r_law_more (mCons (mVar 3) (mCons (mVar 4) mNil))) mNil))) (mCall (r_law_same 4) (mCons (mCallF r_went (mCons (mVar 3) (mCons (mVar 4) mNil))) (mCons (mCall r_law_more (mCons (mVar 4) (mCons (mVar 3) mNil))) mNil))) [o0, o1, o2, some (.seq true old), some (.seq true new), some P, some (.seq true M'), some (.seq true F'), o8] = some (.bl true, [o0, o1, o2, some (.seq true old), some (.seq true new), some P, some (.seq true M'), some (.seq true F'), o8]) := by
    unfold mAnd
    rw [f1, Option.bind_some]
    exact f2
  refine ⟨[o0, o1, o2, some (.seq true old), some (.seq true new), some P, some (.seq true M'), some (.seq true F'), o8], ?_⟩
  unfold law_rest
  rw [sSeq_nx q1, sSeq_nx q2, sSeq_nx q3, sSeq_nx ((sIf_f t1).trans rfl), sSeq_nx ((sIf_f t2).trans rfl), sSeq_nx q4, sSeq_nx q5, sSeq_nx ((sIf_f t3).trans rfl)]
  exact sSeq_rt (sRet_of ff)
end
theorem law_ok (ns : List Int) (hlen : ns.length ≤ 63) : ∃ δ, m_law (envL 9 1 ns) = some (.rt (.bl true) δ) := by
  have hd := drl_start hlen
  show ∃ δ, m_law [none, some (.seq true [.seq true (ns.map .int), .int 0, .int 0, .int 1]), none, none, none, none, none, none, none] = _
  generalize [D.seq true (ns.map .int), .int 0, .int 0, .int 1] = ds at *
  obtain ⟨_, ds1, e1, ⟨w, rfl, w0, w1⟩, h1⟩ := next_ok (lim := 4) (by decide) (by decide) ds hd
  have q1 : sSet 2 (mCallS 1 r_law_next (mCons (mC (.int 4)) mNil)) [none, some (.seq true ds), none, none, none, none, none, none, none] = some (.nx [none, some (.seq true ds1), some (.int w), none, none, none, none, none, none]) := sSet_of (mCallS_of (mCons_of mC_of mNil_of) rfl e1)
  obtain ⟨_, ds2, e2, ⟨k1, rfl, k10, k11⟩, h2⟩ := next_ok (lim := 10) (by decide) (by decide) ds1 h1
  obtain ⟨old, ds3, e3, lo, ho, h3⟩ := rows_ok (o0 := none) (o3 := none) (o4 := none) (o5 := none) (o6 := none) (o7 := none) w0 w1 (rngD 0 k1.toNat) ds2 h2
  rw [rngD_length] at lo
  have zo : old.length ≤ 16000000 := by omega
  have q2 : sSet 3 (mLc (iRg1 (mCons (mCallS 1 r_law_next (mCons (mC (.int 10)) mNil)) mNil)) [8] (gN 8) mYes (mCallS 1 r_law_drawn_row (mCons (mVar 2) mNil))) [none, some (.seq true ds1), some (.int w), none, none, none, none, none, none] = some (.nx [none, some (.seq true ds3), some (.int w), some (.seq true old), none, none, none, none, none]) :=
    sSet_of (i := 3) (δ1 := [none, some (.seq true ds3), some (.int w), none, none, none, none, none, none]) (mLc_of (iRg1_of (mCons_of (mCallS_of (i := 1) (δ1 := [none, some (.seq true ds1), some (.int w), none, none, none, none, none, none]) (mCons_of mC_of mNil_of) rfl e2) mNil_of) (by omega) (by omega)) e3 zo)
  obtain ⟨_, ds4, e4, ⟨k2, rfl, k20, k21⟩, h4⟩ := next_ok (lim := 10) (by decide) (by decide) ds3 h3
  obtain ⟨new, ds5, e5, ln, hn, h5⟩ := rows_ok (o0 := none) (o3 := some (.seq true old)) (o4 := none) (o5 := none) (o6 := none) (o7 := none) w0 w1 (rngD 0 k2.toNat) ds4 h4
  rw [rngD_length] at ln
  have zn : new.length ≤ 16000000 := by omega
  have q3 : sSet 4 (mLc (iRg1 (mCons (mCallS 1 r_law_next (mCons (mC (.int 10)) mNil)) mNil)) [8] (gN 8) mYes (mCallS 1 r_law_drawn_row (mCons (mVar 2) mNil))) [none, some (.seq true ds3), some (.int w), some (.seq true old), none, none, none, none, none] = some (.nx [none, some (.seq true ds5), some (.int w), some (.seq true old), some (.seq true new), none, none, none, none]) :=
    sSet_of (i := 4) (δ1 := [none, some (.seq true ds5), some (.int w), some (.seq true old), none, none, none, none, none]) (mLc_of (iRg1_of (mCons_of (mCallS_of (i := 1) (δ1 := [none, some (.seq true ds3), some (.int w), some (.seq true old), none, none, none, none, none]) (mCons_of mC_of mNil_of) rfl e4) mNil_of) (by omega) (by omega)) e5 zn)
  obtain ⟨_, ds6, e6, ⟨c, rfl, c0, c1⟩, h6⟩ := next_ok (lim := 2) (by decide) (by decide) ds5 h5
  have t : mTst (mOp (eqO false) (mCallS 1 r_law_next (mCons (mC (.int 2)) mNil)) (mC (.int 1))) [none, some (.seq true ds5), some (.int w), some (.seq true old), some (.seq true new), none, none, none, none] = some (c == 1, [none, some (.seq true ds6), some (.int w), some (.seq true old), some (.seq true new), none, none, none, none]) :=
    mTst_of (mOp_of (mCallS_of (mCons_of mC_of mNil_of) rfl e6) mC_of rfl)
  have fin : ∃ (ds7 : List D) (nw : List D), sIf (mTst (mOp (eqO false) (mCallS 1 r_law_next (mCons (mC (.int 2)) mNil)) (mC (.int 1)))) (sSeq (sSet 4 (mOp addD (mCallS 1 r_law_turned (mCons (mVar 3) mNil)) (mSl (mVar 4) mNoP (mPart (mC (.int 2)))))) sNext) sNext [none, some (.seq true ds5), some (.int w), some (.seq true old), some (.seq true new), none, none, none, none] =
      some (.nx [none, some (.seq true ds7), some (.int w), some (.seq true old), some (.seq true nw), none, none, none, none]) ∧ (∀ d ∈ nw, RowP d) ∧ nw.length ≤ 100 := by
    by_cases z : c = 1
    · have z' : (c == 1) = true := by rw [z]; rfl
      rw [z'] at t
      obtain ⟨_, ds7, e7, ⟨tn, rfl, htn, ltn⟩, h7⟩ := turned_ok (l := true) ho (by omega) ds6 h6
      have cm : ∀ d ∈ Kw.cutD new none (some 2), RowP d := fun d hd => hn d (Kw.cutD_mem hd)
      have cl : (Kw.cutD new none (some 2)).length ≤ new.length := Kw.cutD_len
      refine ⟨ds7, tn ++ Kw.cutD new none (some 2), ?_, fun d hd => ?_, by rw [List.length_append]; omega⟩
      · rw [sIf_t t]
        refine (sSeq_nx (sSet_of (δ1 := [none, some (.seq true ds7), some (.int w), some (.seq true old), some (.seq true new), none, none, none, none]) (mOp_of (mCallS_of (mCons_of (mVar_of rfl) mNil_of) rfl e7) (y := .seq true (Kw.cutD new none (some 2))) ?_ ?_))).trans rfl
        · rfl
        · show (if tn.length + (Kw.cutD new none (some 2)).length ≤ 16000000 then _ else _) = _
          rw [if_pos (by omega)]
      · rcases List.mem_append.mp hd with hd | hd
        · exact htn d hd
        · exact cm d hd
    · have z' : (c == 1) = false := by rw [beq_eq_false_iff_ne]; exact z
      rw [z'] at t
      exact ⟨ds6, new, (sIf_f t).trans rfl, hn, by omega⟩
  obtain ⟨ds7, nw, q4, hnw, lnw⟩ := fin
  obtain ⟨δ, e⟩ := rest_ok (o0 := none) (o1 := some (.seq true ds7)) (o2 := some (.int w)) (o6 := none) (o7 := none) (o8 := none) ho hnw (by omega) lnw
  refine ⟨δ, ?_⟩
  unfold m_law
  rw [sSeq_nx q1, sSeq_nx q2, sSeq_nx q3, sSeq_nx q4]
  exact e
end Kd
set_option Elab.async false
set_option linter.all false
set_option maxRecDepth 100000
set_option maxHeartbeats 4000000
namespace Kd
open PySem PySem.Spec PyProof.Rows L2 Kw
theorem all_mk {P : Program} {w : World} {K : PySem.W.Frag} {h : Heap} {mg : Str → Option Value} {fa : Addr} (X : K.In h) (G : h.Ns mainGlobals mg) (hfa : mg "law" = some (.ref fa))
    {f0 : Addr} {od0 an0 : Option Addr} {sl0 : Array (Option Value)} {oc0 kV0 dc0 pm0 cd0 ct0 : Value}
    {f1 : Addr} {od1 an1 : Option Addr} {sl1 : Array (Option Value)} {oc1 kV1 dc1 pm1 cd1 ct1 : Value}
    {f2 : Addr} {od2 an2 : Option Addr} {sl2 : Array (Option Value)} {oc2 kV2 dc2 pm2 cd2 ct2 : Value}
    {f3 : Addr} {od3 an3 : Option Addr} {sl3 : Array (Option Value)} {oc3 kV3 dc3 pm3 cd3 ct3 : Value}
    {f4 : Addr} {od4 an4 : Option Addr} {sl4 : Array (Option Value)} {oc4 kV4 dc4 pm4 cd4 ct4 : Value}
    {f5 : Addr} {od5 an5 : Option Addr} {sl5 : Array (Option Value)} {oc5 kV5 dc5 pm5 cd5 ct5 : Value}
    {f6 : Addr} {od6 an6 : Option Addr} {sl6 : Array (Option Value)} {oc6 kV6 dc6 pm6 cd6 ct6 : Value}
    {f7 : Addr} {od7 an7 : Option Addr} {sl7 : Array (Option Value)} {oc7 kV7 dc7 pm7 cd7 ct7 : Value}
    {f8 : Addr} {od8 an8 : Option Addr} {sl8 : Array (Option Value)} {oc8 kV8 dc8 pm8 cd8 ct8 : Value}
    {f9 : Addr} {od9 an9 : Option Addr} {sl9 : Array (Option Value)} {oc9 kV9 dc9 pm9 cd9 ct9 : Value}
    {f10 : Addr} {od10 an10 : Option Addr} {sl10 : Array (Option Value)} {oc10 kV10 dc10 pm10 cd10 ct10 : Value}
    {f11 : Addr} {od11 an11 : Option Addr} {sl11 : Array (Option Value)} {oc11 kV11 dc11 pm11 cd11 ct11 : Value}
    {f12 : Addr} {od12 an12 : Option Addr} {sl12 : Array (Option Value)} {oc12 kV12 dc12 pm12 cd12 ct12 : Value}
    {f13 : Addr} {od13 an13 : Option Addr} {sl13 : Array (Option Value)} {oc13 kV13 dc13 pm13 cd13 ct13 : Value}
    
    (a0 : PySem.W.nsIn K mainGlobals "value_key" = some (some (.ref f0))) (l0 : K.lookup f0 = some ⟨oc0, od0, .func (PySem.W.fnOf "value_key" "value_key" (defArgs s_value_key) (defBody s_value_key) (defScope s_value_key) .none kV0 dc0 pm0 an0 cd0 ct0), sl0⟩) (c0 : PySem.W.codeIn K cd0 "value_key" = true) (k0 : PySem.W.keepIn K (.ref f0) = true)
    (a1 : PySem.W.nsIn K mainGlobals "row_key" = some (some (.ref f1))) (l1 : K.lookup f1 = some ⟨oc1, od1, .func (PySem.W.fnOf "row_key" "row_key" (defArgs s_row_key) (defBody s_row_key) (defScope s_row_key) .none kV1 dc1 pm1 an1 cd1 ct1), sl1⟩) (c1 : PySem.W.codeIn K cd1 "row_key" = true) (k1 : PySem.W.keepIn K (.ref f1) = true)
    (a2 : PySem.W.nsIn K mainGlobals "came" = some (some (.ref f2))) (l2 : K.lookup f2 = some ⟨oc2, od2, .func (PySem.W.fnOf "came" "came" (defArgs s_came) (defBody s_came) (defScope s_came) .none kV2 dc2 pm2 an2 cd2 ct2), sl2⟩) (c2 : PySem.W.codeIn K cd2 "came" = true) (k2 : PySem.W.keepIn K (.ref f2) = true)
    (a3 : PySem.W.nsIn K mainGlobals "went" = some (some (.ref f3))) (l3 : K.lookup f3 = some ⟨oc3, od3, .func (PySem.W.fnOf "went" "went" (defArgs s_went) (defBody s_went) (defScope s_went) .none kV3 dc3 pm3 an3 cd3 ct3), sl3⟩) (c3 : PySem.W.codeIn K cd3 "went" = true) (k3 : PySem.W.keepIn K (.ref f3) = true)
    (a4 : PySem.W.nsIn K mainGlobals "_law_next" = some (some (.ref f4))) (l4 : K.lookup f4 = some ⟨oc4, od4, .func (PySem.W.fnOf "_law_next" "_law_next" (defArgs s_law_next) (defBody s_law_next) (defScope s_law_next) .none kV4 dc4 pm4 an4 cd4 ct4), sl4⟩) (c4 : PySem.W.codeIn K cd4 "_law_next" = true) (k4 : PySem.W.keepIn K (.ref f4) = true)
    (a5 : PySem.W.nsIn K mainGlobals "_law_same" = some (some (.ref f5))) (l5 : K.lookup f5 = some ⟨oc5, od5, .func (PySem.W.fnOf "_law_same" "_law_same" (defArgs s_law_same) (defBody s_law_same) (defScope s_law_same) .none kV5 dc5 pm5 an5 cd5 ct5), sl5⟩) (c5 : PySem.W.codeIn K cd5 "_law_same" = true) (k5 : PySem.W.keepIn K (.ref f5) = true)
    (a6 : PySem.W.nsIn K mainGlobals "_law_char" = some (some (.ref f6))) (l6 : K.lookup f6 = some ⟨oc6, od6, .func (PySem.W.fnOf "_law_char" "_law_char" (defArgs s_law_char) (defBody s_law_char) (defScope s_law_char) .none kV6 dc6 pm6 an6 cd6 ct6), sl6⟩) (c6 : PySem.W.codeIn K cd6 "_law_char" = true) (k6 : PySem.W.keepIn K (.ref f6) = true)
    (a7 : PySem.W.nsIn K mainGlobals "_law_value" = some (some (.ref f7))) (l7 : K.lookup f7 = some ⟨oc7, od7, .func (PySem.W.fnOf "_law_value" "_law_value" (defArgs s_law_value) (defBody s_law_value) (defScope s_law_value) .none kV7 dc7 pm7 an7 cd7 ct7), sl7⟩) (c7 : PySem.W.codeIn K cd7 "_law_value" = true) (k7 : PySem.W.keepIn K (.ref f7) = true)
    (a8 : PySem.W.nsIn K mainGlobals "_law_drawn_row" = some (some (.ref f8))) (l8 : K.lookup f8 = some ⟨oc8, od8, .func (PySem.W.fnOf "_law_drawn_row" "_law_drawn_row" (defArgs s_law_drawn_row) (defBody s_law_drawn_row) (defScope s_law_drawn_row) .none kV8 dc8 pm8 an8 cd8 ct8), sl8⟩) (c8 : PySem.W.codeIn K cd8 "_law_drawn_row" = true) (k8 : PySem.W.keepIn K (.ref f8) = true)
    (a9 : PySem.W.nsIn K mainGlobals "_law_count" = some (some (.ref f9))) (l9 : K.lookup f9 = some ⟨oc9, od9, .func (PySem.W.fnOf "_law_count" "_law_count" (defArgs s_law_count) (defBody s_law_count) (defScope s_law_count) .none kV9 dc9 pm9 an9 cd9 ct9), sl9⟩) (c9 : PySem.W.codeIn K cd9 "_law_count" = true) (k9 : PySem.W.keepIn K (.ref f9) = true)
    (a10 : PySem.W.nsIn K mainGlobals "_law_more" = some (some (.ref f10))) (l10 : K.lookup f10 = some ⟨oc10, od10, .func (PySem.W.fnOf "_law_more" "_law_more" (defArgs s_law_more) (defBody s_law_more) (defScope s_law_more) .none kV10 dc10 pm10 an10 cd10 ct10), sl10⟩) (c10 : PySem.W.codeIn K cd10 "_law_more" = true) (k10 : PySem.W.keepIn K (.ref f10) = true)
    (a11 : PySem.W.nsIn K mainGlobals "_law_turned" = some (some (.ref f11))) (l11 : K.lookup f11 = some ⟨oc11, od11, .func (PySem.W.fnOf "_law_turned" "_law_turned" (defArgs s_law_turned) (defBody s_law_turned) (defScope s_law_turned) .none kV11 dc11 pm11 an11 cd11 ct11), sl11⟩) (c11 : PySem.W.codeIn K cd11 "_law_turned" = true) (k11 : PySem.W.keepIn K (.ref f11) = true)
    (a12 : PySem.W.nsIn K mainGlobals "_law_balanced" = some (some (.ref f12))) (l12 : K.lookup f12 = some ⟨oc12, od12, .func (PySem.W.fnOf "_law_balanced" "_law_balanced" (defArgs s_law_balanced) (defBody s_law_balanced) (defScope s_law_balanced) .none kV12 dc12 pm12 an12 cd12 ct12), sl12⟩) (c12 : PySem.W.codeIn K cd12 "_law_balanced" = true) (k12 : PySem.W.keepIn K (.ref f12) = true)
    (a13 : PySem.W.nsIn K mainGlobals "law" = some (some (.ref f13))) (l13 : K.lookup f13 = some ⟨oc13, od13, .func (PySem.W.fnOf "law" "law" (defArgs s_law) (defBody s_law) (defScope s_law) .none kV13 dc13 pm13 an13 cd13 ct13), sl13⟩) (c13 : PySem.W.codeIn K cd13 "law" = true) (k13 : PySem.W.keepIn K (.ref f13) = true)
    (z_bool : PySem.W.nsIn K mainGlobals "bool" = some none)
    (z_int : PySem.W.nsIn K mainGlobals "int" = some none)
    (z_isinstance : PySem.W.nsIn K mainGlobals "isinstance" = some none)
    (z_len : PySem.W.nsIn K mainGlobals "len" = some none)
    (z_list : PySem.W.nsIn K mainGlobals "list" = some none)
    (z_range : PySem.W.nsIn K mainGlobals "range" = some none)
    (z_str : PySem.W.nsIn K mainGlobals "str" = some none)
    (z_tuple : PySem.W.nsIn K mainGlobals "tuple" = some none)
    : ∃ fd : FuncData, (∀ (s : Shared) (v : Value), BindsTo s fd ⟨[v], []⟩ [("script", v)]) ∧ ∀ base : Heap, K.In base → base.Ns mainGlobals mg → FnOk P w K mg base CX0 8 fa fd ["script"] (sp_law K) := by
  have e := hfa.symm.trans (PySem.W.mg_of X G a13)
  cases e
  have F_value_key := fun_mk (st := s_value_key) l0 c0 k0
  have N_value_key : Fn K mg "value_key" s_value_key ["value"] f0 _ := ⟨F_value_key, PySem.W.mg_of X G a0, F_value_key.binds (ps := ["value"]) fun _ _ _ _ _ _ us hl => match us, hl with | [_], _ => rfl⟩
  have F_row_key := fun_mk (st := s_row_key) l1 c1 k1
  have N_row_key : Fn K mg "row_key" s_row_key ["row"] f1 _ := ⟨F_row_key, PySem.W.mg_of X G a1, F_row_key.binds (ps := ["row"]) fun _ _ _ _ _ _ us hl => match us, hl with | [_], _ => rfl⟩
  have F_came := fun_mk (st := s_came) l2 c2 k2
  have N_came : Fn K mg "came" s_came ["old", "new"] f2 _ := ⟨F_came, PySem.W.mg_of X G a2, F_came.binds (ps := ["old", "new"]) fun _ _ _ _ _ _ us hl => match us, hl with | [_, _], _ => rfl⟩
  have F_went := fun_mk (st := s_went) l3 c3 k3
  have N_went : Fn K mg "went" s_went ["old", "new"] f3 _ := ⟨F_went, PySem.W.mg_of X G a3, F_went.binds (ps := ["old", "new"]) fun _ _ _ _ _ _ us hl => match us, hl with | [_, _], _ => rfl⟩
  have F_law_next := fun_mk (st := s_law_next) l4 c4 k4
  have N_law_next : Fn K mg "_law_next" s_law_next ["state", "limit"] f4 _ := ⟨F_law_next, PySem.W.mg_of X G a4, F_law_next.binds (ps := ["state", "limit"]) fun _ _ _ _ _ _ us hl => match us, hl with | [_, _], _ => rfl⟩
  have F_law_same := fun_mk (st := s_law_same) l5 c5 k5
  have N_law_same : Fn K mg "_law_same" s_law_same ["actual", "expected"] f5 _ := ⟨F_law_same, PySem.W.mg_of X G a5, F_law_same.binds (ps := ["actual", "expected"]) fun _ _ _ _ _ _ us hl => match us, hl with | [_, _], _ => rfl⟩
  have F_law_char := fun_mk (st := s_law_char) l6 c6 k6
  have N_law_char : Fn K mg "_law_char" s_law_char ["index"] f6 _ := ⟨F_law_char, PySem.W.mg_of X G a6, F_law_char.binds (ps := ["index"]) fun _ _ _ _ _ _ us hl => match us, hl with | [_], _ => rfl⟩
  have F_law_value := fun_mk (st := s_law_value) l7 c7 k7
  have N_law_value : Fn K mg "_law_value" s_law_value ["state", "kind"] f7 _ := ⟨F_law_value, PySem.W.mg_of X G a7, F_law_value.binds (ps := ["state", "kind"]) fun _ _ _ _ _ _ us hl => match us, hl with | [_, _], _ => rfl⟩
  have F_law_drawn_row := fun_mk (st := s_law_drawn_row) l8 c8 k8
  have N_law_drawn_row : Fn K mg "_law_drawn_row" s_law_drawn_row ["state", "width"] f8 _ := ⟨F_law_drawn_row, PySem.W.mg_of X G a8, F_law_drawn_row.binds (ps := ["state", "width"]) fun _ _ _ _ _ _ us hl => match us, hl with | [_, _], _ => rfl⟩
  have F_law_count := fun_mk (st := s_law_count) l9 c9 k9
  have N_law_count : Fn K mg "_law_count" s_law_count ["row", "rows"] f9 _ := ⟨F_law_count, PySem.W.mg_of X G a9, F_law_count.binds (ps := ["row", "rows"]) fun _ _ _ _ _ _ us hl => match us, hl with | [_, _], _ => rfl⟩
  have F_law_more := fun_mk (st := s_law_more) l10 c10 k10
  have N_law_more : Fn K mg "_law_more" s_law_more ["old", "new"] f10 _ := ⟨F_law_more, PySem.W.mg_of X G a10, F_law_more.binds (ps := ["old", "new"]) fun _ _ _ _ _ _ us hl => match us, hl with | [_, _], _ => rfl⟩
  have F_law_turned := fun_mk (st := s_law_turned) l11 c11 k11
  have N_law_turned : Fn K mg "_law_turned" s_law_turned ["state", "old"] f11 _ := ⟨F_law_turned, PySem.W.mg_of X G a11, F_law_turned.binds (ps := ["state", "old"]) fun _ _ _ _ _ _ us hl => match us, hl with | [_, _], _ => rfl⟩
  have F_law_balanced := fun_mk (st := s_law_balanced) l12 c12 k12
  have N_law_balanced : Fn K mg "_law_balanced" s_law_balanced ["old", "new", "more", "fewer"] f12 _ := ⟨F_law_balanced, PySem.W.mg_of X G a12, F_law_balanced.binds (ps := ["old", "new", "more", "fewer"]) fun _ _ _ _ _ _ us hl => match us, hl with | [_, _, _, _], _ => rfl⟩
  have F_law := fun_mk (st := s_law) l13 c13 k13
  have T : Txt K mg := { n_bool := PySem.W.mg_none_of X G z_bool, n_int := PySem.W.mg_none_of X G z_int, n_isinstance := PySem.W.mg_none_of X G z_isinstance, n_len := PySem.W.mg_none_of X G z_len, n_list := PySem.W.mg_none_of X G z_list, n_range := PySem.W.mg_none_of X G z_range, n_str := PySem.W.mg_none_of X G z_str, n_tuple := PySem.W.mg_none_of X G z_tuple }
  refine ⟨PySem.W.fnOf "law" "law" (defArgs s_law) (defBody s_law) (defScope s_law) .none kV13 dc13 pm13 an13 cd13 ct13, fun s v => .of_eq rfl, fun base _ _ => ?_⟩
  have c_value_key := N_value_key.cal (ok_value_key (P := P) (w := w) (base := base) F_value_key T )
  have c_row_key := N_row_key.cal (ok_row_key (P := P) (w := w) (base := base) F_row_key T (c_value_key))
  have c_came := N_came.cal (ok_came (P := P) (w := w) (base := base) F_came T (c_row_key))
  have c_went := N_went.cal (ok_went (P := P) (w := w) (base := base) F_went T (c_came))
  have c_law_next := N_law_next.cal (ok_law_next (P := P) (w := w) (base := base) F_law_next T )
  have c_law_same := fun n => ok_law_same (P := P) (w := w) (base := base) N_law_same T  n
  have c_law_char := N_law_char.cal (ok_law_char (P := P) (w := w) (base := base) F_law_char T )
  have c_law_value := N_law_value.cal (ok_law_value (P := P) (w := w) (base := base) F_law_value T (c_law_next) (c_law_char))
  have c_law_drawn_row := N_law_drawn_row.cal (ok_law_drawn_row (P := P) (w := w) (base := base) F_law_drawn_row T (c_law_value) (c_law_next))
  have c_law_count := N_law_count.cal (ok_law_count (P := P) (w := w) (base := base) F_law_count T (c_law_same 4))
  have c_law_more := N_law_more.cal (ok_law_more (P := P) (w := w) (base := base) F_law_more T (c_law_count))
  have c_law_turned := N_law_turned.cal (ok_law_turned (P := P) (w := w) (base := base) F_law_turned T (c_law_next))
  have c_law_balanced := N_law_balanced.cal (ok_law_balanced (P := P) (w := w) (base := base) F_law_balanced T (c_law_count))
  exact ok_law F_law T (c_law_next) (c_law_drawn_row) (c_law_turned) (c_came) (c_went) (c_law_same 4) (c_law_more) (c_law_balanced) law_ok
theorem walk {l : PySem.W.OpenLaw} {q : Program} {loose : List Str} {XP : (Str → Option Value) → Heap → Prop} {YP : World → Heap → Prop} {d : DefRec} {K : Params → PySem.W.Frag} (hn : l.most = some 63) (hdf : d.params.defaults = [])
    (hY : ∀ (w : World) (h : Heap), YP w h → (K w.params).In h)
    (F : ∀ (w : World) (mg : Str → Option Value) (fa : Addr) (h : Heap), (K w.params).In h → h.Ns mainGlobals mg → mg d.name = some (.ref fa) →
      ∃ fd : FuncData, (∀ (s : Shared) (u : Value), BindsTo s fd ⟨[u], []⟩ [("script", u)]) ∧ ∀ base : Heap, (K w.params).In base → base.Ns mainGlobals mg → FnOk l.prog w (K w.params) mg base CX0 8 fa fd ["script"] (sp_law (K w.params))) :
    PySem.W.WalkO q loose XP YP l.row.toRowW d [] (fun f vs => PySem.call f vs) :=
  L2.walk_of (n := 63) (k := 8) (x := "script") (CX := fun _ => CX0) (sp := fun w => sp_law (K w.params)) hn (by decide) hdf ⟨rfl, by decide, by decide⟩ hY F (fun _ _ a ns hl _ hS => ⟨a, ns, rfl, hS, hl, fun _ => rfl⟩) fun _ _ _ _ _ z => z
end Kd
open PySem PySem.W PyProof.Rows
set_option maxRecDepth 100000 in
set_option maxHeartbeats 0 in
theorem PySem.Challenge.cw_kithwhole_k38_came_and_went_holds : PySem.Challenge.rw_kithwhole_k38_came_and_went.Holds := by
  w_on; o_law; k_head; (case hw => w_witness2)
  k_fill
  refine Kd.walk (l := PySem.Challenge.rw_kithwhole_k38_came_and_went) rfl rfl (fun w h Y => PySem.W.kIn_of Y) ?F
  case F =>
    intro w mg fa h KX G hmg
    refine' Kd.all_mk KX G hmg ?a0 ?l0 ?c0 ?k0 ?a1 ?l1 ?c1 ?k1 ?a2 ?l2 ?c2 ?k2 ?a3 ?l3 ?c3 ?k3 ?a4 ?l4 ?c4 ?k4 ?a5 ?l5 ?c5 ?k5 ?a6 ?l6 ?c6 ?k6 ?a7 ?l7 ?c7 ?k7 ?a8 ?l8 ?c8 ?k8 ?a9 ?l9 ?c9 ?k9 ?a10 ?l10 ?c10 ?k10 ?a11 ?l11 ?c11 ?k11 ?a12 ?l12 ?c12 ?k12 ?a13 ?l13 ?c13 ?k13 ?z_bool ?z_int ?z_isinstance ?z_len ?z_list ?z_range ?z_str ?z_tuple
    (case a0 => k_is)
    (case l0 => k_is)
    (case c0 => k_is)
    (case k0 => k_is)
    (case a1 => k_is)
    (case l1 => k_is)
    (case c1 => k_is)
    (case k1 => k_is)
    (case a2 => k_is)
    (case l2 => k_is)
    (case c2 => k_is)
    (case k2 => k_is)
    (case a3 => k_is)
    (case l3 => k_is)
    (case c3 => k_is)
    (case k3 => k_is)
    (case a4 => k_is)
    (case l4 => k_is)
    (case c4 => k_is)
    (case k4 => k_is)
    (case a5 => k_is)
    (case l5 => k_is)
    (case c5 => k_is)
    (case k5 => k_is)
    (case a6 => k_is)
    (case l6 => k_is)
    (case c6 => k_is)
    (case k6 => k_is)
    (case a7 => k_is)
    (case l7 => k_is)
    (case c7 => k_is)
    (case k7 => k_is)
    (case a8 => k_is)
    (case l8 => k_is)
    (case c8 => k_is)
    (case k8 => k_is)
    (case a9 => k_is)
    (case l9 => k_is)
    (case c9 => k_is)
    (case k9 => k_is)
    (case a10 => k_is)
    (case l10 => k_is)
    (case c10 => k_is)
    (case k10 => k_is)
    (case a11 => k_is)
    (case l11 => k_is)
    (case c11 => k_is)
    (case k11 => k_is)
    (case a12 => k_is)
    (case l12 => k_is)
    (case c12 => k_is)
    (case k12 => k_is)
    (case a13 => k_is)
    (case l13 => k_is)
    (case c13 => k_is)
    (case k13 => k_is)
    (case z_bool => k_is)
    (case z_int => k_is)
    (case z_isinstance => k_is)
    (case z_len => k_is)
    (case z_list => k_is)
    (case z_range => k_is)
    (case z_str => k_is)
    (case z_tuple => k_is)
#print axioms PySem.Challenge.cw_kithwhole_k38_came_and_went_holds
