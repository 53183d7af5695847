import PyProof.Rows.All
import Wide.All
import OpenK.AllK
import Wide.FinOn
import HandS.ForMost
import HandS.Evl
import HandS.IsInst
import HandS.Conv
import HandS.SortInts
import HandS.Style
import HandS.WordsExc
import HandS.Zip
import PySem.Challenge.RW_fairsplit_k01_worth_of_a_heap
set_option Elab.async false
set_option linter.all false
set_option maxRecDepth 100000
set_option maxHeartbeats 4000000
/-! Fs: what all the proofs share. -/
namespace Fs
open PySem PySem.Spec PyProof.Rows L2 Evl
/-- the built-in names are not the program's own -/
structure Bt (mg : Str → Option Value) : Prop where
  len : mg "len" = none
  range : mg "range" = none
  sum : mg "sum" = none
  isinstance : mg "isinstance" = none
  int : mg "int" = none
  bool : mg "bool" = none
  list : mg "list" = none
  tuple : mg "tuple" = none
  sorted : mg "sorted" = none
  max : mg "max" = none
  min : mg "min" = none
  all : mg "all" = none
  any : mg "any" = none
  zip : mg "zip" = none
  str : mg "str" = none
/-- a def that stands in the text -/
def DnX (K : PySem.W.Frag) (mg : Str → Option Value) (x : Str) (st : Stmt) (ps : List Str) : Prop :=
  ∃ f fd, Fun K x x st f fd ∧ mg x = some (.ref f) ∧ Binds K fd ps []
/-- a def that keeps its promise -/
def Ok (P : Program) (w : World) (K : PySem.W.Frag) (mg : Str → Option Value) (base : Heap) (CX : CXT) (k : Nat) (x : Str) (ps : List Str) (sp : Sp) : Prop :=
  ∃ f fd, FnOk P w K mg base CX k f fd ps sp ∧ mg x = some (.ref f) ∧ PySem.W.keepIn K (.ref f) = true ∧ Binds K fd ps [] ∧ ∃ oc od osl, K.lookup f = some ⟨oc, od, .func fd, osl⟩
section
variable {P : Program} {w : World} {K : PySem.W.Frag} {mg : Str → Option Value} {base : Heap}
theorem ok_of {x : Str} {st : Stmt} {N ps : List Str} {k : Nat} {sp : Sp} (D : DnX K mg x st ps) (S : FnScope N ps (defScope st)) (len : ∀ vs H Q E, sp vs H Q E → vs.length = ps.length)
    (hbody : ∀ (f : Addr) (cdv : Value) (A : Around) (outer : List Env) (s : Shared) (H : Hp) (vs : List V) (Q : VK) (E : XK), Room k (A.deeper (envOfC x (defScope st) s.heap.objs.size f cdv)) → sp vs H Q E →
      ∃ t, PSs (cxOf CX0 P w K mg base N x (defScope st) f cdv A outer s H E).nox (defBody st) t ∧ t { nx := fun _ H' => Q .non H', rt := Q } (start N vs) H) : Ok P w K mg base CX0 (k + 1) x ps sp := by
  obtain ⟨f, fd, F, g, b⟩ := D
  have F0 := F
  obtain ⟨oc, od, _, _, _, _, _, _, osl, _, lk, _⟩ := F0.ex
  exact ⟨f, fd, F.ok S len fun cdv A outer s H vs Q E hr h => hbody f cdv A outer s H vs Q E hr h, g, F.kp, b, oc, od, osl, lk⟩
theorem Ok.mono {CX : CXT} {j k : Nat} {x : Str} {ps : List Str} {sp : Sp} (h : Ok P w K mg base CX j x ps sp) (l : j ≤ k) : Ok P w K mg base CX k x ps sp := by
  obtain ⟨f, fd, F, g, b⟩ := h
  exact ⟨f, fd, F.mono l, g, b⟩
end
/-- a module's constant -/
def KInt (mg : Str → Option Value) (x : Str) (i : Int) : Prop := ∃ t, mg x = some (.int i t)
/-- the law's own def, as the head wants it -/
theorem ok_fn {P : Program} {w : World} {K : PySem.W.Frag} {mg : Str → Option Value} {base : Heap} {CX : CXT} {k : Nat} {x : Str} {st : Stmt} {ps : List Str} {sp : Sp} {f : Addr} {fd : FuncData} (F : Fun K x x st f fd) (g : mg x = some (.ref f)) (h : Ok P w K mg base CX k x ps sp) :
    FnOk P w K mg base CX k f fd ps sp := by
  obtain ⟨f2, fd2, F2, g2, _, _, oc2, od2, osl2, lk2⟩ := h
  cases g.symm.trans g2
  obtain ⟨oc, od, _, _, _, _, _, _, osl, _, lk, _⟩ := F.ex
  cases lk.symm.trans lk2
  exact F2
section
variable {X : Cx}
theorem pe_const {x : Str} {i : Int} {pos : Pos} (hg : Gl X x) (h : KInt X.mg x i) (hd : (x == ("__debug__" : Str)) = false := by decide) : PE X (.Name x pos) (tC (.int i)) := by
  obtain ⟨t, hm⟩ := h
  exact pe_glob hg hm ⟨t, rfl⟩ hd
theorem pe_ok {CX : CXT} {k : Nat} {x : Str} {ps : List Str} {sp : Sp} {E : XK} {e : Expr} {es : List Expr} {t : TA} {p pos : Pos} (h : Ok X.prog X.w X.K X.mg X.base CX k x ps sp) (hr : Room k X.A) (hg : Gl X x) (hx : Passes CX X E) (ha : PA X (e :: es) t)
    (hdb : (x == ("__debug__" : Str)) = false := by decide) (he : starEach (e :: es) X.env = (false, eval e X.env) :: starEach es X.env := by rfl) (hpl : (backTo pos (starEach es X.env)).any (·.1) = false := by rfl) :
    PE X (.Call (.Name x p) (e :: es) [] pos) (tCall sp [] E t) := by
  obtain ⟨f, fd, F, hm, hk, hb, _⟩ := h
  exact pe_call F hr hg hm hk hb .nil hx ha hdb he hpl
end
section
variable {X : Cx} {K : PySem.W.Frag}
theorem ixL (hK : X.K = K := by rfl) : IxR X (rIxL K) := by
  subst hK
  exact ix_list
theorem ixT (hK : X.K = K := by rfl) : IxR X (rIxT K) := by
  subst hK
  exact ix_tup
theorem lenK (hK : X.K = K := by rfl) : CallR X (.builtin "len") (rLenS K) := by
  subst hK
  exact call_len_seq
theorem listK (hK : X.K = K := by rfl) : CallR X (.type "list") (rListS K) := by
  subst hK
  exact call_list_of
theorem isiK (hK : X.K = K := by rfl) : CallR X (.builtin "isinstance") (rIsi K) := by
  subst hK
  exact call_isi
theorem sumK (hc : X.calm = true) (hK : X.K = K := by rfl) : CallR X (.builtin "sum") (rSum K) := by
  subst hK
  exact cr_sum hc
theorem allK (hc : X.calm = true) (hK : X.K = K := by rfl) : CallR X (.builtin "all") (rAll K) := by
  subst hK
  exact cr_all hc
theorem anyK (hc : X.calm = true) (hK : X.K = K := by rfl) : CallR X (.builtin "any") (rAny K) := by
  subst hK
  exact cr_any hc
theorem maxK (hc : X.calm = true) (hK : X.K = K := by rfl) : CallR X (.builtin "max") (rMax K) := by
  subst hK
  exact cr_max hc
theorem minK (hc : X.calm = true) (hK : X.K = K := by rfl) : CallR X (.builtin "min") (rMin K) := by
  subst hK
  exact cr_min hc
theorem sortedK (hK : X.K = K := by rfl) : CallR X (.builtin "sorted") (rSortedI K) := by
  subst hK
  exact cr_sortedI
theorem slK (hK : X.K = K := by rfl) : SlR X (rSlL K) := by
  subst hK
  exact sl_list
theorem eqK (hu : X.A.units + 64 < cLine) (hK : X.K = K := by rfl) : OpR X (compareOp .Eq) (rEqD K) := by
  subst hK
  exact op_eqD hu
theorem neK (hu : X.A.units + 64 < cLine) (hK : X.K = K := by rfl) : OpR X (compareOp .NotEq) (rNeD K) := by
  subst hK
  exact op_neD hu
theorem inK (hK : X.K = K := by rfl) : OpR X (compareOp .In) (rIn K false) := by
  subst hK
  exact op_in_seq
theorem notInK (hK : X.K = K := by rfl) : OpR X (compareOp .NotIn) (rIn K true) := by
  subst hK
  exact op_notIn_seq
theorem indexK (hK : X.K = K := by rfl) : MtR X "list.index" (rIndex K) := by
  subst hK
  exact mt_index
theorem pi_listK {tg l : Expr} {tl : TE} (hl : PE X l tl) (hK : X.K = K := by rfl) : PI X tg l (iList K tl) := by
  subst hK
  exact pi_list hl
theorem pi_tupK {tg l : Expr} {tl : TE} (hl : PE X l tl) (hK : X.K = K := by rfl) : PI X tg l (iTup K tl) := by
  subst hK
  exact pi_tup hl
theorem pe_revK {e : Expr} {te : TE} {k : Nat} {p1 p2 p3 pos : Pos} (he : PE X e te) (hK : X.K = K := by rfl) : PE X (.Subscript e (.Slice none none (some (.UnaryOp .USub (.Constant (.int 1) k p1) p2)) p3) pos) (tRevL K te) := by
  subst hK
  exact pe_revL he
end
/-! promises by the number of arguments -/
abbrev sp1 (R : V → Hp → VK → Prop) : Sp := fun vs H Q _ => ∃ x, vs = [x] ∧ R x H Q
abbrev sp2 (R : V → V → Hp → VK → Prop) : Sp := fun vs H Q _ => ∃ x y, vs = [x, y] ∧ R x y H Q
abbrev sp3 (R : V → V → V → Hp → VK → Prop) : Sp := fun vs H Q _ => ∃ x y z, vs = [x, y, z] ∧ R x y z H Q
abbrev sp4 (R : V → V → V → V → Hp → VK → Prop) : Sp := fun vs H Q _ => ∃ x y z u, vs = [x, y, z, u] ∧ R x y z u H Q
abbrev sp5 (R : V → V → V → V → V → Hp → VK → Prop) : Sp := fun vs H Q _ => ∃ x y z u v, vs = [x, y, z, u, v] ∧ R x y z u v H Q
theorem len1 {R : V → Hp → VK → Prop} {vs : List V} {H : Hp} {Q : VK} {E : XK} (h : sp1 R vs H Q E) : vs.length = 1 := by
  obtain ⟨_, rfl, _⟩ := h
  rfl
theorem len2 {R : V → V → Hp → VK → Prop} {vs : List V} {H : Hp} {Q : VK} {E : XK} (h : sp2 R vs H Q E) : vs.length = 2 := by
  obtain ⟨_, _, rfl, _⟩ := h
  rfl
theorem len3 {R : V → V → V → Hp → VK → Prop} {vs : List V} {H : Hp} {Q : VK} {E : XK} (h : sp3 R vs H Q E) : vs.length = 3 := by
  obtain ⟨_, _, _, rfl, _⟩ := h
  rfl
theorem len4 {R : V → V → V → V → Hp → VK → Prop} {vs : List V} {H : Hp} {Q : VK} {E : XK} (h : sp4 R vs H Q E) : vs.length = 4 := by
  obtain ⟨_, _, _, _, rfl, _⟩ := h
  rfl
theorem len5 {R : V → V → V → V → V → Hp → VK → Prop} {vs : List V} {H : Hp} {Q : VK} {E : XK} (h : sp5 R vs H Q E) : vs.length = 5 := by
  obtain ⟨_, _, _, _, _, rfl, _⟩ := h
  rfl

/-! ### values that may stand in a list: what isinstance and == know of them -/
section
variable {K : PySem.W.Frag} {H H' : Hp}
inductive Any (H : Hp) : V → Prop
  | int (i : Int) : Any H (.int i)
  | bl (b : Bool) : Any H (.bl b)
  | str (x : Str) : Any H (.str x)
  | non : Any H .non
  | lst {a : Addr} {xs : List V} (h : H a = some (.lst xs)) : Any H (.ref a)
  | tup {a : Addr} {xs : List V} (h : H a = some (.tup xs)) : Any H (.ref a)
theorem Any.mono {x : V} (e : Ex H H') (h : Any H x) : Any H' x := by
  cases h with
  | int i => exact .int i
  | bl b => exact .bl b
  | str x => exact .str x
  | non => exact .non
  | lst h => exact .lst (e _ _ h)
  | tup h => exact .tup (e _ _ h)
def isInt : V → Bool
  | .int _ => true
  | _ => false
/-- isinstance(x, int) and not isinstance(x, bool) -/
def spWhole : Sp := sp1 fun x H Q => Any H x ∧ Q (.bl (isInt x)) H
end
/-! ### lists of ints -/
theorem at_ints {ns : List Int} {i : Int} (h0 : 0 ≤ i) (h1 : i < ns.length) : atI (ns.map V.int) i = some (.int (ns.getD i.toNat 0)) := by
  obtain ⟨j, rfl⟩ := Int.eq_ofNat_of_zero_le h0
  have hj : j < ns.length := by omega
  refine atI_nat ?_
  rw [List.getElem?_map, List.getElem?_eq_getElem hj]
  simp [List.getD_eq_getElem?_getD, hj]
theorem get_ints {ns : List Int} {i : Nat} {x : V} (h : (ns.map V.int)[i]? = some x) : ∃ hi : i < ns.length, x = .int ns[i] := by
  rw [List.getElem?_map] at h
  cases e : ns[i]? with
  | none =>
    rw [e] at h
    cases h
  | some y =>
    rw [e] at h
    obtain ⟨hi, e2⟩ := List.getElem?_eq_some_iff.mp e
    exact ⟨hi, by rw [e2]; exact (Option.some.inj h).symm⟩

/-- isinstance(x, int) and not isinstance(x, bool), the name in slot 0 -/
theorem rd_whole {K : PySem.W.Frag} {x : V} {H : Hp} {Q : VK} {ti : TE} (ha : Any H x) (q : Q (.bl (isInt x)) H) (hx : ∀ Q : VK, Q x H → ti [some x] H Q) :
    tAndV (tCB (rIsi K) (tCons ti (tCons (tC (.ty "int")) tNil))) (tNotV (tCB (rIsi K) (tCons ti (tCons (tC (.ty "bool")) tNil)))) [some x] H Q := by
  have key : ∀ (n : String) (b1 b2 : Bool), TyX K H x (.type n) → kitB n "int" = some b1 → kitB n "bool" = some b2 → (b1 && !b2) = isInt x →
      tAndV (tCB (rIsi K) (tCons ti (tCons (tC (.ty "int")) tNil))) (tNotV (tCB (rIsi K) (tCons ti (tCons (tC (.ty "bool")) tNil)))) [some x] H Q := by
    intro n b1 b2 ty k1 k2 e
    refine hx _ ?_
    refine ⟨x, .ty "int", _, _, b1, rfl, .ty _, ty, kit_ty k1, b1, rfl, ?_⟩
    cases b1 with
    | true =>
      refine iteT ?_
      refine hx _ ?_
      refine ⟨x, .ty "bool", _, _, b2, rfl, .ty _, ty, kit_ty k2, b2, rfl, ?_⟩
      rw [← e] at q
      exact q
    | false =>
      refine iteF ?_
      rw [← e] at q
      exact q
  cases ha with
  | int i => exact key "int" true false (.base (.int i)) (by decide +kernel) (by decide +kernel) rfl
  | bl b => exact key "bool" true true (.base (.bl b)) (by decide +kernel) (by decide +kernel) rfl
  | str z => exact key "str" false false (.base (.str z)) (by decide +kernel) (by decide +kernel) rfl
  | non => exact key "NoneType" false false (.base .non) (by decide +kernel) (by decide +kernel) rfl
  | lst h => exact key "list" false false (.base (.lst h)) (by decide +kernel) (by decide +kernel) rfl
  | tup h => exact key "tuple" false false (.base (.tup h)) (by decide +kernel) (by decide +kernel) rfl

theorem mulR {i j : Int} (h : -(2 ^ 64) < j ∧ j < 2 ^ 64) : CMul i j := .inr h
theorem mulL {i j : Int} (h : -(2 ^ 64) < i ∧ i < 2 ^ 64) : CMul i j := .inl h
/-! ### comprehensions over a list told by its data -/
theorem given_by {α : Type} (xs : List α) (d : α) (p : α → Bool) (g : α → V) : given xs.length (fun i => p (xs.getD i d)) (fun i => g (xs.getD i d)) = (xs.filter p).map g := by
  have e : (List.range xs.length).map (fun i => xs.getD i d) = xs := by
    refine List.ext_getElem (by simp) fun i h1 h2 => ?_
    simp [List.getD_eq_getElem?_getD, h2]
  have h : (xs.filter p).map g = (((List.range xs.length).map (fun i => xs.getD i d)).filter p).map g := by rw [e]
  rw [h, List.filter_map, List.map_map]
  rfl
theorem given_all {α : Type} (xs : List α) (d : α) (g : α → V) : given xs.length (fun _ => true) (fun i => g (xs.getD i d)) = xs.map g := by
  rw [given_by xs d (fun _ => true) g, List.filter_eq_self.mpr (fun _ _ => rfl)]
theorem given_rng (n : Nat) (p : Nat → Bool) (g : Nat → V) : given n p g = ((List.range n).filter p).map g := rfl
theorem given_rngA (n : Nat) (g : Nat → V) : given n (fun _ => true) g = (List.range n).map g := by
  unfold given
  rw [List.filter_eq_self.mpr (fun _ _ => rfl)]
section
variable {K : PySem.W.Frag} {σ : L2.St} {H H' : Hp} {te tl : TE} {t : TT} {a : Addr} {j : Nat} {vs : List Nat}
theorem el_by {α : Type} [Inhabited α] {xs : List α} {enc : α → V} (p : α → Bool) (g : α → V) (h : Ev tl σ H (.ref a)) (hx : SqL K H a (xs.map enc)) (hz : xs.length ≤ 40000) (hw : ∀ x, wipe ((wipe σ vs).set j (some x)) vs = wipe σ vs)
    (ht : ∀ x ∈ xs, ∀ H1, Ex H H1 → EvT t ((wipe σ vs).set j (some (enc x))) H1 (p x)) (he : ∀ x ∈ xs, ∀ H1, Ex H H1 → p x = true → Ev te ((wipe σ vs).set j (some (enc x))) H1 (g x)) :
    EvL (tLc (iList K tl) (gName j) t te vs) σ H ((xs.filter p).map g) := by
  have key : ∀ (i : Nat) (x : V), (xs.map enc)[i]? = some x → x = enc (xs.getD i default) ∧ xs.getD i default ∈ xs := by
    intro i x hi
    rw [List.getElem?_map] at hi
    cases e : xs[i]? with
    | none =>
      rw [e] at hi
      cases hi
    | some y =>
      rw [e] at hi
      have ey : xs.getD i default = y := by simp [List.getD_eq_getElem?_getD, e]
      rw [ey]
      exact ⟨(Option.some.inj hi).symm, List.mem_of_getElem? e⟩
  have L := el_lcL (t := t) (te := te) (j := j) (vs := vs) (fun i => p (xs.getD i default)) (fun i => g (xs.getD i default)) h hx (by rw [List.length_map]; exact hz) hw
    (fun i x H1 e1 hi => by
      obtain ⟨e, m⟩ := key i x hi
      rw [e]
      exact ht _ m H1 e1)
    (fun i x H1 e1 hi hp => by
      obtain ⟨e, m⟩ := key i x hi
      rw [e]
      exact he _ m H1 e1 hp)
  rw [List.length_map, given_by] at L
  exact L
theorem et_yes : EvT tYes σ H true := fun H1 _ _ q => q H1 (Ex.refl H1)
theorem el_all {α : Type} [Inhabited α] {xs : List α} {enc : α → V} (g : α → V) (h : Ev tl σ H (.ref a)) (hx : SqL K H a (xs.map enc)) (hz : xs.length ≤ 40000) (hw : ∀ x, wipe ((wipe σ vs).set j (some x)) vs = wipe σ vs)
    (he : ∀ x ∈ xs, ∀ H1, Ex H H1 → Ev te ((wipe σ vs).set j (some (enc x))) H1 (g x)) :
    EvL (tLc (iList K tl) (gName j) tYes te vs) σ H (xs.map g) := by
  have L := el_by (t := tYes) (te := te) (j := j) (vs := vs) (fun _ => true) g h hx hz hw (fun _ _ _ _ => et_yes) (fun x m H1 e1 _ => he x m H1 e1)
  rw [List.filter_eq_self.mpr (fun _ _ => rfl)] at L
  exact L
end
section
variable {K : PySem.W.Frag} {σ : L2.St} {H H' : Hp} {te tl : TE} {t : TT} {a : Addr} {j : Nat} {vs : List Nat} {Q : VK}
/-- [te for x in xs if t], then Q of the new list -/
theorem go_by {α : Type} [Inhabited α] {xs : List α} {enc : α → V} (p : α → Bool) (g : α → V) (h : Ev tl σ H (.ref a)) (hx : SqL K H a (xs.map enc)) (hz : xs.length ≤ 40000) (hw : ∀ x, wipe ((wipe σ vs).set j (some x)) vs = wipe σ vs)
    (ht : ∀ x ∈ xs, ∀ H1, Ex H H1 → EvT t ((wipe σ vs).set j (some (enc x))) H1 (p x)) (he : ∀ x ∈ xs, ∀ H1, Ex H H1 → p x = true → Ev te ((wipe σ vs).set j (some (enc x))) H1 (g x))
    (q : RetL ((xs.filter p).map g) H Q) : tLc (iList K tl) (gName j) t te vs σ H Q := el_by p g h hx hz hw ht he H (Ex.refl H) Q fun p H2 hp e h2 => q p H2 hp e h2
theorem go_all {α : Type} [Inhabited α] {xs : List α} {enc : α → V} (g : α → V) (h : Ev tl σ H (.ref a)) (hx : SqL K H a (xs.map enc)) (hz : xs.length ≤ 40000) (hw : ∀ x, wipe ((wipe σ vs).set j (some x)) vs = wipe σ vs)
    (he : ∀ x ∈ xs, ∀ H1, Ex H H1 → Ev te ((wipe σ vs).set j (some (enc x))) H1 (g x))
    (q : RetL (xs.map g) H Q) : tLc (iList K tl) (gName j) tYes te vs σ H Q := el_all g h hx hz hw he H (Ex.refl H) Q fun p H2 hp e h2 => q p H2 hp e h2
end
section
variable {K : PySem.W.Frag} {σ : L2.St} {H : Hp} {ta tb te tl : TE} {t u : TT} {tu tw : TS} {D : Ends} {Q : VK} {QA : List V → Hp → Prop} {QB : Bool → Hp → Prop} {r : List V → Hp → VK → Prop} {rr : R2} {ts : TA}
theorem g_ret (h : te σ H D.rt) : tRet te D σ H := h
theorem g_cb (h : ts σ H fun vs H1 => r vs H1 Q) : tCB r ts σ H Q := h
theorem g_cons (h : te σ H fun x H1 => ts σ H1 fun xs H2 => QA (x :: xs) H2) : tCons te ts σ H QA := h
theorem g_nil (h : QA [] H) : tNil σ H QA := h
theorem g_cb1 (h : te σ H fun x H1 => r [x] H1 Q) : tCB r (tCons te tNil) σ H Q := h
theorem g_op (h : ta σ H fun x H1 => tb σ H1 fun y H2 => rr x y H2 Q) : tOp rr ta tb σ H Q := h
theorem g_seq (h : tu { D with nx := tw D } σ H) : tSeq tu tw D σ H := h
theorem g_set {i : Nat} (h : te σ H fun x H1 => D.nx (σ.set i (some x)) H1) : tAsg te (gName i) D σ H := h
theorem g_drop (h : te σ H fun _ H1 => D.nx σ H1) : tDrop te D σ H := h
theorem g_test (h : te σ H fun x H1 => ∃ k, x = .bl k ∧ QB k H1) : tTest te σ H QB := h
theorem g_call {sp : Sp} {dvs : List V} {E : XK} (h : ts σ H fun vs H1 => sp (vs ++ dvs) H1 Q E) : tCall sp dvs E ts σ H Q := h
end
/-! ### data that == compares -/
structure EncOk {α : Type} [DecidableEq α] (f : α → PyData) (n : Nat) : Prop where
  eq : ∀ x y, PyData.eqv (f x) (f y) = decide (x = y)
  lay : ∀ x, PyData.canLay0 (f x) = true
  dep : ∀ x, PyData.depth (f x) ≤ n
theorem EncOk.shaped {α : Type} [DecidableEq α] {f : α → PyData} {n : Nat} (h : EncOk f n) (hn : n ≤ 64) (x : α) : SeqAt.shaped (f x) = true := by
  unfold SeqAt.shaped
  rw [h.lay x]
  exact decide_eq_true (Nat.le_trans (h.dep x) hn)
theorem encInt : EncOk PyData.int 0 where
  eq := fun x y => by
    simp only [PyData.eqv]
    by_cases h : x = y
    · rw [h, decide_eq_true rfl, beq_self_eq_true]
    · rw [decide_eq_false h]
      exact beq_eq_false_iff_ne.mpr h
  lay := fun x => by simp only [PyData.canLay0]
  dep := fun x => by simp [PyData.depth]
section
variable {α β : Type} [DecidableEq α] [DecidableEq β] {f : α → PyData} {g : β → PyData} {n m : Nat}
theorem eqvAll_map (h : EncOk f n) : ∀ xs ys : List α, PyData.eqvAll (xs.map f) (ys.map f) = decide (xs = ys)
  | [], [] => by simp [PyData.eqvAll]
  | [], y :: ys => by simp [PyData.eqvAll]
  | x :: xs, [] => by simp [PyData.eqvAll]
  | x :: xs, y :: ys => by
    simp only [List.map_cons, PyData.eqvAll]
    rw [h.eq, eqvAll_map h xs ys]
    by_cases e : x = y
    · by_cases e2 : xs = ys
      · simp [e, e2]
      · simp [e, e2]
    · simp [e]
theorem canLayAll_map (h : EncOk f n) : ∀ xs : List α, PyData.canLayAll0 (xs.map f) = true
  | [] => by simp [PyData.canLayAll0]
  | x :: xs => by
    simp only [List.map_cons, PyData.canLayAll0]
    rw [h.lay, canLayAll_map h xs]
    rfl
theorem depthAll_map (h : EncOk f n) : ∀ xs : List α, PyData.depthAll (xs.map f) ≤ n
  | [] => by simp [PyData.depthAll]
  | x :: xs => by
    simp only [List.map_cons, PyData.depthAll]
    have h1 := h.dep x
    have h2 := depthAll_map h xs
    omega
theorem encList (h : EncOk f n) : EncOk (fun xs : List α => PyData.list (xs.map f)) (n + 1) where
  eq := fun x y => by
    simp only [PyData.eqv]
    exact eqvAll_map h x y
  lay := fun x => by
    simp only [PyData.canLay0]
    exact canLayAll_map h x
  dep := fun x => by
    simp only [PyData.depth]
    have := depthAll_map h x
    omega
theorem encPair (h : EncOk f n) (k : EncOk g m) : EncOk (fun p : α × β => PyData.tuple [f p.1, g p.2]) (n + m + 1) where
  eq := fun x y => by
    simp only [PyData.eqv, PyData.eqvAll]
    rw [h.eq, k.eq]
    cases x with
    | mk x1 x2 =>
      cases y with
      | mk y1 y2 =>
        by_cases e : x1 = y1
        · by_cases e2 : x2 = y2
          · simp [e, e2]
          · simp [e, e2]
        · simp [e]
  lay := fun x => by
    simp only [PyData.canLay0, PyData.canLayAll0]
    rw [h.lay, k.lay]
    rfl
  dep := fun x => by
    simp only [PyData.depth, PyData.depthAll]
    have h1 := h.dep x.1
    have h2 := k.dep x.2
    omega
end
abbrev dI (ns : List Int) : PyData := .list (ns.map PyData.int)
abbrev dII (rows : List (List Int)) : PyData := .list (rows.map dI)
theorem encI : EncOk dI 1 := encList encInt
theorem encII : EncOk dII 2 := encList encI
section
variable {K : PySem.W.Frag} {H H' : Hp}
mutual
theorem dp_mono (e : Ex H H') : ∀ {v : V} {d : PyData}, Dp K H v d → Dp K H' v d
  | _, _, .non => .non
  | _, _, .bl b => .bl b
  | _, _, .int i => .int i
  | _, _, .str x => .str x
  | _, _, .lst h a => .lst (ex_l e h) (dpAll_mono e a)
  | _, _, .tup h a => .tup (ex_t e h) (dpAll_mono e a)
theorem dpAll_mono (e : Ex H H') : ∀ {vs : List V} {ds : List PyData}, DpAll K H vs ds → DpAll K H' vs ds
  | _, _, .nil => .nil
  | _, _, .cons h a => .cons (dp_mono e h) (dpAll_mono e a)
end
theorem dpAll_ints : ∀ ns : List Int, DpAll K H (ns.map V.int) (ns.map PyData.int)
  | [] => .nil
  | n :: ns => .cons (.int n) (dpAll_ints ns)
theorem dp_ints {a : Addr} {ns : List Int} (h : SqL K H a (ns.map V.int)) : Dp K H (.ref a) (dI ns) := .lst h (dpAll_ints ns)
variable {α : Type} [DecidableEq α] {f : α → PyData} {n : Nat} {x y : α} {v w : V}
/-- v == w, v != w of data -/
theorem rv_eqD (F : EncOk f n) (hn : n ≤ 64) (h1 : Dp K H v (f x)) (h2 : Dp K H w (f y)) : RV (rEqD K) v w H (.bl (decide (x = y))) := fun H1 e Q q =>
  ⟨f x, f y, dp_mono e h1, dp_mono e h2, F.shaped hn x, F.shaped hn y, by rw [F.eq]; exact q H1 (Ex.refl H1)⟩
theorem rv_neD (F : EncOk f n) (hn : n ≤ 64) (h1 : Dp K H v (f x)) (h2 : Dp K H w (f y)) : RV (rNeD K) v w H (.bl (!decide (x = y))) := fun H1 e Q q =>
  ⟨f x, f y, dp_mono e h1, dp_mono e h2, F.shaped hn x, F.shaped hn y, by rw [F.eq]; exact q H1 (Ex.refl H1)⟩
theorem rv_neS (F : EncOk f n) (hn : n ≤ 64) (h1 : Dp K H v (f x)) (h2 : Dp K H w (f x)) : RV (rNeD K) v w H (.bl false) := by
  have h := rv_neD F hn h1 h2
  rw [decide_eq_true rfl] at h
  exact h
theorem rv_eqS (F : EncOk f n) (hn : n ≤ 64) (h1 : Dp K H v (f x)) (h2 : Dp K H w (f x)) : RV (rEqD K) v w H (.bl true) := by
  have h := rv_eqD F hn h1 h2
  rw [decide_eq_true rfl] at h
  exact h
end
section
variable {K : PySem.W.Frag} {σ : L2.St} {H : Hp} {te : TE} {ta : TA} {j : Nat} {vs : List Nat} {t : TT}
/-- [te for j in range(n)], with a test -/
theorem el_rng {n : Nat} (p : Nat → Bool) (v : Nat → V) (h : EvA ta σ H [.int (n : Int)]) (hn : n ≤ 40000) (hw : ∀ x, wipe ((wipe σ vs).set j (some x)) vs = wipe σ vs)
    (ht : ∀ (i : Nat) H1, Ex H H1 → i < n → EvT t ((wipe σ vs).set j (some (.int (i : Int)))) H1 (p i)) (he : ∀ (i : Nat) H1, Ex H H1 → i < n → p i = true → Ev te ((wipe σ vs).set j (some (.int (i : Int)))) H1 (v i)) :
    EvL (tLc (iRng1 ta) (gName j) t te vs) σ H (((List.range n).filter p).map v) := by
  have L := el_lcR1 (t := t) (te := te) (j := j) (vs := vs) (n := (n : Int)) p v h ⟨by omega, by omega⟩ hw (fun i H1 e hi => ht i H1 e (by omega)) (fun i H1 e hi hp => he i H1 e (by omega) hp)
  rw [Int.toNat_natCast] at L
  exact L
theorem el_rngA {n : Nat} (v : Nat → V) (h : EvA ta σ H [.int (n : Int)]) (hn : n ≤ 40000) (hw : ∀ x, wipe ((wipe σ vs).set j (some x)) vs = wipe σ vs)
    (he : ∀ (i : Nat) H1, Ex H H1 → i < n → Ev te ((wipe σ vs).set j (some (.int (i : Int)))) H1 (v i)) :
    EvL (tLc (iRng1 ta) (gName j) tYes te vs) σ H ((List.range n).map v) := by
  have L := el_rng (t := tYes) (te := te) (j := j) (vs := vs) (fun _ => true) v h hn hw (fun _ _ _ _ => et_yes) (fun i H1 e hi _ => he i H1 e hi)
  rw [List.filter_eq_self.mpr (fun _ _ => rfl)] at L
  exact L
end
theorem getD_at {ns : List Int} {i : Nat} (h : i < ns.length) (d : Int) : ns.getD i d = ns[i] := by simp [List.getD_eq_getElem?_getD, h]
/-- what a heap is worth: the bids for its goods -/
def worthM (row heap : List Int) : Int := (heap.map fun g => row.getD g.toNat 0).sum
/-- only numbers of goods stand in the heap -/
def Inside (n : Nat) (heap : List Int) : Prop := ∀ g ∈ heap, 0 ≤ g ∧ g < (n : Int)
theorem worthM_take {row heap : List Int} {i : Nat} (h : i < heap.length) : worthM row (heap.take (i + 1)) = worthM row (heap.take i) + row.getD heap[i].toNat 0 := by
  unfold worthM
  rw [List.take_add_one, List.getElem?_eq_getElem h, List.map_append, List.sum_append]
  simp
end Fs

namespace Fk01
open PySem PySem.Spec PyProof.Rows L2 Evl Fs
def topS (i : Nat) : Stmt := PySem.Challenge.pw_fairsplit_k01_worth_of_a_heap.main.body.getD i (.Pass ⟨0, 0, 0, 0⟩)
/-! ### is_number -/
abbrev s_is_number : Stmt := topS 1
theorem sc_is_number : FnScope ["thing"] ["thing"] (defScope s_is_number) := ⟨rfl, rfl, rfl, by decide +kernel, rfl, by decide +kernel, by decide +kernel⟩
def sp_is_number (K : PySem.W.Frag) : Sp := spWhole
section
variable {P : Program} {w : World} {K : PySem.W.Frag} {mg : Str → Option Value} {base : Heap}
theorem ok_is_number (D : DnX K mg "is_number" s_is_number ["thing"]) (B : Bt mg) : Ok P w K mg base CX0 1 "is_number" ["thing"] (sp_is_number K) := by
  refine ok_of D sc_is_number (fun vs H Q E h => by obtain ⟨_, rfl, _⟩ := h; rfl) (fun f cdv A outer s H vs Q E hr h => ⟨_, (pss_one (ps_ret (pe_and (pe_callB (isiK (K := K)) (by rfl) B.isinstance (by decide +kernel) (pa_cons (pv 0) (pa_cons (pe_bltn (v := .ty "int") (by rfl) B.int (by decide +kernel) rfl) pa_nil))) (pe_one (pe_not (pe_callB (isiK (K := K)) (by rfl) B.isinstance (by decide +kernel) (pa_cons (pv 0) (pa_cons (pe_bltn (v := .ty "bool") (by rfl) B.bool (by decide +kernel) rfl) pa_nil)))))))), ?_⟩)
  obtain ⟨x, rfl, ha, q⟩ := h
  exact rd_whole ha q fun Q q => ⟨x, rfl, q⟩
end
/-! ### is_place -/
abbrev s_is_place : Stmt := topS 2
theorem sc_is_place : FnScope ["thing", "many"] ["thing", "many"] (defScope s_is_place) := ⟨rfl, rfl, rfl, by decide +kernel, rfl, by decide +kernel, by decide +kernel⟩
/-- x is the number of one of m -/
def place (x : V) (m : Int) : Bool := match x with
  | .int i => decide (0 ≤ i ∧ i < m)
  | _ => false
def sp_is_place (K : PySem.W.Frag) : Sp := sp2 fun x y H Q => ∃ m, y = .int m ∧ Any H x ∧ Q (.bl (place x m)) H
section
variable {P : Program} {w : World} {K : PySem.W.Frag} {mg : Str → Option Value} {base : Heap}
theorem ok_is_place (D : DnX K mg "is_place" s_is_place ["thing", "many"]) (B : Bt mg) (h_is_number : Ok P w K mg base CX0 1 "is_number" ["thing"] (sp_is_number K)) : Ok P w K mg base CX0 2 "is_place" ["thing", "many"] (sp_is_place K) := by
  refine ok_of D sc_is_place (fun vs H Q E h => by obtain ⟨_, _, rfl, _⟩ := h; rfl) (fun f cdv A outer s H vs Q E hr h => ⟨_, (pss_one (ps_ret (pe_and (pe_ok h_is_number hr (by rfl) pass0 (pa_cons (pv 0) pa_nil)) (pe_one (pe_chain op_le op_lt pe_int (pv 0) (pv 1)))))), ?_⟩)
  obtain ⟨x, y, rfl, m, rfl, ha, q⟩ := h
  refine ⟨x, rfl, x, rfl, ha, isInt x, rfl, ?_⟩
  cases x with
  | int i =>
    refine iteT ⟨_, rfl, _, _, rfl, rfl, _, rfl, ?_⟩
    by_cases h0 : 0 ≤ i
    · rw [decide_eq_true h0]
      refine iteT ⟨_, rfl, _, _, rfl, rfl, ?_⟩
      have e : place (.int i) m = decide (i < m) := by simp [place, h0]
      rw [e] at q
      exact q
    · rw [decide_eq_false h0]
      refine iteF ?_
      have e : place (.int i) m = false := by simp [place, h0]
      rw [e] at q
      exact q
  | _ => exact q
end
/-! ### worth -/
abbrev s_worth : Stmt := topS 4
theorem sc_worth : FnScope ["row", "heap", "good"] ["row", "heap"] (defScope s_worth) := ⟨rfl, rfl, rfl, by decide +kernel, rfl, by decide +kernel, by decide +kernel⟩
def sp_worth (K : PySem.W.Frag) : Sp := sp2 fun x y H Q => ∃ (a b : Addr) (row heap : List Int), x = .ref a ∧ y = .ref b ∧ SqL K H a (row.map V.int) ∧ SqL K H b (heap.map V.int) ∧ heap.length ≤ 4000 ∧ Inside row.length heap ∧ RetV (.int (worthM row heap)) H Q
section
variable {P : Program} {w : World} {K : PySem.W.Frag} {mg : Str → Option Value} {base : Heap}
theorem ok_worth (D : DnX K mg "worth" s_worth ["row", "heap"]) (B : Bt mg) (h_is_place : Ok P w K mg base CX0 2 "is_place" ["thing", "many"] (sp_is_place K)) : Ok P w K mg base CX0 3 "worth" ["row", "heap"] (sp_worth K) := by
  refine ok_of D sc_worth (fun vs H Q E h => by obtain ⟨_, _, rfl, _⟩ := h; rfl) (fun f cdv A outer s H vs Q E hr h => ⟨_, (pss_one (ps_ret (pe_callB (sumK (K := K) rfl) (by rfl) B.sum (by decide +kernel) (pa_cons (pe_lc (own := [("good", 2)]) rfl sc_worth.nd  (pi_listK (K := K) (pv 1)) (blkOk_by (own := [("good", 2)]) (N := ["row", "heap", "good"]) (sc := (defScope s_worth)) (by decide +kernel)) (fun _ _ _ _ _ => (pg_name (i := 2) sc_worth.nd rfl (Or.inl rfl))) (fun _ _ _ _ _ => (pts_one (pt_val (pe_ok h_is_place hr (by rfl) pass0 (pa_cons (pv 2) (pa_cons (pe_callB (lenK (K := K)) (by rfl) B.len PySem.boot_len (pa_cons (pv 0) pa_nil)) pa_nil)))))) (fun _ _ _ _ _ => (pe_ix (ixL (K := K)) (pv 0) (pv 2) (fun _ _ => rfl)))) pa_nil)))), ?_⟩)
  obtain ⟨x, y, rfl, a, b, row, heap, rfl, rfl, hr1, hh, hl, hw, q⟩ := h
  refine g_ret (g_cb1 ?_)
  refine go_by (xs := heap) (enc := V.int) (fun _ => true) (fun g => .int (row.getD g.toNat 0)) (ev_var rfl) hh (by omega) (fun _ => rfl) (fun g hg H1 e1 => ?_) (fun g hg H1 e1 _ => ?_) fun p H2 hp e2 h2 => ?_
  · obtain ⟨g0, g1⟩ := hw g hg
    have e : place (.int g) (row.length : Int) = true := by simp [place, g0, g1]
    rw [← e]
    refine et_B ?_
    intro H2 e2 Q q
    refine ⟨_, rfl, _, rfl, a, _, rfl, .inl (ex_l (e1.trans e2) hr1), _, _, rfl, _, rfl, .int g, ?_⟩
    rw [List.length_map]
    exact q H2 (Ex.refl H2)
  · obtain ⟨g0, g1⟩ := hw g hg
    exact ev_op (ev_var rfl) (ev_var rfl) (rv_ixL (ex_l e1 hr1) (at_ints g0 g1))
  · rw [List.filter_eq_self.mpr (fun _ _ => rfl)] at h2
    refine ⟨p, heap.map (fun g : Int => row.getD g.toNat 0), rfl, .inl (.inl ?_), q H2 e2⟩
    rw [h2, List.map_map]
    rfl
end
/-! ### _law_whole -/
abbrev s__law_whole : Stmt := topS 6
theorem sc__law_whole : FnScope ["_law_found"] ["_law_found"] (defScope s__law_whole) := ⟨rfl, rfl, rfl, by decide +kernel, rfl, by decide +kernel, by decide +kernel⟩
def sp__law_whole (K : PySem.W.Frag) : Sp := spWhole
section
variable {P : Program} {w : World} {K : PySem.W.Frag} {mg : Str → Option Value} {base : Heap}
theorem ok__law_whole (D : DnX K mg "_law_whole" s__law_whole ["_law_found"]) (B : Bt mg) : Ok P w K mg base CX0 1 "_law_whole" ["_law_found"] (sp__law_whole K) := by
  refine ok_of D sc__law_whole (fun vs H Q E h => by obtain ⟨_, rfl, _⟩ := h; rfl) (fun f cdv A outer s H vs Q E hr h => ⟨_, (pss_one (ps_ret (pe_and (pe_callB (isiK (K := K)) (by rfl) B.isinstance (by decide +kernel) (pa_cons (pv 0) (pa_cons (pe_bltn (v := .ty "int") (by rfl) B.int (by decide +kernel) rfl) pa_nil))) (pe_one (pe_not (pe_callB (isiK (K := K)) (by rfl) B.isinstance (by decide +kernel) (pa_cons (pv 0) (pa_cons (pe_bltn (v := .ty "bool") (by rfl) B.bool (by decide +kernel) rfl) pa_nil)))))))), ?_⟩)
  obtain ⟨x, rfl, ha, q⟩ := h
  exact rd_whole ha q fun Q q => ⟨x, rfl, q⟩
end
/-! ### _law_cell -/
abbrev s__law_cell : Stmt := topS 7
theorem sc__law_cell : FnScope ["_law_script", "_law_k"] ["_law_script", "_law_k"] (defScope s__law_cell) := ⟨rfl, rfl, rfl, by decide +kernel, rfl, by decide +kernel, by decide +kernel⟩
/-- a cell of the script -/
def cellM (ns : List Int) (k : Int) : Int :=
  if k < ns.length then ns.getD k.toNat 0 else if ns.length = 0 then k * 7919 else (ns.getD (k * 7 % ns.length).toNat 0 * 48271 + k * 7919) % 2147483647
def sp__law_cell (K : PySem.W.Frag) : Sp := sp2 fun x y H Q => ∃ (a : Addr) (ns : List Int) (k : Int), x = .ref a ∧ y = .int k ∧ SqL K H a (ns.map V.int) ∧ 0 ≤ k ∧ Q (.int (cellM ns k)) H
section
variable {P : Program} {w : World} {K : PySem.W.Frag} {mg : Str → Option Value} {base : Heap}
theorem ok__law_cell (D : DnX K mg "_law_cell" s__law_cell ["_law_script", "_law_k"]) (B : Bt mg) : Ok P w K mg base CX0 1 "_law_cell" ["_law_script", "_law_k"] (sp__law_cell K) := by
  refine ok_of D sc__law_cell (fun vs H Q E h => by obtain ⟨_, _, rfl, _⟩ := h; rfl) (fun f cdv A outer s H vs Q E hr h => ⟨_, (pss_cons (ps_if (pt_cmpR op_lt (pv 1) (pe_callB (lenK (K := K)) (by rfl) B.len PySem.boot_len (pa_cons (pv 0) pa_nil)) (nomark _))
        (pss_one (ps_ret (pe_ix (ixL (K := K)) (pv 0) (pv 1) (fun _ _ => rfl))))
        pss_nil)
      (pss_cons (ps_if (pt_cmpR op_eq (pe_callB (lenK (K := K)) (by rfl) B.len PySem.boot_len (pa_cons (pv 0) pa_nil)) pe_int (nomark _))
        (pss_one (ps_ret (pe_op op_mul (pv 1) pe_int)))
        pss_nil)
      (pss_one (ps_ret (pe_op op_mod (pe_op op_add (pe_op op_mul (pe_ix (ixL (K := K)) (pv 0) (pe_op op_mod (pe_op op_mul (pv 1) pe_int) (pe_callB (lenK (K := K)) (by rfl) B.len PySem.boot_len (pa_cons (pv 0) pa_nil))) (fun _ _ => rfl)) pe_int) (pe_op op_mul (pv 1) pe_int)) pe_int))))), ?_⟩)
  obtain ⟨x, y, rfl, a, ns, k, rfl, rfl, hS, h0, q⟩ := h
  have el : ((ns.map V.int).length : Int) = ns.length := by rw [List.length_map]
  refine ⟨_, rfl, _, rfl, a, _, rfl, .inl hS, _, _, rfl, rfl, _, rfl, ite2 (fun h => ?_) (fun h => ?_)⟩
  · have h1 : k < ns.length := by
      have := of_decide_eq_true h
      omega
    refine ⟨_, rfl, _, rfl, a, _, _, _, rfl, rfl, hS, at_ints h0 h1, ?_⟩
    rw [cellM, if_pos h1] at q
    exact q
  · have h1 : ¬ k < ns.length := fun z => h (decide_eq_true (by omega))
    refine ⟨_, rfl, a, _, rfl, .inl hS, rfl, _, rfl, ite2 (fun h => ?_) (fun h => ?_)⟩
    · have h2 : ns.length = 0 := by
        have := V.int.inj (of_decide_eq_true h)
        omega
      refine ⟨_, rfl, _, _, rfl, rfl, mulR ⟨by decide, by decide⟩, ?_⟩
      rw [cellM, if_neg h1, if_pos h2] at q
      exact q
    · have h2 : ns.length ≠ 0 := fun z => h (decide_eq_true (by rw [el, z]; rfl))
      have hp : (0 : Int) < ns.length := by omega
      have g0 : 0 ≤ k * 7 % (ns.length : Int) := Int.emod_nonneg _ (by omega)
      have g1 : k * 7 % (ns.length : Int) < ns.length := Int.emod_lt_of_pos _ hp
      refine ⟨_, rfl, _, rfl, _, _, rfl, rfl, mulR ⟨by decide, by decide⟩, _, rfl, a, _, rfl, .inl hS, _, _, rfl, rfl, (by show (0 : Int) < ((ns.map V.int).length : Int); omega), a, _, _, _, rfl, rfl, hS, (by rw [el]; exact at_ints g0 g1), ?_⟩
      refine ⟨_, _, rfl, rfl, mulR ⟨by decide, by decide⟩, _, rfl, _, _, rfl, rfl, mulR ⟨by decide, by decide⟩, _, _, rfl, rfl, _, _, rfl, rfl, (by show (0 : Int) < 2147483647; decide), ?_⟩
      rw [cellM, if_neg h1, if_neg h2] at q
      exact q
end
/-! ### _law_draws -/
abbrev s__law_draws : Stmt := topS 8
theorem sc__law_draws : FnScope ["_law_cell_here", "_law_many", "_law_found", "_law_k"] ["_law_cell_here", "_law_many"] (defScope s__law_draws) := ⟨rfl, rfl, rfl, by decide +kernel, rfl, by decide +kernel, by decide +kernel⟩
def nextM (c : Int) : Int := (c * 48271 + 12345) % 2147483647
/-- the cell behind so many turns, and what was drawn -/
def drawnM (c : Int) : Nat → Int
  | 0 => c
  | n + 1 => nextM (drawnM c n)
def drawsM (c : Int) (n : Nat) : List Int := (List.range n).map fun i => drawnM c (i + 1) / 16
theorem drawsM_len (c : Int) (n : Nat) : (drawsM c n).length = n := by simp [drawsM]
theorem drawsM_nn (c : Int) (n : Nat) : ∀ x ∈ drawsM c n, 0 ≤ x := by
  intro x hx
  obtain ⟨i, _, rfl⟩ := List.mem_map.mp hx
  have h : 0 ≤ drawnM c (i + 1) := by
    show 0 ≤ nextM (drawnM c i)
    exact Int.emod_nonneg _ (by decide)
  omega
theorem drawsM_succ (c : Int) (n : Nat) : drawsM c (n + 1) = drawsM c n ++ [drawnM c (n + 1) / 16] := by
  simp [drawsM, List.range_succ]
def sp__law_draws (K : PySem.W.Frag) : Sp := sp2 fun x y H Q => ∃ (c : Int) (n : Nat), x = .int c ∧ y = .int n ∧ n ≤ 4000 ∧ RetL ((drawsM c n).map V.int) H Q
section
variable {P : Program} {w : World} {K : PySem.W.Frag} {mg : Str → Option Value} {base : Heap}
theorem ok__law_draws (D : DnX K mg "_law_draws" s__law_draws ["_law_cell_here", "_law_many"]) (B : Bt mg) : Ok P w K mg base CX0 1 "_law_draws" ["_law_cell_here", "_law_many"] (sp__law_draws K) := by
  refine ok_of D sc__law_draws (fun vs H Q E h => by obtain ⟨_, _, rfl, _⟩ := h; rfl) (fun f cdv A outer s H vs Q E hr h => ⟨_, (pss_cons (ps_set (i := 2) sc__law_draws.nd rfl (Or.inl rfl) (pe_lst pa_nil))
      (pss_cons (ps_for PassesOwn.never rfl (pi_range1 (by rfl) B.range (pa_cons (pv 1) pa_nil)) (pg_name (i := 3) sc__law_draws.nd rfl (Or.inl rfl))
        (pss_cons (ps_set (i := 0) sc__law_draws.nd rfl (Or.inl rfl) (pe_op op_mod (pe_op op_add (pe_op op_mul (pv 0) pe_int) pe_int) pe_int))
        (pss_one (ps_expr (pe_bm PySem.F.plainAttrs_list PySem.F.slot_list_append PySem.F.type_list_append mt_append (pv 2) (pa_cons (pe_op op_fdiv (pv 0) pe_int) pa_nil))))))
      (pss_one (ps_ret (pv 2))))), ?_⟩)
  obtain ⟨x, y, rfl, c, n, rfl, rfl, hn, q⟩ := h
  refine q_asgL (el_lst ea_nil (by decide)) fun l H1 hl e1 h1 => ?_
  refine q_forR1 (n := n) (ea_cons (ev_var rfl) ea_nil) ⟨by omega, by omega⟩ (fun i σ H' => ∃ z, σ = [some (.int (drawnM c i)), some (.int n), some (.ref l), z] ∧ Ex H H' ∧ H' l = some (.lst ((drawsM c i).map V.int))) (fun H2 e2 => ⟨none, rfl, e1.trans e2, e2 _ _ h1⟩) ?_ ?_
  · rintro i σ' H' hi ⟨z, rfl, e, hl'⟩
    refine q_asg (v := .int (drawnM c (i + 1))) (ev_op (ev_op (ev_op (ev_var rfl) ev_c (rv_I (mulR ⟨by decide, by decide⟩))) ev_c rv_I0) ev_c (rv_I (by show (0 : Int) < 2147483647; decide))) fun H2 e2 => ?_
    refine s_app (v := .int (drawnM c (i + 1) / 16)) (e2 _ _ hl') (ev_var rfl) (ev_op (ev_var rfl) ev_c (rv_I ⟨by decide, by decide⟩)) (by rw [List.length_map, drawsM_len]; omega) fun H3 e3 => ?_
    refine ⟨some (.int i), rfl, Ex.mut ((e.trans e2).trans e3) hl, ?_⟩
    rw [upd_same, drawsM_succ, List.map_append]
    rfl
  · rintro σ' H' ⟨z, rfl, e, hl'⟩
    exact s_ret (ev_var rfl) fun H2 e2 => q l H2 hl (e.trans e2) (e2 _ _ (by simpa using hl'))
end
/-! ### _law_bid -/
abbrev s__law_bid : Stmt := topS 9
theorem sc__law_bid : FnScope ["_law_cell_here", "_law_kind"] ["_law_cell_here", "_law_kind"] (defScope s__law_bid) := ⟨rfl, rfl, rfl, by decide +kernel, rfl, by decide +kernel, by decide +kernel⟩
def bidM (c k : Int) : Int := if k = 0 then c % 3 else if k = 1 then c % 100 else if k = 2 then c % 1000000000001 else 1000000000000 - c % 3 * (c / 3 % 2 * 499999999999 + 1)
theorem bidM_nn (c k : Int) : 0 ≤ bidM c k ∧ bidM c k ≤ 1000000000000 := by
  unfold bidM
  have h3 : c % 3 = 0 ∨ c % 3 = 1 ∨ c % 3 = 2 := by omega
  split
  · omega
  · split
    · omega
    · split
      · omega
      · rcases h3 with h | h | h <;> rw [h] <;> omega
def sp__law_bid (K : PySem.W.Frag) : Sp := sp2 fun x y H Q => ∃ (c k : Int), x = .int c ∧ y = .int k ∧ Q (.int (bidM c k)) H
section
variable {P : Program} {w : World} {K : PySem.W.Frag} {mg : Str → Option Value} {base : Heap}
theorem ok__law_bid (D : DnX K mg "_law_bid" s__law_bid ["_law_cell_here", "_law_kind"]) (B : Bt mg) : Ok P w K mg base CX0 1 "_law_bid" ["_law_cell_here", "_law_kind"] (sp__law_bid K) := by
  refine ok_of D sc__law_bid (fun vs H Q E h => by obtain ⟨_, _, rfl, _⟩ := h; rfl) (fun f cdv A outer s H vs Q E hr h => ⟨_, (pss_cons (ps_if (pt_cmpR op_eq (pv 1) pe_int (nomark _))
        (pss_one (ps_ret (pe_op op_mod (pv 0) pe_int)))
        pss_nil)
      (pss_cons (ps_if (pt_cmpR op_eq (pv 1) pe_int (nomark _))
        (pss_one (ps_ret (pe_op op_mod (pv 0) pe_int)))
        pss_nil)
      (pss_cons (ps_if (pt_cmpR op_eq (pv 1) pe_int (nomark _))
        (pss_one (ps_ret (pe_op op_mod (pv 0) pe_int)))
        pss_nil)
      (pss_one (ps_ret (pe_op op_sub pe_int (pe_op op_mul (pe_op op_mod (pv 0) pe_int) (pe_op op_add (pe_op op_mul (pe_op op_mod (pe_op op_fdiv (pv 0) pe_int) pe_int) pe_int) pe_int)))))))), ?_⟩)
  obtain ⟨x, y, rfl, c, k, rfl, rfl, q⟩ := h
  refine ⟨_, rfl, rfl, _, rfl, ite2 (fun h => ?_) (fun h => ?_)⟩
  · have h1 : k = 0 := V.int.inj (of_decide_eq_true h)
    refine ⟨_, rfl, _, _, rfl, rfl, (by show (0 : Int) < 3; decide), ?_⟩
    rw [bidM, if_pos h1] at q
    exact q
  · have h1 : ¬ k = 0 := fun z => h (decide_eq_true (by rw [z]))
    refine ⟨_, rfl, rfl, _, rfl, ite2 (fun h => ?_) (fun h => ?_)⟩
    · have h2 : k = 1 := V.int.inj (of_decide_eq_true h)
      refine ⟨_, rfl, _, _, rfl, rfl, (by show (0 : Int) < 100; decide), ?_⟩
      rw [bidM, if_neg h1, if_pos h2] at q
      exact q
    · have h2 : ¬ k = 1 := fun z => h (decide_eq_true (by rw [z]))
      refine ⟨_, rfl, rfl, _, rfl, ite2 (fun h => ?_) (fun h => ?_)⟩
      · have h3 : k = 2 := V.int.inj (of_decide_eq_true h)
        refine ⟨_, rfl, _, _, rfl, rfl, (by show (0 : Int) < 1000000000001; decide), ?_⟩
        rw [bidM, if_neg h1, if_neg h2, if_pos h3] at q
        exact q
      · have h3 : ¬ k = 2 := fun z => h (decide_eq_true (by rw [z]))
        have b3 : -(2 ^ 64) < c % 3 ∧ c % 3 < 2 ^ 64 := by omega
        refine ⟨_, rfl, _, _, rfl, rfl, (by show (0 : Int) < 3; decide), _, rfl, _, _, rfl, rfl, ⟨by decide, by decide⟩, _, _, rfl, rfl, (by show (0 : Int) < 2; decide), _, _, rfl, rfl, mulR ⟨by decide, by decide⟩, _, _, rfl, rfl, _, _, rfl, rfl, mulL b3, _, _, rfl, rfl, ?_⟩
        rw [bidM, if_neg h1, if_neg h2, if_neg h3] at q
        exact q
end
/-! ### _law_worth -/
abbrev s__law_worth : Stmt := topS 10
theorem sc__law_worth : FnScope ["_law_row", "_law_heap", "_law_total", "_law_good"] ["_law_row", "_law_heap"] (defScope s__law_worth) := ⟨rfl, rfl, rfl, by decide +kernel, rfl, by decide +kernel, by decide +kernel⟩
def sp__law_worth (K : PySem.W.Frag) : Sp := sp2 fun x y H Q => ∃ (a b : Addr) (row heap : List Int), x = .ref a ∧ y = .ref b ∧ SqL K H a (row.map V.int) ∧ SqL K H b (heap.map V.int) ∧ Inside row.length heap ∧ RetV (.int (worthM row heap)) H Q
section
variable {P : Program} {w : World} {K : PySem.W.Frag} {mg : Str → Option Value} {base : Heap}
theorem ok__law_worth (D : DnX K mg "_law_worth" s__law_worth ["_law_row", "_law_heap"]) (B : Bt mg) : Ok P w K mg base CX0 1 "_law_worth" ["_law_row", "_law_heap"] (sp__law_worth K) := by
  refine ok_of D sc__law_worth (fun vs H Q E h => by obtain ⟨_, _, rfl, _⟩ := h; rfl) (fun f cdv A outer s H vs Q E hr h => ⟨_, (pss_cons (ps_set (i := 2) sc__law_worth.nd rfl (Or.inl rfl) pe_int)
      (pss_cons (ps_for PassesOwn.never rfl (pi_listK (K := K) (pv 1)) (pg_name (i := 3) sc__law_worth.nd rfl (Or.inl rfl))
        (pss_one (ps_set (i := 2) sc__law_worth.nd rfl (Or.inl rfl) (pe_op op_add (pv 2) (pe_ix (ixL (K := K)) (pv 0) (pv 3) (fun _ _ => rfl))))))
      (pss_one (ps_ret (pv 2))))), ?_⟩)
  obtain ⟨x, y, rfl, a, b, row, heap, rfl, rfl, hA, hB, hw, q⟩ := h
  refine q_asg ev_c fun H1 e1 => ?_
  refine q_forLn (ev_var rfl) (ex_l e1 hB) (fun i σ H' => ∃ z, σ = [some (.ref a), some (.ref b), some (.int (worthM row (heap.take i))), z] ∧ Ex H H') (fun H2 e2 => ⟨none, rfl, e1.trans e2⟩) (fun i σ' H' _ h => by obtain ⟨z, _, e⟩ := h; exact ex_l e hB) ?_ ?_
  · rintro i x σ' H' hi ⟨z, rfl, e⟩
    obtain ⟨hj, rfl⟩ := get_ints hi
    obtain ⟨g0, g1⟩ := hw _ (List.getElem_mem hj)
    refine s_asg (v := .int (worthM row (heap.take (i + 1)))) ?_ fun H2 e2 => ⟨some (.int heap[i]), rfl, e.trans e2⟩
    rw [worthM_take hj]
    exact ev_op (ev_var rfl) (ev_op (ev_var rfl) (ev_var rfl) (rv_ixL (ex_l e hA) (at_ints g0 g1))) rv_I0
  · rintro σ' H' ⟨z, rfl, e⟩
    refine s_ret (ev_var rfl) fun H2 e2 => ?_
    have et : heap.take (heap.map V.int).length = heap := by rw [List.length_map, List.take_length]
    rw [et]
    exact q H2 (e.trans e2)
end
/-! ### law -/
abbrev s_law : Stmt := topS 11
theorem sc_law : FnScope ["_law_script", "_law_goods", "_law_kind", "_law_row", "_law_draws_here", "_law_heap", "_law_handed", "_law_found", "_law_j"] ["_law_script"] (defScope s_law) := ⟨rfl, rfl, rfl, by decide +kernel, rfl, by decide +kernel, by decide +kernel⟩
def sp_law (K : PySem.W.Frag) : Sp := sp1 fun x H Q => ∃ (a : Addr) (ns : List Int), x = .ref a ∧ SqL K H a (ns.map V.int) ∧ ∀ H', Q (.bl true) H'
theorem law_start {K : PySem.W.Frag} {H : Hp} {a : Addr} {ns : List Int} (hl : ns.length ≤ 63) (hS : SqL K H a (ns.map V.int)) : sp_law K [.ref a] H (fun v _ => v = .bl true) (fun _ _ _ => False) := ⟨.ref a, rfl, a, ns, rfl, hS, fun _ => rfl⟩
theorem ev_cell {K : PySem.W.Frag} {σ : L2.St} {H : Hp} {a : Addr} {ns : List Int} {tk : TE} {k : Int} (h0 : σ[0]? = some (some (.ref a))) (hS : SqL K H a (ns.map V.int)) (hk : Ev tk σ H (.int k)) (k0 : 0 ≤ k) :
    Ev (tCall (sp__law_cell K) [] E0 (tCons (tVar 0) (tCons tk tNil))) σ H (.int (cellM ns k)) :=
  ev_call (ea_cons (ev_var h0) (ea_cons hk ea_nil)) fun H1 e Q q E => ⟨_, _, rfl, a, ns, k, rfl, rfl, ex_l e hS, k0, q H1 (Ex.refl H1)⟩
theorem mod_range (x : Int) {m : Int} (h : 0 < m) : ∃ n : Nat, x % m = (n : Int) ∧ (n : Int) < m := by
  have h0 : 0 ≤ x % m := Int.emod_nonneg _ (by omega)
  have h1 : x % m < m := Int.emod_lt_of_pos _ h
  exact ⟨(x % m).toNat, by omega, by omega⟩
theorem cut_mem {xs : List Int} {lo hi : Option Int} {x : V} (h : x ∈ cutV (xs.map V.int) lo hi) : ∃ y ∈ xs, x = .int y := by
  unfold cutV at h
  have h2 := List.mem_of_mem_drop (List.mem_of_mem_take h)
  obtain ⟨y, hy, rfl⟩ := List.mem_map.mp h2
  exact ⟨y, hy, rfl⟩
theorem cut_ints (xs : List Int) (lo hi : Option Int) : ∃ ys : List Int, cutV (xs.map V.int) lo hi = ys.map V.int ∧ (∀ y ∈ ys, y ∈ xs) ∧ ys.length ≤ xs.length := by
  refine ⟨(xs.drop (HT.sIx (xs.map V.int).length 0 lo)).take (HT.sIx (xs.map V.int).length (xs.map V.int).length hi - HT.sIx (xs.map V.int).length 0 lo), ?_, fun y hy => List.mem_of_mem_drop (List.mem_of_mem_take hy), ?_⟩
  · unfold cutV
    rw [List.map_take, List.map_drop]
  · rw [List.length_take, List.length_drop]
    omega
section
variable {P : Program} {w : World} {K : PySem.W.Frag} {mg : Str → Option Value} {base : Heap}
theorem ok_law (D : DnX K mg "law" s_law ["_law_script"]) (B : Bt mg) (h__law_draws : Ok P w K mg base CX0 1 "_law_draws" ["_law_cell_here", "_law_many"] (sp__law_draws K)) (h_worth : Ok P w K mg base CX0 3 "worth" ["row", "heap"] (sp_worth K)) (h__law_cell : Ok P w K mg base CX0 1 "_law_cell" ["_law_script", "_law_k"] (sp__law_cell K)) (h__law_bid : Ok P w K mg base CX0 1 "_law_bid" ["_law_cell_here", "_law_kind"] (sp__law_bid K)) (h__law_whole : Ok P w K mg base CX0 1 "_law_whole" ["_law_found"] (sp__law_whole K)) (h__law_worth : Ok P w K mg base CX0 1 "_law_worth" ["_law_row", "_law_heap"] (sp__law_worth K)) : Ok P w K mg base CX0 4 "law" ["_law_script"] (sp_law K) := by
  refine ok_of D sc_law (fun vs H Q E h => by obtain ⟨_, rfl, _⟩ := h; rfl) (fun f cdv A outer s H vs Q E hr h => ⟨_, (pss_cons (ps_set (i := 1) sc_law.nd rfl (Or.inr rfl) (pe_op op_mod (pe_ok h__law_cell (hr.mono (by decide)) (by rfl) pass0 (pa_cons (pv 0) (pa_cons pe_int pa_nil))) pe_int))
      (pss_cons (ps_set (i := 2) sc_law.nd rfl (Or.inr rfl) (pe_op op_mod (pe_ok h__law_cell (hr.mono (by decide)) (by rfl) pass0 (pa_cons (pv 0) (pa_cons pe_int pa_nil))) pe_int))
      (pss_cons (ps_setLc (own := [("_law_j", 8)]) (i := 3) rfl sc_law.nd rfl rfl (sw_true rfl rfl rfl (by decide +kernel))  (pi_range1 (by rfl) B.range (pa_cons (pv 1) pa_nil)) (blkOk_by (own := [("_law_j", 8)]) (N := ["_law_script", "_law_goods", "_law_kind", "_law_row", "_law_draws_here", "_law_heap", "_law_handed", "_law_found", "_law_j"]) (sc := (defScope s_law)) (by decide +kernel)) (fun _ _ _ _ _ => (pg_name (i := 8) sc_law.nd rfl (Or.inl rfl))) (fun _ _ _ _ _ => pts_nil) (fun _ _ _ _ _ => (pe_ok h__law_bid (hr.mono (by decide)) (by rfl) pass0 (pa_cons (pe_ok h__law_cell (hr.mono (by decide)) (by rfl) pass0 (pa_cons (pv 0) (pa_cons (pe_op op_add pe_int (pv 8)) pa_nil))) (pa_cons (pv 2) pa_nil)))))
      (pss_cons (ps_set (i := 4) sc_law.nd rfl (Or.inr rfl) (pe_ok h__law_draws (hr.mono (by decide)) (by rfl) pass0 (pa_cons (pe_ok h__law_cell (hr.mono (by decide)) (by rfl) pass0 (pa_cons (pv 0) (pa_cons pe_int pa_nil))) (pa_cons (pv 1) pa_nil))))
      (pss_cons (ps_setLc (own := [("_law_j", 8)]) (i := 5) rfl sc_law.nd rfl rfl (sw_true rfl rfl rfl (by decide +kernel))  (pi_range1 (by rfl) B.range (pa_cons (pv 1) pa_nil)) (blkOk_by (own := [("_law_j", 8)]) (N := ["_law_script", "_law_goods", "_law_kind", "_law_row", "_law_draws_here", "_law_heap", "_law_handed", "_law_found", "_law_j"]) (sc := (defScope s_law)) (by decide +kernel)) (fun _ _ _ _ _ => (pg_name (i := 8) sc_law.nd rfl (Or.inl rfl))) (fun _ _ _ _ _ => (pts_one (pt_cmpR op_lt (pe_op op_mod (pe_ix (ixL (K := K)) (pv 4) (pv 8) (fun _ _ => rfl)) pe_int) pe_int (nomark _)))) (fun _ _ _ _ _ => (pv 8)))
      (pss_cut (ps_if (pt_cmpR op_eq (pe_op op_mod (pe_ok h__law_cell (hr.mono (by decide)) (by rfl) pass0 (pa_cons (pv 0) (pa_cons pe_int pa_nil))) pe_int) pe_int (nomark _))
        (pss_one (ps_setLc (own := [("_law_j", 8)]) (i := 5) rfl sc_law.nd rfl rfl (sw_true rfl rfl rfl (by decide +kernel))  (pi_listK (K := K) (pv 5)) (blkOk_by (own := [("_law_j", 8)]) (N := ["_law_script", "_law_goods", "_law_kind", "_law_row", "_law_draws_here", "_law_heap", "_law_handed", "_law_found", "_law_j"]) (sc := (defScope s_law)) (by decide +kernel)) (fun _ _ _ _ _ => (pg_name (i := 8) sc_law.nd rfl (Or.inl rfl))) (fun _ _ _ _ _ => pts_nil) (fun _ _ _ _ _ => (pe_op op_sub (pe_op op_sub (pv 1) pe_int) (pv 8)))))
        pss_nil)
      (pss_cut (ps_if (pt_cmpR op_eq (pe_op op_mod (pe_op op_fdiv (pe_ok h__law_cell (hr.mono (by decide)) (by rfl) pass0 (pa_cons (pv 0) (pa_cons pe_int pa_nil))) pe_int) pe_int) pe_int (nomark _))
        (pss_one (ps_set (i := 5) sc_law.nd rfl (Or.inl rfl) (pe_op op_cat (pv 5) (pe_op op_rep (pe_slice (slK (K := K)) (pv 5) (po_some pe_int) (po_some pe_int)) (pe_op op_mod (pe_op op_fdiv (pe_ok h__law_cell (hr.mono (by decide)) (by rfl) pass0 (pa_cons (pv 0) (pa_cons pe_int pa_nil))) pe_int) pe_int)))))
        pss_nil)
      (pss_cons (ps_set (i := 6) sc_law.nd rfl (Or.inl rfl) (pe_lst (pa_cons (pe_callTy (listK (K := K)) (by rfl) B.list (by decide +kernel) (pa_cons (pv 3) pa_nil)) (pa_cons (pe_callTy (listK (K := K)) (by rfl) B.list (by decide +kernel) (pa_cons (pv 5) pa_nil)) pa_nil))))
      (pss_cons (ps_set (i := 7) sc_law.nd rfl (Or.inl rfl) (pe_ok h_worth hr (by rfl) pass0 (pa_cons (pe_ix (ixL (K := K)) (pv 6) pe_int (fun _ _ => rfl)) (pa_cons (pe_ix (ixL (K := K)) (pv 6) pe_int (fun _ _ => rfl)) pa_nil))))
      (pss_cons (ps_if (PW.pt (pw_or (pt_cmpR (neK (K := K) hr.units) (pe_ix (ixL (K := K)) (pv 6) pe_int (fun _ _ => rfl)) (pv 3) (nomark _)) (pw_or1 (pt_cmpR (neK (K := K) hr.units) (pe_ix (ixL (K := K)) (pv 6) pe_int (fun _ _ => rfl)) (pv 5) (nomark _)))))
        (pss_one (ps_ret pe_bl))
        pss_nil)
      (pss_one (ps_ret (pe_and (pe_ok h__law_whole (hr.mono (by decide)) (by rfl) pass0 (pa_cons (pv 7) pa_nil)) (pe_one (pe_cmpR op_eq (pv 7) (pe_ok h__law_worth (hr.mono (by decide)) (by rfl) pass0 (pa_cons (pv 3) (pa_cons (pv 5) pa_nil))) (nomark _)))))))))))))))), ?_⟩)
  obtain ⟨x, rfl, a, ns, rfl, hS, q⟩ := h
  -- goods, kind
  obtain ⟨gn, hg, hgl⟩ := mod_range (cellM ns 0) (m := 41) (by decide)
  refine q_asg (v := .int (gn : Int)) ?_ fun H1 e1 => ?_
  · rw [← hg]
    exact ev_op (ev_cell rfl hS ev_c (by decide)) ev_c (rv_I (by show (0 : Int) < 41; decide))
  refine q_asg (ev_op (ev_cell rfl (ex_l e1 hS) ev_c (by decide)) ev_c (rv_I (by show (0 : Int) < 4; decide))) fun H2 e2 => ?_
  generalize cellM ns 1 % 4 = kind
  have hS2 := ex_l (e1.trans e2) hS
  -- row
  refine q_asgL (el_rngA (n := gn) (fun j => .int (bidM (cellM ns (4 + (j : Int))) kind)) (ea_cons (ev_var rfl) ea_nil) (by omega) (fun _ => rfl) (fun i H3 e3 hi => ?_)) fun rp H3 hrp e3 hrow => ?_
  · exact ev_call (ea_cons (ev_cell rfl (ex_l e3 hS2) (ev_op ev_c (ev_var rfl) rv_I0) (by omega)) (ea_cons (ev_var rfl) ea_nil)) fun H4 e4 Q q E => ⟨_, _, rfl, _, _, rfl, rfl, q H4 (Ex.refl H4)⟩
  obtain ⟨row, hrl, hrow⟩ : ∃ row : List Int, row.length = gn ∧ H3 rp = some (.lst (row.map V.int)) := ⟨(List.range gn).map fun j : Nat => bidM (cellM ns (4 + (j : Int))) kind, by simp, by rw [hrow, List.map_map]; rfl⟩
  have hS3 := ex_l e3 hS2
  -- draws
  refine q_asgL (xs := (drawsM (cellM ns 3) gn).map V.int) (el_call (ea_cons (ev_cell rfl hS3 ev_c (by decide)) (ea_cons (ev_var rfl) ea_nil)) fun H4 e4 Q q E => ⟨_, _, rfl, _, gn, rfl, rfl, by omega, q⟩) fun dp H4 hdp e4 hdr => ?_
  have hdl := drawsM_len (cellM ns 3) gn
  generalize drawsM (cellM ns 3) gn = draws at hdr hdl
  have hS4 := ex_l e4 hS3
  have hrow4 := e4 _ _ hrow
  -- heap
  refine q_asgL (el_rng (n := gn) (fun j => decide (draws.getD j 0 % 5 < 2)) (fun j => .int (j : Int)) (ea_cons (ev_var rfl) ea_nil) (by omega) (fun _ => rfl) (fun i H5 e5 hi => ?_) (fun i H5 e5 hi _ => ev_var rfl)) fun hp H5 hhp e5 hheap => ?_
  · exact et_test (ev_op (ev_op (ev_op (ev_var rfl) (ev_var rfl) (rv_ixL (sq_of (e5 _ _ hdr)) (at_ints (i := (i : Int)) (by omega) (by omega)))) ev_c (rv_I (by show (0 : Int) < 5; decide))) ev_c rv_I0)
  obtain ⟨heap, hhl, hin, hheap⟩ : ∃ heap : List Int, heap.length ≤ 40 ∧ Inside gn heap ∧ H5 hp = some (.lst (heap.map V.int)) := by
    refine ⟨((List.range gn).filter fun j : Nat => decide (draws.getD j 0 % 5 < 2)).map fun j : Nat => (j : Int), ?_, fun g hg => ?_, by rw [hheap, List.map_map]; rfl⟩
    · have := List.length_filter_le (fun j : Nat => decide (draws.getD j 0 % 5 < 2)) (List.range gn)
      rw [List.length_range] at this
      rw [List.length_map]
      omega
    · obtain ⟨j, hj, rfl⟩ := List.mem_map.mp hg
      have := List.mem_range.mp (List.mem_filter.mp hj).1
      omega
  have hS5 := ex_l e5 hS4
  have hrow5 := e5 _ _ hrow4
  have eH5 : Ex H H5 := (((e1.trans e2).trans e3).trans e4).trans e5
  -- turned about
  refine q_cut (M := fun σ H' => ∃ (hp : Addr) (heap : List Int), heap.length ≤ 40 ∧ Inside gn heap ∧ H' hp = some (.lst (heap.map V.int)) ∧ Ex H5 H' ∧ σ = [some (.ref a), some (.int gn), some (.int kind), some (.ref rp), some (.ref dp), some (.ref hp), none, none, none]) ?_ ?_
  · refine s_when (et_test (ev_op (ev_op (ev_cell rfl hS5 ev_c (by decide)) ev_c (rv_I (by show (0 : Int) < 2; decide))) ev_c (rv_eq rfl))) (fun _ H6 e6 => ?_) (fun _ H6 e6 => ⟨hp, heap, hhl, hin, e6 _ _ hheap, e6, rfl⟩)
    refine s_asgL (el_all (xs := heap) (enc := V.int) (fun j => .int ((gn : Int) - 1 - j)) (ev_var rfl) (sq_of (e6 _ _ hheap)) (by omega) (fun _ => rfl) (fun x hx H7 e7 => ev_op (ev_op (ev_var rfl) ev_c rv_I0) (ev_var rfl) rv_I0)) fun p H7 hp7 e7 h7 => ?_
    refine ⟨p, heap.map fun j => (gn : Int) - 1 - j, by rw [List.length_map]; exact hhl, fun g hg => ?_, by rw [h7, List.map_map]; rfl, e6.trans e7, rfl⟩
    obtain ⟨j, hj, rfl⟩ := List.mem_map.mp hg
    have := hin j hj
    omega
  rintro σ H6 ⟨hp, heap, hhl, hin, hheap, e6, rfl⟩
  -- some more often
  refine q_cut (M := fun σ H' => ∃ (hp : Addr) (heap : List Int), heap.length ≤ 400 ∧ Inside gn heap ∧ H' hp = some (.lst (heap.map V.int)) ∧ Ex H5 H' ∧ σ = [some (.ref a), some (.int gn), some (.int kind), some (.ref rp), some (.ref dp), some (.ref hp), none, none, none]) ?_ ?_
  · have hS6 := ex_l e6 hS5
    refine s_when (et_test (ev_op (ev_op (ev_op (ev_cell rfl hS6 ev_c (by decide)) ev_c (rv_I ⟨by decide, by decide⟩)) ev_c (rv_I (by show (0 : Int) < 3; decide))) ev_c (rv_eq rfl))) (fun _ H7 e7 => ?_) (fun _ H7 e7 => ⟨hp, heap, by omega, hin, e7 _ _ hheap, e6.trans e7, rfl⟩)
    obtain ⟨ys, hys, hym, hyl⟩ := cut_ints heap (some 1) (some 4)
    obtain ⟨c4, hc4, hc4l⟩ := mod_range (cellM ns 2 / 6) (m := 4) (by decide)
    have hh7 := e7 _ _ hheap
    -- heap + heap[1:4] * c
    refine ⟨.ref hp, rfl, .ref hp, rfl, 1, rfl, 4, rfl, hp, heap.map V.int, rfl, sq_of hh7, fun p1 hp1 => ?_⟩
    have n1 : hp ≠ p1 := ne_of_none hh7 hp1
    have hS7 : SqL K (upd H7 p1 (.lst (cutV (heap.map V.int) (some 1) (some 4)))) a (ns.map V.int) := ex_l (e7.trans (Ex.new hp1)) hS6
    refine ev_op (ev_op (ev_cell (K := K) (a := a) (ns := ns) (k := 2) rfl hS7 ev_c (by decide)) ev_c (rv_I ⟨by decide, by decide⟩)) ev_c (rv_I (by show (0 : Int) < 4; decide)) _ (Ex.refl _) _ fun H8 e8 => ?_
    have ec : cellM ns 2 / 6 % 4 = (c4 : Int) := hc4
    have h8 := e8 _ _ upd_same
    refine ⟨p1, _, _, rfl, rfl, h8, by omega, by omega, ?_, fun p2 hp2 => ?_⟩
    · rw [hys, List.length_map, hc4, Int.toNat_natCast]
      refine sz_of (Nat.le_trans (Nat.mul_le_mul hyl (show c4 ≤ 3 by omega)) (by omega))
    have hh8 : H8 hp = some (.lst (heap.map V.int)) := e8 _ _ (by rw [upd_ne n1]; exact hh7)
    have n2 : hp ≠ p2 := ne_of_none hh8 hp2
    have eR : (List.replicate (cellM ns 2 / 6 % 4).toNat (cutV (heap.map V.int) (some 1) (some 4))).flatten = ((List.replicate c4 ys).flatten).map V.int := by
      rw [hc4, Int.toNat_natCast, hys, List.map_flatten, List.map_replicate]
    have hRl : ((List.replicate c4 ys).flatten).length ≤ 120 := by
      rw [List.length_flatten, List.map_replicate, List.sum_replicate_nat]
      exact Nat.le_trans (Nat.mul_le_mul (show c4 ≤ 3 by omega) hyl) (by omega)
    refine ⟨hp, p2, _, _, rfl, rfl, by rw [upd_ne n2]; exact hh8, upd_same, ?_, fun p3 hp3 => ?_⟩
    · rw [eR, List.length_map, List.length_map]
      exact sz_of (by omega)
    refine ⟨p3, heap ++ (List.replicate c4 ys).flatten, ?_, fun g hg => ?_, ?_, ?_, rfl⟩
    · rw [List.length_append]
      omega
    · rcases List.mem_append.mp hg with hg | hg
      · exact hin g hg
      · obtain ⟨l, hl, hg⟩ := List.mem_flatten.mp hg
        rw [(List.mem_replicate.mp hl).2] at hg
        exact hin g (hym g hg)
    · rw [upd_same, eR, List.map_append]
    · exact ((e6.trans e7).trans ((Ex.new hp1).trans e8)).trans ((Ex.new hp2).trans (Ex.new hp3))
  rintro σ H7 ⟨hp, heap, hhl, hin, hheap, e7, rfl⟩
  have hrow7 := e7 _ _ hrow5
  -- handed
  refine ⟨.ref rp, rfl, rp, row.map V.int, rfl, .inl (sq_of hrow7), fun l1 hl1 => ?_⟩
  have x1 : Ex H7 (upd H7 l1 (.lst (row.map V.int))) := Ex.new hl1
  refine ⟨.ref hp, rfl, hp, heap.map V.int, rfl, .inl (sq_of (x1 _ _ hheap)), fun l2 hl2 => ?_⟩
  have x2 := Ex.new (o := .lst (heap.map V.int)) hl2
  have k1 := x2 _ _ (upd_same (H := H7) (a := l1) (o := .lst (row.map V.int)))
  refine ⟨sz_of (by show 2 ≤ 100000; omega), fun l3 hl3 => ?_⟩
  have x3 := Ex.new (o := .lst [V.ref l1, V.ref l2]) hl3
  have k1' := x3 _ _ k1
  have k2' := x3 _ _ (upd_same (a := l2) (o := .lst (heap.map V.int)))
  have k3 := upd_same (H := upd (upd H7 l1 (.lst (row.map V.int))) l2 (.lst (heap.map V.int))) (a := l3) (o := .lst [V.ref l1, V.ref l2])
  have hrow8 := x3 _ _ (x2 _ _ (x1 _ _ hrow7))
  have hheap8 := x3 _ _ (x2 _ _ (x1 _ _ hheap))
  generalize upd (upd (upd H7 l1 (.lst (row.map V.int))) l2 (.lst (heap.map V.int))) l3 (.lst [V.ref l1, V.ref l2]) = H8 at k1' k2' k3 hrow8 hheap8
  have i0 : atI [V.ref l1, V.ref l2] 0 = some (.ref l1) := atI_nat (j := 0) rfl
  have i1 : atI [V.ref l1, V.ref l2] 1 = some (.ref l2) := atI_nat (j := 1) rfl
  -- found
  refine q_asg (v := .int (worthM row heap)) (ev_call (ea_cons (ev_op (ev_var rfl) ev_c (rv_ixL (sq_of k3) i0)) (ea_cons (ev_op (ev_var rfl) ev_c (rv_ixL (sq_of k3) i1)) ea_nil)) fun H9 e9 Q q E => ?_) fun H9 e9 => ?_
  · exact ⟨_, _, rfl, l1, l2, row, heap, rfl, rfl, sq_of (e9 _ _ k1'), sq_of (e9 _ _ k2'), by omega, by rw [hrl]; exact hin, fun H10 e10 => q H10 e10⟩
  -- what was handed in stays
  have k3' := sq_of (K := K) (e9 _ _ k3)
  refine q_when (b := false) (et_or (a := false) (b := false) (et_test (ev_op (ev_op (ev_var rfl) ev_c (rv_ixL k3' i0)) (ev_var rfl) (rv_neS encI (by decide) (dp_ints (sq_of (e9 _ _ k1'))) (dp_ints (sq_of (e9 _ _ hrow8))))))
    fun _ => et_test (ev_op (ev_op (ev_var rfl) ev_c (rv_ixL k3' i1)) (ev_var rfl) (rv_neS encI (by decide) (dp_ints (sq_of (e9 _ _ k2'))) (dp_ints (sq_of (e9 _ _ hheap8)))))) (fun h => nomatch h) fun _ H10 e10 => ?_
  -- the answer
  refine s_ret (v := .bl true) ?_ fun H11 _ => q H11
  refine ev_is (ev_andV (a := true) (b := true) (ev_call (ea_cons (ev_var rfl) ea_nil) fun H11 e11 Q q E => ⟨_, rfl, .int _, q H11 (Ex.refl H11)⟩) fun _ => ?_) rfl
  refine ev_is (ev_op (ev_var rfl) (ev_call (ea_cons (ev_var rfl) (ea_cons (ev_var rfl) ea_nil)) fun H11 e11 Q q E => ⟨_, _, rfl, rp, hp, row, heap, rfl, rfl, sq_of (e11 _ _ (e10 _ _ (e9 _ _ hrow8))), sq_of (e11 _ _ (e10 _ _ (e9 _ _ hheap8))), by rw [hrl]; exact hin, fun H12 e12 => q H12 e12⟩) (rv_eq rfl)) ?_
  rw [decide_eq_true rfl]
end
end Fk01
namespace Fk01
open PySem PySem.Spec PyProof.Rows L2 Evl Fs
theorem all_mk {l : PySem.W.OpenLaw} {w : World} {K : PySem.W.Frag} {h : Heap} {mg : Str → Option Value} {fa f0 f1 f2 f3 f4 f5 f6 f7 f8 : Addr} (X : K.In h) (G : h.Ns mainGlobals mg) (hfa : mg "law" = some (.ref fa))
    {od0 an0 od1 an1 od2 an2 od3 an3 od4 an4 od5 an5 od6 an6 od7 an7 od8 an8 : Option Addr} {sl0 sl1 sl2 sl3 sl4 sl5 sl6 sl7 sl8 : Array (Option Value)} {oc0 kV0 dc0 pm0 cd0 ct0 oc1 kV1 dc1 pm1 cd1 ct1 oc2 kV2 dc2 pm2 cd2 ct2 oc3 kV3 dc3 pm3 cd3 ct3 oc4 kV4 dc4 pm4 cd4 ct4 oc5 kV5 dc5 pm5 cd5 ct5 oc6 kV6 dc6 pm6 cd6 ct6 oc7 kV7 dc7 pm7 cd7 ct7 oc8 kV8 dc8 pm8 cd8 ct8 : Value}
    (a0 : PySem.W.nsIn K mainGlobals "is_number" = some (some (.ref f0))) (l0 : K.lookup f0 = some ⟨oc0, od0, .func (PySem.W.fnOf "is_number" "is_number" (defArgs s_is_number) (defBody s_is_number) (defScope s_is_number) .none kV0 dc0 pm0 an0 cd0 ct0), sl0⟩) (c0 : PySem.W.codeIn K cd0 "is_number" = true) (k0 : PySem.W.keepIn K (.ref f0) = true)
    (a1 : PySem.W.nsIn K mainGlobals "is_place" = some (some (.ref f1))) (l1 : K.lookup f1 = some ⟨oc1, od1, .func (PySem.W.fnOf "is_place" "is_place" (defArgs s_is_place) (defBody s_is_place) (defScope s_is_place) .none kV1 dc1 pm1 an1 cd1 ct1), sl1⟩) (c1 : PySem.W.codeIn K cd1 "is_place" = true) (k1 : PySem.W.keepIn K (.ref f1) = true)
    (a2 : PySem.W.nsIn K mainGlobals "worth" = some (some (.ref f2))) (l2 : K.lookup f2 = some ⟨oc2, od2, .func (PySem.W.fnOf "worth" "worth" (defArgs s_worth) (defBody s_worth) (defScope s_worth) .none kV2 dc2 pm2 an2 cd2 ct2), sl2⟩) (c2 : PySem.W.codeIn K cd2 "worth" = true) (k2 : PySem.W.keepIn K (.ref f2) = true)
    (a3 : PySem.W.nsIn K mainGlobals "_law_whole" = some (some (.ref f3))) (l3 : K.lookup f3 = some ⟨oc3, od3, .func (PySem.W.fnOf "_law_whole" "_law_whole" (defArgs s__law_whole) (defBody s__law_whole) (defScope s__law_whole) .none kV3 dc3 pm3 an3 cd3 ct3), sl3⟩) (c3 : PySem.W.codeIn K cd3 "_law_whole" = true) (k3 : PySem.W.keepIn K (.ref f3) = true)
    (a4 : PySem.W.nsIn K mainGlobals "_law_cell" = some (some (.ref f4))) (l4 : K.lookup f4 = some ⟨oc4, od4, .func (PySem.W.fnOf "_law_cell" "_law_cell" (defArgs s__law_cell) (defBody s__law_cell) (defScope s__law_cell) .none kV4 dc4 pm4 an4 cd4 ct4), sl4⟩) (c4 : PySem.W.codeIn K cd4 "_law_cell" = true) (k4 : PySem.W.keepIn K (.ref f4) = true)
    (a5 : PySem.W.nsIn K mainGlobals "_law_draws" = some (some (.ref f5))) (l5 : K.lookup f5 = some ⟨oc5, od5, .func (PySem.W.fnOf "_law_draws" "_law_draws" (defArgs s__law_draws) (defBody s__law_draws) (defScope s__law_draws) .none kV5 dc5 pm5 an5 cd5 ct5), sl5⟩) (c5 : PySem.W.codeIn K cd5 "_law_draws" = true) (k5 : PySem.W.keepIn K (.ref f5) = true)
    (a6 : PySem.W.nsIn K mainGlobals "_law_bid" = some (some (.ref f6))) (l6 : K.lookup f6 = some ⟨oc6, od6, .func (PySem.W.fnOf "_law_bid" "_law_bid" (defArgs s__law_bid) (defBody s__law_bid) (defScope s__law_bid) .none kV6 dc6 pm6 an6 cd6 ct6), sl6⟩) (c6 : PySem.W.codeIn K cd6 "_law_bid" = true) (k6 : PySem.W.keepIn K (.ref f6) = true)
    (a7 : PySem.W.nsIn K mainGlobals "_law_worth" = some (some (.ref f7))) (l7 : K.lookup f7 = some ⟨oc7, od7, .func (PySem.W.fnOf "_law_worth" "_law_worth" (defArgs s__law_worth) (defBody s__law_worth) (defScope s__law_worth) .none kV7 dc7 pm7 an7 cd7 ct7), sl7⟩) (c7 : PySem.W.codeIn K cd7 "_law_worth" = true) (k7 : PySem.W.keepIn K (.ref f7) = true)
    (a8 : PySem.W.nsIn K mainGlobals "law" = some (some (.ref f8))) (l8 : K.lookup f8 = some ⟨oc8, od8, .func (PySem.W.fnOf "law" "law" (defArgs s_law) (defBody s_law) (defScope s_law) .none kV8 dc8 pm8 an8 cd8 ct8), sl8⟩) (c8 : PySem.W.codeIn K cd8 "law" = true) (k8 : PySem.W.keepIn K (.ref f8) = true)
    (z_len : PySem.W.nsIn K mainGlobals "len" = some none) (z_range : PySem.W.nsIn K mainGlobals "range" = some none) (z_sum : PySem.W.nsIn K mainGlobals "sum" = some none) (z_isinstance : PySem.W.nsIn K mainGlobals "isinstance" = some none) (z_int : PySem.W.nsIn K mainGlobals "int" = some none) (z_bool : PySem.W.nsIn K mainGlobals "bool" = some none) (z_list : PySem.W.nsIn K mainGlobals "list" = some none) (z_tuple : PySem.W.nsIn K mainGlobals "tuple" = some none) (z_sorted : PySem.W.nsIn K mainGlobals "sorted" = some none) (z_max : PySem.W.nsIn K mainGlobals "max" = some none) (z_min : PySem.W.nsIn K mainGlobals "min" = some none) (z_all : PySem.W.nsIn K mainGlobals "all" = some none) (z_any : PySem.W.nsIn K mainGlobals "any" = some none) (z_zip : PySem.W.nsIn K mainGlobals "zip" = some none) (z_str : PySem.W.nsIn K mainGlobals "str" = some none)
    : ∃ fd : FuncData, (∀ (s : Shared) (v : Value), BindsTo s fd ⟨[v], []⟩ [("_law_script", v)]) ∧ ∀ base : Heap, K.In base → base.Ns mainGlobals mg → FnOk l.prog w K mg base CX0 4 fa fd ["_law_script"] (sp_law K) := by
  have e := hfa.symm.trans (PySem.W.mg_of X G a8)
  cases e
  have B : Bt mg := ⟨PySem.W.mg_none_of X G z_len, PySem.W.mg_none_of X G z_range, PySem.W.mg_none_of X G z_sum, PySem.W.mg_none_of X G z_isinstance, PySem.W.mg_none_of X G z_int, PySem.W.mg_none_of X G z_bool, PySem.W.mg_none_of X G z_list, PySem.W.mg_none_of X G z_tuple, PySem.W.mg_none_of X G z_sorted, PySem.W.mg_none_of X G z_max, PySem.W.mg_none_of X G z_min, PySem.W.mg_none_of X G z_all, PySem.W.mg_none_of X G z_any, PySem.W.mg_none_of X G z_zip, PySem.W.mg_none_of X G z_str⟩
  have F0 := fun_mk (st := s_is_number) l0 c0 k0
  have b0 := F0.binds (ps := ["thing"]) fun _ _ _ _ _ _ us hl => match us, hl with | [_], _ => rfl
  have D0 : DnX K mg "is_number" s_is_number ["thing"] := ⟨_, _, F0, PySem.W.mg_of X G a0, b0⟩
  have F1 := fun_mk (st := s_is_place) l1 c1 k1
  have b1 := F1.binds (ps := ["thing", "many"]) fun _ _ _ _ _ _ us hl => match us, hl with | [_, _], _ => rfl
  have D1 : DnX K mg "is_place" s_is_place ["thing", "many"] := ⟨_, _, F1, PySem.W.mg_of X G a1, b1⟩
  have F2 := fun_mk (st := s_worth) l2 c2 k2
  have b2 := F2.binds (ps := ["row", "heap"]) fun _ _ _ _ _ _ us hl => match us, hl with | [_, _], _ => rfl
  have D2 : DnX K mg "worth" s_worth ["row", "heap"] := ⟨_, _, F2, PySem.W.mg_of X G a2, b2⟩
  have F3 := fun_mk (st := s__law_whole) l3 c3 k3
  have b3 := F3.binds (ps := ["_law_found"]) fun _ _ _ _ _ _ us hl => match us, hl with | [_], _ => rfl
  have D3 : DnX K mg "_law_whole" s__law_whole ["_law_found"] := ⟨_, _, F3, PySem.W.mg_of X G a3, b3⟩
  have F4 := fun_mk (st := s__law_cell) l4 c4 k4
  have b4 := F4.binds (ps := ["_law_script", "_law_k"]) fun _ _ _ _ _ _ us hl => match us, hl with | [_, _], _ => rfl
  have D4 : DnX K mg "_law_cell" s__law_cell ["_law_script", "_law_k"] := ⟨_, _, F4, PySem.W.mg_of X G a4, b4⟩
  have F5 := fun_mk (st := s__law_draws) l5 c5 k5
  have b5 := F5.binds (ps := ["_law_cell_here", "_law_many"]) fun _ _ _ _ _ _ us hl => match us, hl with | [_, _], _ => rfl
  have D5 : DnX K mg "_law_draws" s__law_draws ["_law_cell_here", "_law_many"] := ⟨_, _, F5, PySem.W.mg_of X G a5, b5⟩
  have F6 := fun_mk (st := s__law_bid) l6 c6 k6
  have b6 := F6.binds (ps := ["_law_cell_here", "_law_kind"]) fun _ _ _ _ _ _ us hl => match us, hl with | [_, _], _ => rfl
  have D6 : DnX K mg "_law_bid" s__law_bid ["_law_cell_here", "_law_kind"] := ⟨_, _, F6, PySem.W.mg_of X G a6, b6⟩
  have F7 := fun_mk (st := s__law_worth) l7 c7 k7
  have b7 := F7.binds (ps := ["_law_row", "_law_heap"]) fun _ _ _ _ _ _ us hl => match us, hl with | [_, _], _ => rfl
  have D7 : DnX K mg "_law_worth" s__law_worth ["_law_row", "_law_heap"] := ⟨_, _, F7, PySem.W.mg_of X G a7, b7⟩
  have F8 := fun_mk (st := s_law) l8 c8 k8
  have b8 := F8.binds (ps := ["_law_script"]) fun _ _ _ _ _ _ us hl => match us, hl with | [_], _ => rfl
  have D8 : DnX K mg "law" s_law ["_law_script"] := ⟨_, _, F8, PySem.W.mg_of X G a8, b8⟩
  exact ⟨PySem.W.fnOf "law" "law" (defArgs s_law) (defBody s_law) (defScope s_law) .none kV8 dc8 pm8 an8 cd8 ct8, fun s v => .of_eq rfl, fun base _ _ => by
    have O_is_number := ok_is_number (P := l.prog) (w := w) (base := base) D0 B
    have O_is_place := ok_is_place (P := l.prog) (w := w) (base := base) D1 B O_is_number
    have O_worth := ok_worth (P := l.prog) (w := w) (base := base) D2 B O_is_place
    have O__law_whole := ok__law_whole (P := l.prog) (w := w) (base := base) D3 B
    have O__law_cell := ok__law_cell (P := l.prog) (w := w) (base := base) D4 B
    have O__law_draws := ok__law_draws (P := l.prog) (w := w) (base := base) D5 B
    have O__law_bid := ok__law_bid (P := l.prog) (w := w) (base := base) D6 B
    have O__law_worth := ok__law_worth (P := l.prog) (w := w) (base := base) D7 B
    obtain ⟨f, fd, F, g, kp, b⟩ := ok_law (P := l.prog) (w := w) (base := base) D8 B O__law_draws O_worth O__law_cell O__law_bid O__law_whole O__law_worth
    exact ok_fn F8 (PySem.W.mg_of X G a8) (ok_law (P := l.prog) (w := w) (base := base) D8 B O__law_draws O_worth O__law_cell O__law_bid O__law_whole O__law_worth)⟩
end Fk01
open PySem PySem.W PyProof.Rows
set_option maxHeartbeats 0 in
theorem PySem.Challenge.cw_fairsplit_k01_worth_of_a_heap_holds : PySem.Challenge.rw_fairsplit_k01_worth_of_a_heap.Holds := by
  w_on; o_law; k_head; (case hw => w_witness2)
  k_fill
  refine L2.walk_of (l := PySem.Challenge.rw_fairsplit_k01_worth_of_a_heap) (n := 63) (k := 4) (x := "_law_script") (CX := fun _ => L2.CX0) (sp := fun w => Fk01.sp_law _) rfl (by decide) rfl ⟨rfl, by decide, by decide⟩ (fun w h Y => PySem.W.kIn_of Y) ?F (fun _ H a ns hl hO hS => Fk01.law_start hl hS) (fun _ _ _ _ _ h => h)
  case F =>
    intro w mg fa h KX G hmg
    refine' Fk01.all_mk KX G hmg ?a0 ?l0 ?c0 ?k0 ?a1 ?l1 ?c1 ?k1 ?a2 ?l2 ?c2 ?k2 ?a3 ?l3 ?c3 ?k3 ?a4 ?l4 ?c4 ?k4 ?a5 ?l5 ?c5 ?k5 ?a6 ?l6 ?c6 ?k6 ?a7 ?l7 ?c7 ?k7 ?a8 ?l8 ?c8 ?k8 ?z_len ?z_range ?z_sum ?z_isinstance ?z_int ?z_bool ?z_list ?z_tuple ?z_sorted ?z_max ?z_min ?z_all ?z_any ?z_zip ?z_str
    (case a0 => k_is); (case l0 => k_is); (case c0 => k_is); (case k0 => k_is); (case a1 => k_is); (case l1 => k_is); (case c1 => k_is); (case k1 => k_is); (case a2 => k_is); (case l2 => k_is); (case c2 => k_is); (case k2 => k_is)
    (case a3 => k_is); (case l3 => k_is); (case c3 => k_is); (case k3 => k_is); (case a4 => k_is); (case l4 => k_is); (case c4 => k_is); (case k4 => k_is); (case a5 => k_is); (case l5 => k_is); (case c5 => k_is); (case k5 => k_is)
    (case a6 => k_is); (case l6 => k_is); (case c6 => k_is); (case k6 => k_is); (case a7 => k_is); (case l7 => k_is); (case c7 => k_is); (case k7 => k_is); (case a8 => k_is); (case l8 => k_is); (case c8 => k_is); (case k8 => k_is)
    (case z_len => k_is); (case z_range => k_is); (case z_sum => k_is); (case z_isinstance => k_is); (case z_int => k_is); (case z_bool => k_is); (case z_list => k_is); (case z_tuple => k_is); (case z_sorted => k_is); (case z_max => k_is); (case z_min => k_is); (case z_all => k_is)
    (case z_any => k_is); (case z_zip => k_is); (case z_str => k_is)
