import PyProof.Rows.All
import Wide.All
import OpenK.AllK
import Wide.FinOn
import HandS.ForMost
import HandS.Evl
import HandS.IsInst
import HandS.Conv
import HandS.SortInts
import HandS.Style
import HandS.WordsExc
import HandS.Zip
import HandS.More
import HandS.Walk
import PySem.Challenge.RW_fairsplit_k12_whole_nobody_below
set_option Elab.async false
set_option linter.all false
set_option maxRecDepth 100000
set_option maxHeartbeats 4000000
/-! Fs: what all the proofs share. -/
namespace Fs
open PySem PySem.Spec PyProof.Rows L2 Evl
/-- the built-in names are not the program's own -/
structure Bt (mg : Str → Option Value) : Prop where
  len : mg "len" = none
  range : mg "range" = none
  sum : mg "sum" = none
  isinstance : mg "isinstance" = none
  int : mg "int" = none
  bool : mg "bool" = none
  list : mg "list" = none
  tuple : mg "tuple" = none
  sorted : mg "sorted" = none
  max : mg "max" = none
  min : mg "min" = none
  all : mg "all" = none
  any : mg "any" = none
  zip : mg "zip" = none
  str : mg "str" = none
  ValueError : mg "ValueError" = none
/-- a def that stands in the text -/
def DnX (K : PySem.W.Frag) (mg : Str → Option Value) (x : Str) (st : Stmt) (ps : List Str) : Prop :=
  ∃ f fd, Fun K x x st f fd ∧ mg x = some (.ref f) ∧ Binds K fd ps []
/-- a def that keeps its promise -/
def Ok (P : Program) (w : World) (K : PySem.W.Frag) (mg : Str → Option Value) (base : Heap) (CX : CXT) (k : Nat) (x : Str) (ps : List Str) (sp : Sp) : Prop :=
  ∃ f fd, FnOk P w K mg base CX k f fd ps sp ∧ mg x = some (.ref f) ∧ PySem.W.keepIn K (.ref f) = true ∧ Binds K fd ps [] ∧ ∃ oc od osl, K.lookup f = some ⟨oc, od, .func fd, osl⟩
section
variable {P : Program} {w : World} {K : PySem.W.Frag} {mg : Str → Option Value} {base : Heap}
theorem ok_of {x : Str} {st : Stmt} {N ps : List Str} {k : Nat} {sp : Sp} (D : DnX K mg x st ps) (S : FnScope N ps (defScope st)) (len : ∀ vs H Q E, sp vs H Q E → vs.length = ps.length)
    (hbody : ∀ (f : Addr) (cdv : Value) (A : Around) (outer : List Env) (s : Shared) (H : Hp) (vs : List V) (Q : VK) (E : XK), Room k (A.deeper (envOfC x (defScope st) s.heap.objs.size f cdv)) → sp vs H Q E →
      ∃ t, PSs (cxOf CX0 P w K mg base N x (defScope st) f cdv A outer s H E).nox (defBody st) t ∧ t { nx := fun _ H' => Q .non H', rt := Q } (start N vs) H) : Ok P w K mg base CX0 (k + 1) x ps sp := by
  obtain ⟨f, fd, F, g, b⟩ := D
  have F0 := F
  obtain ⟨oc, od, _, _, _, _, _, _, osl, _, lk, _⟩ := F0.ex
  exact ⟨f, fd, F.ok S len fun cdv A outer s H vs Q E hr h => hbody f cdv A outer s H vs Q E hr h, g, F.kp, b, oc, od, osl, lk⟩
theorem Ok.mono {CX : CXT} {j k : Nat} {x : Str} {ps : List Str} {sp : Sp} (h : Ok P w K mg base CX j x ps sp) (l : j ≤ k) : Ok P w K mg base CX k x ps sp := by
  obtain ⟨f, fd, F, g, b⟩ := h
  exact ⟨f, fd, F.mono l, g, b⟩
end
/-- a module's constant -/
def KInt (mg : Str → Option Value) (x : Str) (i : Int) : Prop := ∃ t, mg x = some (.int i t)
/-- the law's own def, as the head wants it -/
theorem ok_fn {P : Program} {w : World} {K : PySem.W.Frag} {mg : Str → Option Value} {base : Heap} {CX : CXT} {k : Nat} {x : Str} {st : Stmt} {ps : List Str} {sp : Sp} {f : Addr} {fd : FuncData} (F : Fun K x x st f fd) (g : mg x = some (.ref f)) (h : Ok P w K mg base CX k x ps sp) :
    FnOk P w K mg base CX k f fd ps sp := by
  obtain ⟨f2, fd2, F2, g2, _, _, oc2, od2, osl2, lk2⟩ := h
  cases g.symm.trans g2
  obtain ⟨oc, od, _, _, _, _, _, _, osl, _, lk, _⟩ := F.ex
  cases lk.symm.trans lk2
  exact F2
section
variable {X : Cx}
theorem pe_const {x : Str} {i : Int} {pos : Pos} (hg : Gl X x) (h : KInt X.mg x i) (hd : (x == ("__debug__" : Str)) = false := by decide) : PE X (.Name x pos) (tC (.int i)) := by
  obtain ⟨t, hm⟩ := h
  exact pe_glob hg hm ⟨t, rfl⟩ hd
theorem pe_ok {CX : CXT} {k : Nat} {x : Str} {ps : List Str} {sp : Sp} {E : XK} {e : Expr} {es : List Expr} {t : TA} {p pos : Pos} (h : Ok X.prog X.w X.K X.mg X.base CX k x ps sp) (hr : Room k X.A) (hg : Gl X x) (hx : Passes CX X E) (ha : PA X (e :: es) t)
    (hdb : (x == ("__debug__" : Str)) = false := by decide) (he : starEach (e :: es) X.env = (false, eval e X.env) :: starEach es X.env := by rfl) (hpl : (backTo pos (starEach es X.env)).any (·.1) = false := by rfl) :
    PE X (.Call (.Name x p) (e :: es) [] pos) (tCall sp [] E t) := by
  obtain ⟨f, fd, F, hm, hk, hb, _⟩ := h
  exact pe_call F hr hg hm hk hb .nil hx ha hdb he hpl
end
section
variable {X : Cx} {K : PySem.W.Frag}
theorem ixL (hK : X.K = K := by rfl) : IxR X (rIxL K) := by
  subst hK
  exact ix_list
theorem ixT (hK : X.K = K := by rfl) : IxR X (rIxT K) := by
  subst hK
  exact ix_tup
theorem lenK (hK : X.K = K := by rfl) : CallR X (.builtin "len") (rLenS K) := by
  subst hK
  exact call_len_seq
theorem listK (hK : X.K = K := by rfl) : CallR X (.type "list") (rListS K) := by
  subst hK
  exact call_list_of
theorem isiK (hK : X.K = K := by rfl) : CallR X (.builtin "isinstance") (rIsi K) := by
  subst hK
  exact call_isi
theorem sumK (hc : X.calm = true) (hK : X.K = K := by rfl) : CallR X (.builtin "sum") (rSum K) := by
  subst hK
  exact cr_sum hc
theorem allK (hc : X.calm = true) (hK : X.K = K := by rfl) : CallR X (.builtin "all") (rAll K) := by
  subst hK
  exact cr_all hc
theorem anyK (hc : X.calm = true) (hK : X.K = K := by rfl) : CallR X (.builtin "any") (rAny K) := by
  subst hK
  exact cr_any hc
theorem maxK (hc : X.calm = true) (hK : X.K = K := by rfl) : CallR X (.builtin "max") (rMax K) := by
  subst hK
  exact cr_max hc
theorem minK (hc : X.calm = true) (hK : X.K = K := by rfl) : CallR X (.builtin "min") (rMin K) := by
  subst hK
  exact cr_min hc
theorem sortedK (hK : X.K = K := by rfl) : CallR X (.builtin "sorted") (rSortedI K) := by
  subst hK
  exact cr_sortedI
theorem slK (hK : X.K = K := by rfl) : SlR X (rSlL K) := by
  subst hK
  exact sl_list
theorem eqK (hu : X.A.units + 64 < cLine) (hK : X.K = K := by rfl) : OpR X (compareOp .Eq) (rEqD K) := by
  subst hK
  exact op_eqD hu
theorem neK (hu : X.A.units + 64 < cLine) (hK : X.K = K := by rfl) : OpR X (compareOp .NotEq) (rNeD K) := by
  subst hK
  exact op_neD hu
theorem inK (hK : X.K = K := by rfl) : OpR X (compareOp .In) (rIn K false) := by
  subst hK
  exact op_in_seq
theorem notInK (hK : X.K = K := by rfl) : OpR X (compareOp .NotIn) (rIn K true) := by
  subst hK
  exact op_notIn_seq
theorem indexK (hK : X.K = K := by rfl) : MtR X "list.index" (rIndex K) := by
  subst hK
  exact mt_index
theorem pi_listK {tg l : Expr} {tl : TE} (hl : PE X l tl) (hK : X.K = K := by rfl) : PI X tg l (iList K tl) := by
  subst hK
  exact pi_list hl
theorem pi_tupK {tg l : Expr} {tl : TE} (hl : PE X l tl) (hK : X.K = K := by rfl) : PI X tg l (iTup K tl) := by
  subst hK
  exact pi_tup hl
theorem pg_tupK {es : List Expr} {k : Nat} {t : TGs} {n : Nat} {pos : Pos} (hc : X.calm = true) (h : PGs X es t) (hn : (assignEach es X.env).length = n := by rfl) (hst : (assignEach es X.env).findIdx? (·.1) = none := by rfl) (hK : X.K = K := by rfl) : PG X (.Tuple es k pos) (gTup K n t) := by
  subst hK
  exact pg_tup hc h hn hst
theorem pe_revK {e : Expr} {te : TE} {k : Nat} {p1 p2 p3 pos : Pos} (he : PE X e te) (hK : X.K = K := by rfl) : PE X (.Subscript e (.Slice none none (some (.UnaryOp .USub (.Constant (.int 1) k p1) p2)) p3) pos) (tRevL K te) := by
  subst hK
  exact pe_revL he
end
/-! promises by the number of arguments -/
abbrev sp1 (R : V → Hp → VK → Prop) : Sp := fun vs H Q _ => ∃ x, vs = [x] ∧ R x H Q
abbrev sp2 (R : V → V → Hp → VK → Prop) : Sp := fun vs H Q _ => ∃ x y, vs = [x, y] ∧ R x y H Q
abbrev sp3 (R : V → V → V → Hp → VK → Prop) : Sp := fun vs H Q _ => ∃ x y z, vs = [x, y, z] ∧ R x y z H Q
abbrev sp4 (R : V → V → V → V → Hp → VK → Prop) : Sp := fun vs H Q _ => ∃ x y z u, vs = [x, y, z, u] ∧ R x y z u H Q
abbrev sp5 (R : V → V → V → V → V → Hp → VK → Prop) : Sp := fun vs H Q _ => ∃ x y z u v, vs = [x, y, z, u, v] ∧ R x y z u v H Q
theorem len1 {R : V → Hp → VK → Prop} {vs : List V} {H : Hp} {Q : VK} {E : XK} (h : sp1 R vs H Q E) : vs.length = 1 := by
  obtain ⟨_, rfl, _⟩ := h
  rfl
theorem len2 {R : V → V → Hp → VK → Prop} {vs : List V} {H : Hp} {Q : VK} {E : XK} (h : sp2 R vs H Q E) : vs.length = 2 := by
  obtain ⟨_, _, rfl, _⟩ := h
  rfl
theorem len3 {R : V → V → V → Hp → VK → Prop} {vs : List V} {H : Hp} {Q : VK} {E : XK} (h : sp3 R vs H Q E) : vs.length = 3 := by
  obtain ⟨_, _, _, rfl, _⟩ := h
  rfl
theorem len4 {R : V → V → V → V → Hp → VK → Prop} {vs : List V} {H : Hp} {Q : VK} {E : XK} (h : sp4 R vs H Q E) : vs.length = 4 := by
  obtain ⟨_, _, _, _, rfl, _⟩ := h
  rfl
theorem len5 {R : V → V → V → V → V → Hp → VK → Prop} {vs : List V} {H : Hp} {Q : VK} {E : XK} (h : sp5 R vs H Q E) : vs.length = 5 := by
  obtain ⟨_, _, _, _, _, rfl, _⟩ := h
  rfl

/-! ### values that may stand in a list: what isinstance and == know of them -/
section
variable {K : PySem.W.Frag} {H H' : Hp}
inductive Any (H : Hp) : V → Prop
  | int (i : Int) : Any H (.int i)
  | bl (b : Bool) : Any H (.bl b)
  | str (x : Str) : Any H (.str x)
  | non : Any H .non
  | lst {a : Addr} {xs : List V} (h : H a = some (.lst xs)) : Any H (.ref a)
  | tup {a : Addr} {xs : List V} (h : H a = some (.tup xs)) : Any H (.ref a)
theorem Any.mono {x : V} (e : Ex H H') (h : Any H x) : Any H' x := by
  cases h with
  | int i => exact .int i
  | bl b => exact .bl b
  | str x => exact .str x
  | non => exact .non
  | lst h => exact .lst (e _ _ h)
  | tup h => exact .tup (e _ _ h)
def isInt : V → Bool
  | .int _ => true
  | _ => false
/-- isinstance(x, int) and not isinstance(x, bool) -/
def spWhole : Sp := sp1 fun x H Q => Any H x ∧ Q (.bl (isInt x)) H
end
/-! ### lists of ints -/
theorem at_ints {ns : List Int} {i : Int} (h0 : 0 ≤ i) (h1 : i < ns.length) : atI (ns.map V.int) i = some (.int (ns.getD i.toNat 0)) := by
  obtain ⟨j, rfl⟩ := Int.eq_ofNat_of_zero_le h0
  have hj : j < ns.length := by omega
  refine atI_nat ?_
  rw [List.getElem?_map, List.getElem?_eq_getElem hj]
  simp [List.getD_eq_getElem?_getD, hj]
theorem get_ints {ns : List Int} {i : Nat} {x : V} (h : (ns.map V.int)[i]? = some x) : ∃ hi : i < ns.length, x = .int ns[i] := by
  rw [List.getElem?_map] at h
  cases e : ns[i]? with
  | none =>
    rw [e] at h
    cases h
  | some y =>
    rw [e] at h
    obtain ⟨hi, e2⟩ := List.getElem?_eq_some_iff.mp e
    exact ⟨hi, by rw [e2]; exact (Option.some.inj h).symm⟩

/-- isinstance(x, int) and not isinstance(x, bool), the name in slot 0 -/
theorem rd_whole {K : PySem.W.Frag} {x : V} {H : Hp} {Q : VK} {ti : TE} (ha : Any H x) (q : Q (.bl (isInt x)) H) (hx : ∀ Q : VK, Q x H → ti [some x] H Q) :
    tAndV (tCB (rIsi K) (tCons ti (tCons (tC (.ty "int")) tNil))) (tNotV (tCB (rIsi K) (tCons ti (tCons (tC (.ty "bool")) tNil)))) [some x] H Q := by
  have key : ∀ (n : String) (b1 b2 : Bool), TyX K H x (.type n) → kitB n "int" = some b1 → kitB n "bool" = some b2 → (b1 && !b2) = isInt x →
      tAndV (tCB (rIsi K) (tCons ti (tCons (tC (.ty "int")) tNil))) (tNotV (tCB (rIsi K) (tCons ti (tCons (tC (.ty "bool")) tNil)))) [some x] H Q := by
    intro n b1 b2 ty k1 k2 e
    refine hx _ ?_
    refine ⟨x, .ty "int", _, _, b1, rfl, .ty _, ty, kit_ty k1, b1, rfl, ?_⟩
    cases b1 with
    | true =>
      refine iteT ?_
      refine hx _ ?_
      refine ⟨x, .ty "bool", _, _, b2, rfl, .ty _, ty, kit_ty k2, b2, rfl, ?_⟩
      rw [← e] at q
      exact q
    | false =>
      refine iteF ?_
      rw [← e] at q
      exact q
  cases ha with
  | int i => exact key "int" true false (.base (.int i)) (by decide +kernel) (by decide +kernel) rfl
  | bl b => exact key "bool" true true (.base (.bl b)) (by decide +kernel) (by decide +kernel) rfl
  | str z => exact key "str" false false (.base (.str z)) (by decide +kernel) (by decide +kernel) rfl
  | non => exact key "NoneType" false false (.base .non) (by decide +kernel) (by decide +kernel) rfl
  | lst h => exact key "list" false false (.base (.lst h)) (by decide +kernel) (by decide +kernel) rfl
  | tup h => exact key "tuple" false false (.base (.tup h)) (by decide +kernel) (by decide +kernel) rfl

theorem mulR {i j : Int} (h : -(2 ^ 64) < j ∧ j < 2 ^ 64) : CMul i j := .inr h
theorem mulL {i j : Int} (h : -(2 ^ 64) < i ∧ i < 2 ^ 64) : CMul i j := .inl h
theorem getD_in {ns : List Int} {i : Nat} (h : i < ns.length) (d : Int) : ns.getD i d = ns[i] := by simp [List.getD_eq_getElem?_getD, h]
/-- what a heap is worth: the bids for its goods -/
def worthM (row heap : List Int) : Int := (heap.map fun g => row.getD g.toNat 0).sum
/-- only numbers of goods stand in the heap -/
def Inside (n : Nat) (heap : List Int) : Prop := ∀ g ∈ heap, 0 ≤ g ∧ g < (n : Int)
theorem worthM_take {row heap : List Int} {i : Nat} (h : i < heap.length) : worthM row (heap.take (i + 1)) = worthM row (heap.take i) + row.getD heap[i].toNat 0 := by
  unfold worthM
  rw [List.take_add_one, List.getElem?_eq_getElem h, List.map_append, List.sum_append]
  simp
/-! ### comprehensions over a list told by its data -/
theorem given_by {α : Type} (xs : List α) (d : α) (p : α → Bool) (g : α → V) : given xs.length (fun i => p (xs.getD i d)) (fun i => g (xs.getD i d)) = (xs.filter p).map g := by
  have e : (List.range xs.length).map (fun i => xs.getD i d) = xs := by
    refine List.ext_getElem (by simp) fun i h1 h2 => ?_
    simp [List.getD_eq_getElem?_getD, h2]
  have h : (xs.filter p).map g = (((List.range xs.length).map (fun i => xs.getD i d)).filter p).map g := by rw [e]
  rw [h, List.filter_map, List.map_map]
  rfl
theorem given_all {α : Type} (xs : List α) (d : α) (g : α → V) : given xs.length (fun _ => true) (fun i => g (xs.getD i d)) = xs.map g := by
  rw [given_by xs d (fun _ => true) g, List.filter_eq_self.mpr (fun _ _ => rfl)]
theorem given_rng (n : Nat) (p : Nat → Bool) (g : Nat → V) : given n p g = ((List.range n).filter p).map g := rfl
theorem given_rngA (n : Nat) (g : Nat → V) : given n (fun _ => true) g = (List.range n).map g := by
  unfold given
  rw [List.filter_eq_self.mpr (fun _ _ => rfl)]
section
variable {K : PySem.W.Frag} {σ : L2.St} {H H' : Hp} {te tl : TE} {t : TT} {a : Addr} {j : Nat} {vs : List Nat}
theorem el_by {α : Type} [Inhabited α] {xs : List α} {enc : α → V} (p : α → Bool) (g : α → V) (h : Ev tl σ H (.ref a)) (hx : SqL K H a (xs.map enc)) (hz : xs.length ≤ 40000) (hw : ∀ x, wipe ((wipe σ vs).set j (some x)) vs = wipe σ vs)
    (ht : ∀ x ∈ xs, ∀ H1, Ex H H1 → EvT t ((wipe σ vs).set j (some (enc x))) H1 (p x)) (he : ∀ x ∈ xs, ∀ H1, Ex H H1 → p x = true → Ev te ((wipe σ vs).set j (some (enc x))) H1 (g x)) :
    EvL (tLc (iList K tl) (gName j) t te vs) σ H ((xs.filter p).map g) := by
  have key : ∀ (i : Nat) (x : V), (xs.map enc)[i]? = some x → x = enc (xs.getD i default) ∧ xs.getD i default ∈ xs := by
    intro i x hi
    rw [List.getElem?_map] at hi
    cases e : xs[i]? with
    | none =>
      rw [e] at hi
      cases hi
    | some y =>
      rw [e] at hi
      have ey : xs.getD i default = y := by simp [List.getD_eq_getElem?_getD, e]
      rw [ey]
      exact ⟨(Option.some.inj hi).symm, List.mem_of_getElem? e⟩
  have L := el_lcL (t := t) (te := te) (j := j) (vs := vs) (fun i => p (xs.getD i default)) (fun i => g (xs.getD i default)) h hx (by rw [List.length_map]; exact hz) hw
    (fun i x H1 e1 hi => by
      obtain ⟨e, m⟩ := key i x hi
      rw [e]
      exact ht _ m H1 e1)
    (fun i x H1 e1 hi hp => by
      obtain ⟨e, m⟩ := key i x hi
      rw [e]
      exact he _ m H1 e1 hp)
  rw [List.length_map, given_by] at L
  exact L
theorem et_yes : EvT tYes σ H true := fun H1 _ _ q => q H1 (Ex.refl H1)
theorem el_all {α : Type} [Inhabited α] {xs : List α} {enc : α → V} (g : α → V) (h : Ev tl σ H (.ref a)) (hx : SqL K H a (xs.map enc)) (hz : xs.length ≤ 40000) (hw : ∀ x, wipe ((wipe σ vs).set j (some x)) vs = wipe σ vs)
    (he : ∀ x ∈ xs, ∀ H1, Ex H H1 → Ev te ((wipe σ vs).set j (some (enc x))) H1 (g x)) :
    EvL (tLc (iList K tl) (gName j) tYes te vs) σ H (xs.map g) := by
  have L := el_by (t := tYes) (te := te) (j := j) (vs := vs) (fun _ => true) g h hx hz hw (fun _ _ _ _ => et_yes) (fun x m H1 e1 _ => he x m H1 e1)
  rw [List.filter_eq_self.mpr (fun _ _ => rfl)] at L
  exact L
end
section
variable {K : PySem.W.Frag} {σ : L2.St} {H H' : Hp} {te tl : TE} {t : TT} {a : Addr} {j : Nat} {vs : List Nat} {Q : VK}
/-- [te for x in xs if t], then Q of the new list -/
theorem go_by {α : Type} [Inhabited α] {xs : List α} {enc : α → V} (p : α → Bool) (g : α → V) (h : Ev tl σ H (.ref a)) (hx : SqL K H a (xs.map enc)) (hz : xs.length ≤ 40000) (hw : ∀ x, wipe ((wipe σ vs).set j (some x)) vs = wipe σ vs)
    (ht : ∀ x ∈ xs, ∀ H1, Ex H H1 → EvT t ((wipe σ vs).set j (some (enc x))) H1 (p x)) (he : ∀ x ∈ xs, ∀ H1, Ex H H1 → p x = true → Ev te ((wipe σ vs).set j (some (enc x))) H1 (g x))
    (q : RetL ((xs.filter p).map g) H Q) : tLc (iList K tl) (gName j) t te vs σ H Q := el_by p g h hx hz hw ht he H (Ex.refl H) Q fun p H2 hp e h2 => q p H2 hp e h2
theorem go_all {α : Type} [Inhabited α] {xs : List α} {enc : α → V} (g : α → V) (h : Ev tl σ H (.ref a)) (hx : SqL K H a (xs.map enc)) (hz : xs.length ≤ 40000) (hw : ∀ x, wipe ((wipe σ vs).set j (some x)) vs = wipe σ vs)
    (he : ∀ x ∈ xs, ∀ H1, Ex H H1 → Ev te ((wipe σ vs).set j (some (enc x))) H1 (g x))
    (q : RetL (xs.map g) H Q) : tLc (iList K tl) (gName j) tYes te vs σ H Q := el_all g h hx hz hw he H (Ex.refl H) Q fun p H2 hp e h2 => q p H2 hp e h2
end
section
variable {K : PySem.W.Frag} {σ : L2.St} {H : Hp} {ta tb te tl : TE} {t u : TT} {tu tw : TS} {D : Ends} {Q : VK} {QA : List V → Hp → Prop} {QB : Bool → Hp → Prop} {r : List V → Hp → VK → Prop} {rr : R2} {ts : TA}
theorem g_ret (h : te σ H D.rt) : tRet te D σ H := h
theorem g_cb (h : ts σ H fun vs H1 => r vs H1 Q) : tCB r ts σ H Q := h
theorem g_cons (h : te σ H fun x H1 => ts σ H1 fun xs H2 => QA (x :: xs) H2) : tCons te ts σ H QA := h
theorem g_nil (h : QA [] H) : tNil σ H QA := h
theorem g_cb1 (h : te σ H fun x H1 => r [x] H1 Q) : tCB r (tCons te tNil) σ H Q := h
theorem g_op (h : ta σ H fun x H1 => tb σ H1 fun y H2 => rr x y H2 Q) : tOp rr ta tb σ H Q := h
theorem g_seq (h : tu { D with nx := tw D } σ H) : tSeq tu tw D σ H := h
theorem g_set {i : Nat} (h : te σ H fun x H1 => D.nx (σ.set i (some x)) H1) : tAsg te (gName i) D σ H := h
theorem q_set {i : Nat} (h : te σ H fun x H1 => tw D (σ.set i (some x)) H1) : tSeq (tAsg te (gName i)) tw D σ H := h
theorem q_dr (h : te σ H fun _ H1 => tw D σ H1) : tSeq (tDrop te) tw D σ H := h
theorem g_drop (h : te σ H fun _ H1 => D.nx σ H1) : tDrop te D σ H := h
theorem g_test (h : te σ H fun x H1 => ∃ k, x = .bl k ∧ QB k H1) : tTest te σ H QB := h
theorem g_call {sp : Sp} {dvs : List V} {E : XK} (h : ts σ H fun vs H1 => sp (vs ++ dvs) H1 Q E) : tCall sp dvs E ts σ H Q := h
end
/-! ### data that == compares -/
structure EncOk {α : Type} [DecidableEq α] (f : α → PyData) (n : Nat) : Prop where
  eq : ∀ x y, PyData.eqv (f x) (f y) = decide (x = y)
  lay : ∀ x, PyData.canLay0 (f x) = true
  dep : ∀ x, PyData.depth (f x) ≤ n
theorem EncOk.shaped {α : Type} [DecidableEq α] {f : α → PyData} {n : Nat} (h : EncOk f n) (hn : n ≤ 64) (x : α) : SeqAt.shaped (f x) = true := by
  unfold SeqAt.shaped
  rw [h.lay x]
  exact decide_eq_true (Nat.le_trans (h.dep x) hn)
theorem encInt : EncOk PyData.int 0 where
  eq := fun x y => by
    simp only [PyData.eqv]
    by_cases h : x = y
    · rw [h, decide_eq_true rfl, beq_self_eq_true]
    · rw [decide_eq_false h]
      exact beq_eq_false_iff_ne.mpr h
  lay := fun x => by simp only [PyData.canLay0]
  dep := fun x => by simp [PyData.depth]
section
variable {α β : Type} [DecidableEq α] [DecidableEq β] {f : α → PyData} {g : β → PyData} {n m : Nat}
theorem eqvAll_map (h : EncOk f n) : ∀ xs ys : List α, PyData.eqvAll (xs.map f) (ys.map f) = decide (xs = ys)
  | [], [] => by simp [PyData.eqvAll]
  | [], y :: ys => by simp [PyData.eqvAll]
  | x :: xs, [] => by simp [PyData.eqvAll]
  | x :: xs, y :: ys => by
    simp only [List.map_cons, PyData.eqvAll]
    rw [h.eq, eqvAll_map h xs ys]
    by_cases e : x = y
    · by_cases e2 : xs = ys
      · simp [e, e2]
      · simp [e, e2]
    · simp [e]
theorem canLayAll_map (h : EncOk f n) : ∀ xs : List α, PyData.canLayAll0 (xs.map f) = true
  | [] => by simp [PyData.canLayAll0]
  | x :: xs => by
    simp only [List.map_cons, PyData.canLayAll0]
    rw [h.lay, canLayAll_map h xs]
    rfl
theorem depthAll_map (h : EncOk f n) : ∀ xs : List α, PyData.depthAll (xs.map f) ≤ n
  | [] => by simp [PyData.depthAll]
  | x :: xs => by
    simp only [List.map_cons, PyData.depthAll]
    have h1 := h.dep x
    have h2 := depthAll_map h xs
    omega
theorem encList (h : EncOk f n) : EncOk (fun xs : List α => PyData.list (xs.map f)) (n + 1) where
  eq := fun x y => by
    simp only [PyData.eqv]
    exact eqvAll_map h x y
  lay := fun x => by
    simp only [PyData.canLay0]
    exact canLayAll_map h x
  dep := fun x => by
    simp only [PyData.depth]
    have := depthAll_map h x
    omega
theorem encPair (h : EncOk f n) (k : EncOk g m) : EncOk (fun p : α × β => PyData.tuple [f p.1, g p.2]) (n + m + 1) where
  eq := fun x y => by
    simp only [PyData.eqv, PyData.eqvAll]
    rw [h.eq, k.eq]
    cases x with
    | mk x1 x2 =>
      cases y with
      | mk y1 y2 =>
        by_cases e : x1 = y1
        · by_cases e2 : x2 = y2
          · simp [e, e2]
          · simp [e, e2]
        · simp [e]
  lay := fun x => by
    simp only [PyData.canLay0, PyData.canLayAll0]
    rw [h.lay, k.lay]
    rfl
  dep := fun x => by
    simp only [PyData.depth, PyData.depthAll]
    have h1 := h.dep x.1
    have h2 := k.dep x.2
    omega
end
abbrev dI (ns : List Int) : PyData := .list (ns.map PyData.int)
abbrev dII (rows : List (List Int)) : PyData := .list (rows.map dI)
theorem encI : EncOk dI 1 := encList encInt
theorem encII : EncOk dII 2 := encList encI
section
variable {K : PySem.W.Frag} {H H' : Hp}
mutual
theorem dp_mono (e : Ex H H') : ∀ {v : V} {d : PyData}, Dp K H v d → Dp K H' v d
  | _, _, .non => .non
  | _, _, .bl b => .bl b
  | _, _, .int i => .int i
  | _, _, .str x => .str x
  | _, _, .lst h a => .lst (ex_l e h) (dpAll_mono e a)
  | _, _, .tup h a => .tup (ex_t e h) (dpAll_mono e a)
theorem dpAll_mono (e : Ex H H') : ∀ {vs : List V} {ds : List PyData}, DpAll K H vs ds → DpAll K H' vs ds
  | _, _, .nil => .nil
  | _, _, .cons h a => .cons (dp_mono e h) (dpAll_mono e a)
end
theorem dpAll_ints : ∀ ns : List Int, DpAll K H (ns.map V.int) (ns.map PyData.int)
  | [] => .nil
  | n :: ns => .cons (.int n) (dpAll_ints ns)
theorem dp_ints {a : Addr} {ns : List Int} (h : SqL K H a (ns.map V.int)) : Dp K H (.ref a) (dI ns) := .lst h (dpAll_ints ns)
variable {α : Type} [DecidableEq α] {f : α → PyData} {n : Nat} {x y : α} {v w : V}
/-- v == w, v != w of data -/
theorem rv_eqD (F : EncOk f n) (hn : n ≤ 64) (h1 : Dp K H v (f x)) (h2 : Dp K H w (f y)) : RV (rEqD K) v w H (.bl (decide (x = y))) := fun H1 e Q q =>
  ⟨f x, f y, dp_mono e h1, dp_mono e h2, F.shaped hn x, F.shaped hn y, by rw [F.eq]; exact q H1 (Ex.refl H1)⟩
theorem rv_neD (F : EncOk f n) (hn : n ≤ 64) (h1 : Dp K H v (f x)) (h2 : Dp K H w (f y)) : RV (rNeD K) v w H (.bl (!decide (x = y))) := fun H1 e Q q =>
  ⟨f x, f y, dp_mono e h1, dp_mono e h2, F.shaped hn x, F.shaped hn y, by rw [F.eq]; exact q H1 (Ex.refl H1)⟩
theorem rv_neS (F : EncOk f n) (hn : n ≤ 64) (h1 : Dp K H v (f x)) (h2 : Dp K H w (f x)) : RV (rNeD K) v w H (.bl false) := by
  have h := rv_neD F hn h1 h2
  rw [decide_eq_true rfl] at h
  exact h
theorem rv_eqS (F : EncOk f n) (hn : n ≤ 64) (h1 : Dp K H v (f x)) (h2 : Dp K H w (f x)) : RV (rEqD K) v w H (.bl true) := by
  have h := rv_eqD F hn h1 h2
  rw [decide_eq_true rfl] at h
  exact h
end
section
variable {K : PySem.W.Frag} {σ : L2.St} {H : Hp} {te : TE} {ta : TA} {j : Nat} {vs : List Nat} {t : TT}
/-- [te for j in range(n)], with a test -/
theorem el_rng {n : Nat} (p : Nat → Bool) (v : Nat → V) (h : EvA ta σ H [.int (n : Int)]) (hn : n ≤ 40000) (hw : ∀ x, wipe ((wipe σ vs).set j (some x)) vs = wipe σ vs)
    (ht : ∀ (i : Nat) H1, Ex H H1 → i < n → EvT t ((wipe σ vs).set j (some (.int (i : Int)))) H1 (p i)) (he : ∀ (i : Nat) H1, Ex H H1 → i < n → p i = true → Ev te ((wipe σ vs).set j (some (.int (i : Int)))) H1 (v i)) :
    EvL (tLc (iRng1 ta) (gName j) t te vs) σ H (((List.range n).filter p).map v) := by
  have L := el_lcR1 (t := t) (te := te) (j := j) (vs := vs) (n := (n : Int)) p v h ⟨by omega, by omega⟩ hw (fun i H1 e hi => ht i H1 e (by omega)) (fun i H1 e hi hp => he i H1 e (by omega) hp)
  rw [Int.toNat_natCast] at L
  exact L
theorem el_rngA {n : Nat} (v : Nat → V) (h : EvA ta σ H [.int (n : Int)]) (hn : n ≤ 40000) (hw : ∀ x, wipe ((wipe σ vs).set j (some x)) vs = wipe σ vs)
    (he : ∀ (i : Nat) H1, Ex H H1 → i < n → Ev te ((wipe σ vs).set j (some (.int (i : Int)))) H1 (v i)) :
    EvL (tLc (iRng1 ta) (gName j) tYes te vs) σ H ((List.range n).map v) := by
  have L := el_rng (t := tYes) (te := te) (j := j) (vs := vs) (fun _ => true) v h hn hw (fun _ _ _ _ => et_yes) (fun i H1 e hi _ => he i H1 e hi)
  rw [List.filter_eq_self.mpr (fun _ _ => rfl)] at L
  exact L
end
section
variable {K : PySem.W.Frag} {σ : L2.St} {H H' : Hp} {te tl : TE} {t : TT} {a : Addr} {j : Nat} {vs : List Nat}
/-- as el_by, over a list that is new -/
theorem el_byN {α : Type} [Inhabited α] {xs : List α} {enc : α → V} (p : α → Bool) (g : α → V) (h : EvL tl σ H (xs.map enc)) (hz : xs.length ≤ 40000) (hw : ∀ x, wipe ((wipe σ vs).set j (some x)) vs = wipe σ vs)
    (ht : ∀ x ∈ xs, ∀ H1, Ex H H1 → EvT t ((wipe σ vs).set j (some (enc x))) H1 (p x)) (he : ∀ x ∈ xs, ∀ H1, Ex H H1 → p x = true → Ev te ((wipe σ vs).set j (some (enc x))) H1 (g x)) :
    EvL (tLc (iList K tl) (gName j) t te vs) σ H ((xs.filter p).map g) := fun H0 e0 Q q => h H0 e0 _ fun a H1 ha e1 hx =>
  el_by (tl := tC (.ref a)) p g ev_c (sq_of hx) hz hw (fun x m H2 e2 => ht x m H2 ((e0.trans e1).trans e2)) (fun x m H2 e2 => he x m H2 ((e0.trans e1).trans e2)) H1 (Ex.refl H1) Q fun p H2 hp e2 h2 => q p H2 (fresh_back e1 hp) (e1.trans e2) h2
theorem el_allN {α : Type} [Inhabited α] {xs : List α} {enc : α → V} (g : α → V) (h : EvL tl σ H (xs.map enc)) (hz : xs.length ≤ 40000) (hw : ∀ x, wipe ((wipe σ vs).set j (some x)) vs = wipe σ vs)
    (he : ∀ x ∈ xs, ∀ H1, Ex H H1 → Ev te ((wipe σ vs).set j (some (enc x))) H1 (g x)) :
    EvL (tLc (iList K tl) (gName j) tYes te vs) σ H (xs.map g) := by
  have L := el_byN (K := K) (t := tYes) (te := te) (j := j) (vs := vs) (fun _ => true) g h hz hw (fun _ _ _ _ => et_yes) (fun x m H1 e1 _ => he x m H1 e1)
  rw [List.filter_eq_self.mpr (fun _ _ => rfl)] at L
  exact L
end
/-! ### lists of lists -/
/-- at a stands a list of lists, to be read -/
def LV (K : PySem.W.Frag) (H : Hp) (a : Addr) (ys : List (List V)) : Prop :=
  ∃ ps : List Addr, SqL K H a (ps.map V.ref) ∧ ps.length = ys.length ∧ ∀ (i : Nat) (q : Addr) (y : List V), ps[i]? = some q → ys[i]? = some y → SqL K H q y
/-- rows of ints -/
abbrev iv (rows : List (List Int)) : List (List V) := rows.map fun r => r.map V.int
abbrev LL (K : PySem.W.Frag) (H : Hp) (a : Addr) (rows : List (List Int)) : Prop := LV K H a (iv rows)
/-- at p stands a new list of new lists: what may be changed. H0: the heap in which all of them were not there -/
structure LNew (H0 H : Hp) (p : Addr) (ps : List Addr) (ys : List (List V)) : Prop where
  new : H0 p = none
  top : H p = some (.lst (ps.map V.ref))
  len : ps.length = ys.length
  nd : (p :: ps).Nodup
  at_ : ∀ (i : Nat) (q : Addr) (y : List V), ps[i]? = some q → ys[i]? = some y → H0 q = none ∧ H q = some (.lst y)
section
variable {K : PySem.W.Frag} {H H' H0 : Hp} {a p : Addr} {ps : List Addr} {ys : List (List V)} {rows : List (List Int)}
theorem LV.mono (e : Ex H H') (h : LV K H a ys) : LV K H' a ys := by
  obtain ⟨ps, h1, h2, h3⟩ := h
  exact ⟨ps, ex_l e h1, h2, fun i q y h4 h5 => ex_l e (h3 i q y h4 h5)⟩
theorem LNew.lv (h : LNew H0 H p ps ys) : LV K H p ys := ⟨ps, sq_of h.top, h.len, fun i q y h1 h2 => sq_of (h.at_ i q y h1 h2).2⟩
theorem LNew.ext (h : LNew H0 H p ps ys) (e : Ex H H') : LNew H0 H' p ps ys := ⟨h.new, e _ _ h.top, h.len, h.nd, fun i q y h1 h2 => ⟨(h.at_ i q y h1 h2).1, e _ _ (h.at_ i q y h1 h2).2⟩⟩
/-- seen from an earlier heap -/
theorem LNew.back {Hb : Hp} (h : LNew H0 H p ps ys) (e : Ex Hb H0) : LNew Hb H p ps ys := ⟨fresh_back e h.new, h.top, h.len, h.nd, fun i q y h1 h2 => ⟨fresh_back e (h.at_ i q y h1 h2).1, (h.at_ i q y h1 h2).2⟩⟩
theorem LNew.app {i : Nat} {q : Addr} {y y' : List V} (h : LNew H0 H p ps ys) (hi : ps[i]? = some q) (hy : ys[i]? = some y) : LNew H0 (upd H q (.lst y')) p ps (ys.set i y') := by
  have hpq : p ≠ q := fun e => (List.nodup_cons.mp h.nd).1 (e ▸ List.mem_of_getElem? hi)
  refine ⟨h.new, by rw [upd_ne hpq]; exact h.top, by rw [List.length_set]; exact h.len, h.nd, fun k r z h1 h2 => ?_⟩
  by_cases e : k = i
  · subst e
    have : r = q := Option.some.inj (h1.symm.trans hi)
    subst this
    have hk : k < ys.length := (List.getElem?_eq_some_iff.mp hy).1
    rw [List.getElem?_set_self hk] at h2
    exact ⟨(h.at_ k r y hi hy).1, by rw [upd_same, Option.some.inj h2]⟩
  · rw [List.getElem?_set_ne (fun z => e z.symm)] at h2
    have hr : r ≠ q := fun z => e (nd_ix (List.nodup_cons.mp h.nd).2 (z ▸ h1) hi)
    rw [upd_ne hr]
    exact h.at_ k r z h1 h2
/-- one more new list behind the others -/
theorem LNew.push {H2 : Hp} {q : Addr} {y : List V} (L : LNew H0 H p ps ys) (ex : Ex H0 H) (e2 : Ex H H2) (hq : H q = none) (h2 : H2 q = some (.lst y)) : LNew H0 (upd H2 p (.lst (ps.map V.ref ++ [.ref q]))) p (ps ++ [q]) (ys ++ [y]) := by
  have nD : q ≠ p := fun z => by
    rw [z, L.top] at hq
    cases hq
  refine ⟨L.new, ?_, ?_, ?_, ?_⟩
  · rw [upd_same, List.map_append]
    rfl
  · rw [List.length_append, List.length_append, L.len]
    rfl
  · have nd := L.nd
    rw [List.nodup_cons] at nd ⊢
    refine ⟨fun m => ?_, ?_⟩
    · rcases List.mem_append.mp m with m | m
      · exact nd.1 m
      · exact nD (List.mem_singleton.mp m).symm
    · refine nd_snoc nd.2 fun m => ?_
      obtain ⟨k, hk⟩ := List.getElem?_of_mem m
      have hk2 : k < ys.length := by
        rw [← L.len]
        exact (List.getElem?_eq_some_iff.mp hk).1
      have := (L.at_ k q _ hk (List.getElem?_eq_getElem hk2)).2
      rw [hq] at this
      cases this
  · intro k r y2 h3 h4
    by_cases hk : k < ps.length
    · rw [List.getElem?_append_left hk] at h3
      rw [List.getElem?_append_left (by rw [← L.len]; exact hk)] at h4
      have a1 := L.at_ k r y2 h3 h4
      refine ⟨a1.1, ?_⟩
      have nr : r ≠ p := fun z => by
        rw [z] at h3
        exact (List.nodup_cons.mp L.nd).1 (List.mem_of_getElem? h3)
      rw [upd_ne nr]
      exact e2 _ _ a1.2
    · have hk2 : k = ps.length := by
        have := (List.getElem?_eq_some_iff.mp h3).1
        rw [List.length_append] at this
        have : k < ps.length + 1 := this
        omega
      subst hk2
      rw [List.getElem?_append_right (Nat.le_refl _), Nat.sub_self] at h3
      rw [List.getElem?_append_right (by rw [← L.len]; exact Nat.le_refl _), ← L.len, Nat.sub_self] at h4
      obtain rfl : q = r := Option.some.inj h3
      obtain rfl : y = y2 := Option.some.inj h4
      rw [upd_ne nD]
      exact ⟨fresh_back ex hq, h2⟩
theorem LNew.exm {i : Nat} {q : Addr} {o : HO} (h : LNew H0 H p ps ys) (hi : ps[i]? = some q) (e : Ex H0 H) : Ex H0 (upd H q o) := by
  have hl : i < ys.length := by
    have := (List.getElem?_eq_some_iff.mp hi).1
    have := h.len
    omega
  exact Ex.mut e (h.at_ i q ys[i] hi (List.getElem?_eq_getElem hl)).1
theorem LNew.at2 {i : Nat} (h : LNew H0 H p ps ys) (hi : i < ys.length) : ∃ q, ps[i]? = some q ∧ H q = some (.lst ys[i]) := by
  have h1 : i < ps.length := by
    have := h.len
    omega
  exact ⟨ps[i], List.getElem?_eq_getElem h1, (h.at_ i _ _ (List.getElem?_eq_getElem h1) (List.getElem?_eq_getElem hi)).2⟩
theorem at_refs {i : Nat} {q : Addr} (h : ps[i]? = some q) : atI (ps.map V.ref) (i : Int) = some (.ref q) := atI_nat (by rw [List.getElem?_map, h]; rfl)
theorem LV.at2 {i : Nat} (h : LV K H a ys) (hi : i < ys.length) : ∃ (ps : List Addr) (q : Addr), SqL K H a (ps.map V.ref) ∧ ps.length = ys.length ∧ ps[i]? = some q ∧ SqL K H q ys[i] := by
  obtain ⟨ps, h1, h2, h3⟩ := h
  have h4 : i < ps.length := by omega
  exact ⟨ps, ps[i], h1, h2, List.getElem?_eq_getElem h4, h3 i _ _ (List.getElem?_eq_getElem h4) (List.getElem?_eq_getElem hi)⟩
theorem dpAll_of {f : List Int → PyData} : ∀ {ps : List Addr} {rows : List (List Int)}, ps.length = rows.length → (∀ (i : Nat) q r, ps[i]? = some q → rows[i]? = some r → Dp K H (.ref q) (f r)) → DpAll K H (ps.map V.ref) (rows.map f)
  | [], [], _, _ => .nil
  | [], _ :: _, h, _ => by cases h
  | _ :: _, [], h, _ => by cases h
  | p :: ps, r :: rows, hl, h => .cons (h 0 p r rfl rfl) (dpAll_of (Nat.succ.inj hl) fun i q s h1 h2 => h (i + 1) q s h1 h2)
theorem LL.dp (h : LL K H a rows) : Dp K H (.ref a) (dII rows) := by
  obtain ⟨ps, h1, h2, h3⟩ := h
  rw [List.length_map] at h2
  exact .lst h1 (dpAll_of h2 fun i q r h4 h5 => dp_ints (h3 i q _ h4 (by rw [List.getElem?_map, h5]; rfl)))
/-- row i of rows that are read -/
theorem ev_row {σ : L2.St} {ta tb : TE} {i : Nat} (h : LL K H a rows) (hi : i < rows.length) (ha : Ev ta σ H (.ref a)) (hb : Ev tb σ H (.int (i : Int))) :
    ∃ q, Ev (tOp (rIxL K) ta tb) σ H (.ref q) ∧ SqL K H q ((rows.getD i []).map V.int) := by
  obtain ⟨ps, q, h1, h2, h3, h4⟩ := h.at2 (i := i) (by rw [List.length_map]; exact hi)
  refine ⟨q, ev_op ha hb (rv_ixL h1 (at_refs h3)), ?_⟩
  have e : (iv rows)[i]'(by rw [List.length_map]; exact hi) = (rows.getD i []).map V.int := by simp [List.getD_eq_getElem?_getD, hi]
  rw [e] at h4
  exact h4
theorem ev_lenLL {σ : L2.St} {ta : TE} (h : LV K H a ys) (ha : Ev ta σ H (.ref a)) : Ev (tCB (rLenS K) (tCons ta tNil)) σ H (.int (ys.length : Int)) := by
  obtain ⟨ps, h1, h2, _⟩ := h
  have := ev_len ha h1
  rw [List.length_map, h2] at this
  exact this
theorem ev_lenI {σ : L2.St} {ta : TE} {ns : List Int} (h : SqL K H a (ns.map V.int)) (ha : Ev ta σ H (.ref a)) : Ev (tCB (rLenS K) (tCons ta tNil)) σ H (.int (ns.length : Int)) := by
  have := ev_len ha h
  rw [List.length_map] at this
  exact this
/-- a new list of new lists -/
def EvN (te : TE) (σ : L2.St) (H : Hp) (ys : List (List V)) : Prop := ∀ H1, Ex H H1 → ∀ Q : VK, (∀ p ps H2, LNew H1 H2 p ps ys → Ex H1 H2 → Q (.ref p) H2) → te σ H1 Q
/-- [te for x in xs], each te a new list -/
theorem en_ys {α : Type} {σ : L2.St} {te tl : TE} {j : Nat} {vs : List Nat} {xs : List α} {enc : α → V} {ys : List (List V)} (h : Ev tl σ H (.ref a)) (hx : SqL K H a (xs.map enc)) (hz : xs.length ≤ 40000) (hl : ys.length = xs.length)
    (hw : ∀ x, wipe ((wipe σ vs).set j (some x)) vs = wipe σ vs)
    (he : ∀ (i : Nat) (x : α) (y : List V) H1, xs[i]? = some x → ys[i]? = some y → Ex H H1 → EvL te ((wipe σ vs).set j (some (enc x))) H1 y) : EvN (tLc (iList K tl) (gName j) tYes te vs) σ H ys := by
  intro H0 e0 Q q
  refine h H0 e0 _ fun H1 e1 => ⟨a, rfl, ⟨_, ex_l (e0.trans e1) hx⟩, fun D hD => ?_⟩
  refine lc_list (K := K) (a := a) (xs := xs.map enc) (fun i H' => ∃ ps : List Addr, Ex H1 H' ∧ LNew H1 H' D ps (ys.take i)) ⟨[], Ex.new hD, hD, upd_same, by simp, by simp, fun i q y h1 => by simp at h1⟩
    (fun i H' _ p => ex_l ((e0.trans e1).trans p.choose_spec.1) hx) (fun i x H' hi p => ?_) (fun H' p => ?_)
  · obtain ⟨ps, ex, L⟩ := p
    rw [List.getElem?_map] at hi
    cases ei : xs[i]? with
    | none =>
      rw [ei] at hi
      cases hi
    | some y =>
      rw [ei] at hi
      obtain rfl : enc y = x := Option.some.inj hi
      have hil : i < xs.length := (List.getElem?_eq_some_iff.mp ei).1
      have hiy : i < ys.length := by omega
      refine ⟨hw _, iteT (B := ∃ ps : List Addr, Ex H1 H' ∧ LNew H1 H' D ps (ys.take (i + 1))) ?_⟩
      refine he i y ys[i] H' ei (List.getElem?_eq_getElem hiy) ((e0.trans e1).trans ex) H' (Ex.refl H') _ fun p H2 hp e2 h2 => ⟨ps.map V.ref, e2 _ _ L.top, sz_lt ?_, ps ++ [p], Ex.mut (ex.trans e2) hD, ?_⟩
      · have := L.len
        rw [List.length_take] at this
        rw [List.length_map]
        omega
      · have et : ys.take (i + 1) = ys.take i ++ [ys[i]] := by
          rw [List.take_add_one, List.getElem?_eq_getElem hiy]
          rfl
        rw [et]
        exact L.push ex e2 hp h2
  · obtain ⟨ps, ex, L⟩ := p
    have et : ys.take (xs.map enc).length = ys := by rw [List.length_map, ← hl, List.take_length]
    rw [et] at L
    exact q D ps H' (L.back e1) (e1.trans ex)
/-- [list(x) for x in xs] -/
theorem en_copy {σ : L2.St} {tl : TE} {j : Nat} {vs : List Nat} {ys : List (List V)} (h : Ev tl σ H (.ref a)) (hx : LV K H a ys) (hz : ys.length ≤ 40000) (hj : ∀ x, ((wipe σ vs).set j (some x))[j]? = some (some x))
    (hw : ∀ x, wipe ((wipe σ vs).set j (some x)) vs = wipe σ vs) : EvN (tLc (iList K tl) (gName j) tYes (tCB (rListS K) (tCons (tVar j) tNil)) vs) σ H ys := by
  obtain ⟨ps, h1, h2, h3⟩ := hx
  exact en_ys (xs := ps) (enc := V.ref) h h1 (by omega) h2.symm hw fun i x y H1 hi hy e1 => el_list (ev_var (hj _)) (ex_l e1 (h3 i x y hi hy))
theorem q_asgN {σ : L2.St} {te : TE} {ys : List (List V)} {i : Nat} {tz : TS} {D : Ends} (h : EvN te σ H ys) (k : ∀ p ps H1, LNew H H1 p ps ys → Ex H H1 → tz D (σ.set i (some (.ref p))) H1) : tSeq (tAsg te (gName i)) tz D σ H := h H (Ex.refl H) _ k
end
/-! ### heaps that are filled -/
theorem flat_set {α : Type} : ∀ {hs : List (List α)} {i : Nat} {h : List α} {x : α}, hs[i]? = some h → (hs.set i (h ++ [x])).flatten.length = hs.flatten.length + 1
  | [], _, _, _, h => by simp at h
  | h0 :: r, 0, h, x, e => by
    obtain rfl : h0 = h := Option.some.inj e
    simp
    omega
  | h0 :: r, i + 1, h, x, e => by
    have ih := flat_set (hs := r) (i := i) (h := h) (x := x) e
    simp only [List.set_cons_succ, List.flatten_cons, List.length_append]
    omega
/-- pn new heaps of goods, told by hs -/
structure Hps (H0 H : Hp) (p : Addr) (ps : List Addr) (hs : List (List Int)) (pn gn k : Nat) : Prop where
  L : LNew H0 H p ps (iv hs)
  ex : Ex H0 H
  len : hs.length = pn
  ins : ∀ h ∈ hs, Inside gn h
  few : hs.flatten.length ≤ k
theorem Hps.ext {H0 H H' : Hp} {p : Addr} {ps : List Addr} {hs : List (List Int)} {pn gn k : Nat} (h : Hps H0 H p ps hs pn gn k) (e : Ex H H') : Hps H0 H' p ps hs pn gn k := ⟨h.L.ext e, h.ex.trans e, h.len, h.ins, h.few⟩
theorem Hps.le {H0 H : Hp} {p : Addr} {ps : List Addr} {hs : List (List Int)} {pn gn k k' : Nat} (h : Hps H0 H p ps hs pn gn k) (e : k ≤ k') : Hps H0 H p ps hs pn gn k' := ⟨h.L, h.ex, h.len, h.ins, Nat.le_trans h.few e⟩
theorem flat_len_at {hs : List (List Int)} {h : List Int} (m : h ∈ hs) : h.length ≤ hs.flatten.length := by
  obtain ⟨a, b, rfl⟩ := List.append_of_mem m
  simp
  omega
/-- a written list of one list -/
theorem lv_one {K : PySem.W.Frag} {H : Hp} {a b : Addr} {r : List Int} (h : H a = some (.lst [V.ref b])) (h2 : H b = some (.lst (r.map V.int))) : LL K H a [r] := by
  refine ⟨[b], sq_of h, rfl, fun i q y h3 h4 => ?_⟩
  cases i with
  | zero =>
    obtain rfl : b = q := Option.some.inj h3
    obtain rfl : r.map V.int = y := Option.some.inj h4
    exact sq_of h2
  | succ i => simp at h3
theorem lv_two {K : PySem.W.Frag} {H : Hp} {a b c : Addr} {r t : List Int} (h : H a = some (.lst [V.ref b, V.ref c])) (h2 : H b = some (.lst (r.map V.int))) (h5 : H c = some (.lst (t.map V.int))) : LL K H a [r, t] := by
  refine ⟨[b, c], sq_of h, rfl, fun i q y h3 h4 => ?_⟩
  cases i with
  | zero =>
    obtain rfl : b = q := Option.some.inj h3
    obtain rfl : r.map V.int = y := Option.some.inj h4
    exact sq_of h2
  | succ i =>
    cases i with
    | zero =>
      obtain rfl : c = q := Option.some.inj h3
      obtain rfl : t.map V.int = y := Option.some.inj h4
      exact sq_of h5
    | succ i => simp at h3
theorem Hps.app {H0 H : Hp} {p : Addr} {ps : List Addr} {hs : List (List Int)} {pn gn k i j : Nat} (h : Hps H0 H p ps hs pn gn k) (hi : i < pn) (hj : j < gn) :
    ∃ q, ps[i]? = some q ∧ H q = some (.lst ((hs.getD i []).map V.int)) ∧ ∀ H', Ex H H' → Hps H0 (upd H' q (.lst ((hs.getD i []).map V.int ++ [.int (j : Int)]))) p ps (hs.set i (hs.getD i [] ++ [(j : Int)])) pn gn (k + 1) := by
  have hil : i < hs.length := by
    rw [h.len]
    exact hi
  have eh : hs.getD i [] = hs[i] := by simp [List.getD_eq_getElem?_getD, hil]
  have ehs : hs[i]? = some (hs.getD i []) := by rw [eh]; exact List.getElem?_eq_getElem hil
  have ey : (iv hs)[i]? = some ((hs.getD i []).map V.int) := by rw [List.getElem?_map, ehs]; rfl
  have hip : i < ps.length := by
    have := h.L.len
    rw [List.length_map] at this
    omega
  have hq : ps[i]? = some ps[i] := List.getElem?_eq_getElem hip
  refine ⟨ps[i], hq, (h.L.at_ i _ _ hq ey).2, fun H' e => ?_⟩
  refine ⟨?_, (h.L.ext e).exm hq (h.ex.trans e), by rw [List.length_set]; exact h.len, fun x hx => ?_, by rw [flat_set ehs]; have := h.few; omega⟩
  · have := (h.L.ext e).app (y' := (hs.getD i []).map V.int ++ [.int (j : Int)]) hq ey
    have es : iv (hs.set i (hs.getD i [] ++ [(j : Int)])) = (iv hs).set i ((hs.getD i []).map V.int ++ [.int (j : Int)]) := by
      show List.map _ _ = _
      rw [List.map_set, List.map_append]
      rfl
    rw [es]
    exact this
  · rcases List.mem_or_eq_of_mem_set hx with hx | rfl
    · exact h.ins x hx
    · intro g hg
      rcases List.mem_append.mp hg with hg | hg
      · exact h.ins _ (by rw [eh]; exact List.getElem_mem hil) g hg
      · rw [List.mem_singleton.mp hg]
        omega
theorem mod_range (x : Int) {m : Int} (h : 0 < m) : ∃ n : Nat, x % m = (n : Int) ∧ (n : Int) < m := by
  have h0 : 0 ≤ x % m := Int.emod_nonneg _ (by omega)
  have h1 : x % m < m := Int.emod_lt_of_pos _ h
  exact ⟨(x % m).toNat, by omega, by omega⟩
theorem shaped_list {ds : List PyData} (h : ∀ d ∈ ds, PyData.canLay0 d = true ∧ PyData.depth d ≤ 63) : SeqAt.shaped (.list ds) = true := by
  have h1 : ∀ ds : List PyData, (∀ d ∈ ds, PyData.canLay0 d = true ∧ PyData.depth d ≤ 63) → PyData.canLayAll0 ds = true ∧ PyData.depthAll ds ≤ 63 := by
    intro ds
    induction ds with
    | nil => intro _; simp [PyData.canLayAll0, PyData.depthAll]
    | cons d r ih =>
      intro h
      have a := h d List.mem_cons_self
      have b := ih fun x hx => h x (List.mem_cons_of_mem _ hx)
      simp only [PyData.canLayAll0, PyData.depthAll]
      rw [a.1, b.1]
      exact ⟨rfl, by omega⟩
  have a := h1 ds h
  unfold SeqAt.shaped
  simp only [PyData.canLay0, PyData.depth]
  rw [a.1]
  exact decide_eq_true (by omega)
section
variable {σ : L2.St} {H : Hp} {ts : TA} {Q : VK}
theorem g_lst (h : ts σ H fun xs H1 => xs.length ≤ sizeLine ∧ ∀ p, H1 p = none → Q (.ref p) (upd H1 p (.lst xs))) : tLst ts σ H Q := h
theorem g_tup (h : ts σ H fun xs H1 => xs.length ≤ sizeLine ∧ ∀ p, H1 p = none → Q (.ref p) (upd H1 p (.tup xs))) : tTup ts σ H Q := h
end
/-! ### a comprehension over a list of lists, flattened -/
theorem flat_take {α : Type} (yss : List (List α)) {i : Nat} (h : i < yss.length) : (yss.take (i + 1)).flatten = (yss.take i).flatten ++ yss[i] := by
  rw [List.take_add_one, List.getElem?_eq_getElem h, List.flatten_append]
  simp
section
variable {K : PySem.W.Frag} {σ : L2.St} {H : Hp} {te tl : TE} {a : Addr} {j j2 : Nat} {vs vs1 : List Nat}
/-- [te for ys in a for y in ys] -/
theorem el_flat {yss : List (List V)} (g : V → V) (h : Ev tl σ H (.ref a)) (hx : LV K H a yss) (hz : (yss.flatten).length ≤ 40000)
    (hj : ((wipe σ vs).set j (some (.ref a)))[j]? = some (some (.ref a)))
    (hw : ∀ x, wipe ((wipe σ vs).set j (some x)) vs = wipe σ vs) (hw1 : ∀ x y, wipe ((wipe ((wipe σ vs).set j (some x)) vs1).set j2 (some y)) vs1 = wipe ((wipe σ vs).set j (some x)) vs1)
    (he : ∀ (x y : V) H1, y ∈ yss.flatten → Ex H H1 → Ev te ((wipe ((wipe σ vs).set j (some x)) vs1).set j2 (some y)) H1 (g y)) :
    EvL (tLc2 (iList K tl) (gName j) tYes (iList K (tVar j)) (gName j2) tYes te vs vs1) σ H (yss.flatten.map g) := by
  intro H0 e0 Q q
  obtain ⟨ps, hs, hl, hat⟩ := hx
  have hjl : j < (wipe σ vs).length := by
    have := (List.getElem?_eq_some_iff.mp hj).1
    rw [List.length_set] at this
    exact this
  have fl : ∀ n, ((yss.take n).flatten).length ≤ yss.flatten.length := fun n => by
    have e : yss.flatten = (yss.take n).flatten ++ (yss.drop n).flatten := by rw [← List.flatten_append, List.take_append_drop]
    rw [e, List.length_append]
    omega
  refine h H0 e0 _ fun H1 e1 => ⟨a, rfl, ⟨_, ex_l (e0.trans e1) hs⟩, fun D hD => ?_⟩
  refine ⟨fun i m H' => m = ps.length - i ∧ i ≤ ps.length ∧ Ex H1 H' ∧ H' D = some (.lst ((yss.take i).flatten.map g)), ⟨ps.length, rfl, Nat.zero_le _, Ex.new hD, upd_same⟩, ?_⟩
  rintro i m H' ⟨rfl, hi, ex, hD'⟩
  have hS : SqL K H' a (ps.map V.ref) := ex_l ((e0.trans e1).trans ex) hs
  by_cases hlt : i < ps.length
  · have hy : i < yss.length := by omega
    refine .inr ⟨⟨_, _, hS, by rw [List.getElem?_map, List.getElem?_eq_getElem hlt]; rfl⟩, fun H'' => i + 1 ≤ ps.length ∧ Ex H1 H'' ∧ H'' D = some (.lst ((yss.take (i + 1)).flatten.map g)), fun H'' z => ⟨ps.length - (i + 1), by omega, rfl, z⟩, fun x H'' y => ?_⟩
    obtain ⟨rfl, hyl⟩ := y
    have ex' := hyl _ hS
    rw [List.getElem?_map, List.getElem?_eq_getElem hlt] at ex'
    obtain rfl : V.ref ps[i] = x := Option.some.inj ex'
    refine ⟨hw _, iteT (B := i + 1 ≤ ps.length ∧ Ex H1 H'' ∧ H'' D = some (.lst ((yss.take (i + 1)).flatten.map g))) ?_⟩
    have hq : SqL K H'' ps[i] yss[i] := ex_l ((e0.trans e1).trans ex) (hat i _ _ (List.getElem?_eq_getElem hlt) (List.getElem?_eq_getElem hy))
    refine ⟨.ref ps[i], by rw [List.getElem?_set_self hjl], ps[i], rfl, ⟨_, hq⟩, ?_⟩
    refine ⟨fun k m H3 => m = yss[i].length - k ∧ k ≤ yss[i].length ∧ Ex H1 H3 ∧ H3 D = some (.lst (((yss.take i).flatten ++ yss[i].take k).map g)), ⟨yss[i].length, rfl, Nat.zero_le _, ex, by simpa using hD'⟩, ?_⟩
    rintro k m H3 ⟨rfl, hk, ex3, hD3⟩
    have hq3 : SqL K H3 ps[i] yss[i] := ex_l ((e0.trans e1).trans ex3) (hat i _ _ (List.getElem?_eq_getElem hlt) (List.getElem?_eq_getElem hy))
    by_cases hkl : k < yss[i].length
    · refine .inr ⟨⟨_, _, hq3, List.getElem?_eq_getElem hkl⟩, fun H4 => k + 1 ≤ yss[i].length ∧ Ex H1 H4 ∧ H4 D = some (.lst (((yss.take i).flatten ++ yss[i].take (k + 1)).map g)), fun H4 z => ⟨yss[i].length - (k + 1), by omega, rfl, z⟩, fun y H4 z => ?_⟩
      obtain ⟨rfl, hyl2⟩ := z
      have ey := hyl2 _ hq3
      rw [List.getElem?_eq_getElem hkl] at ey
      obtain rfl : yss[i][k] = y := Option.some.inj ey
      refine ⟨hw1 _ _, iteT (B := k + 1 ≤ yss[i].length ∧ Ex H1 H4 ∧ H4 D = some (.lst (((yss.take i).flatten ++ yss[i].take (k + 1)).map g))) ?_⟩
      have hm : yss[i][k] ∈ yss.flatten := List.mem_flatten.mpr ⟨_, List.getElem_mem hy, List.getElem_mem hkl⟩
      refine he _ _ H4 hm ((e0.trans e1).trans ex3) H4 (Ex.refl H4) _ fun H5 e5 => ⟨_, e5 _ _ hD3, sz_lt ?_, by omega, Ex.mut (ex3.trans e5) hD, ?_⟩
      · rw [List.length_map, List.length_append, List.length_take]
        have h2 := fl (i + 1)
        rw [flat_take yss hy, List.length_append] at h2
        omega
      · rw [upd_same, List.take_add_one, List.getElem?_eq_getElem hkl, ← List.append_assoc, List.map_append (l₁ := (yss.take i).flatten ++ yss[i].take k)]
        rfl
    · have ek : k = yss[i].length := by omega
      subst ek
      refine .inl ⟨⟨_, hq3, Nat.le_refl _⟩, by omega, ex3, ?_⟩
      rw [hD3, flat_take yss hy, List.take_length]
  · have ei : i = ps.length := by omega
    subst ei
    refine .inl ⟨⟨_, hS, by rw [List.length_map]; exact Nat.le_refl _⟩, ?_⟩
    rw [hl, List.take_length] at hD'
    exact q D H' (fresh_back e1 hD) (e1.trans ex) hD'
end
/-! ### equal data -/
theorem rv_neR {K : PySem.W.Frag} {H : Hp} {v w : V} {d : PyData} (hs : SeqAt.shaped d = true) (h1 : Dp K H v d) (h2 : Dp K H w d) : RV (rNeD K) v w H (.bl false) := fun H1 e Q q =>
  ⟨d, d, dp_mono e h1, dp_mono e h2, hs, hs, by rw [SeqAt.eqv_refl d (SeqAt.canLay_of_shaped hs)]; exact q H1 (Ex.refl H1)⟩
theorem rv_eqR {K : PySem.W.Frag} {H : Hp} {v w : V} {d : PyData} (hs : SeqAt.shaped d = true) (h1 : Dp K H v d) (h2 : Dp K H w d) : RV (rEqD K) v w H (.bl true) := fun H1 e Q q =>
  ⟨d, d, dp_mono e h1, dp_mono e h2, hs, hs, by rw [SeqAt.eqv_refl d (SeqAt.canLay_of_shaped hs)]; exact q H1 (Ex.refl H1)⟩
/-! ### lists of pairs -/
/-- at p a list of new tuples of two ints -/
structure PNew (H : Hp) (p : Addr) (qs : List Addr) (ps : List (Int × Int)) : Prop where
  top : H p = some (.lst (qs.map V.ref))
  len : qs.length = ps.length
  at_ : ∀ (i : Nat) (q : Addr) (x : Int × Int), qs[i]? = some q → ps[i]? = some x → H q = some (.tup [.int x.1, .int x.2])
abbrev dP (ps : List (Int × Int)) : PyData := .list (ps.map fun x => PyData.tuple [.int x.1, .int x.2])
theorem encP : EncOk dP 2 := encList (encPair encInt encInt)
def RetP (ps : List (Int × Int)) (H : Hp) (Q : VK) : Prop := ∀ p qs H2, H p = none → Ex H H2 → PNew H2 p qs ps → Q (.ref p) H2
section
variable {K : PySem.W.Frag} {H H' : Hp} {p : Addr} {qs : List Addr} {ps : List (Int × Int)}
theorem PNew.ext (h : PNew H p qs ps) (e : Ex H H') : PNew H' p qs ps := ⟨e _ _ h.top, h.len, fun i q x h1 h2 => e _ _ (h.at_ i q x h1 h2)⟩
theorem PNew.push {t : Addr} {x : Int × Int} (P : PNew H p qs ps) (e : Ex H H') (ht : H t = none) (h2 : H' t = some (.tup [.int x.1, .int x.2])) : PNew (upd H' p (.lst (qs.map V.ref ++ [.ref t]))) p (qs ++ [t]) (ps ++ [x]) := by
  have ntp : t ≠ p := fun z => by
    rw [z, P.top] at ht
    cases ht
  refine ⟨?_, ?_, fun i q y h3 h4 => ?_⟩
  · rw [upd_same, List.map_append]
    rfl
  · rw [List.length_append, List.length_append, P.len]
    rfl
  · by_cases hi : i < qs.length
    · rw [List.getElem?_append_left hi] at h3
      rw [List.getElem?_append_left (by rw [← P.len]; exact hi)] at h4
      have a1 := P.at_ i q y h3 h4
      have nq : q ≠ p := ne_of a1 P.top (by intro z; cases z)
      rw [upd_ne nq]
      exact e _ _ a1
    · have hk : i = qs.length := by
        have := (List.getElem?_eq_some_iff.mp h3).1
        rw [List.length_append] at this
        have : i < qs.length + 1 := this
        omega
      subst hk
      rw [List.getElem?_append_right (Nat.le_refl _), Nat.sub_self] at h3
      rw [List.getElem?_append_right (by rw [← P.len]; exact Nat.le_refl _), ← P.len, Nat.sub_self] at h4
      obtain rfl : t = q := Option.some.inj h3
      obtain rfl : x = y := Option.some.inj h4
      rw [upd_ne ntp]
      exact h2
theorem dpAll_pairs : ∀ {qs : List Addr} {ps : List (Int × Int)}, qs.length = ps.length → (∀ (i : Nat) (q : Addr) (x : Int × Int), qs[i]? = some q → ps[i]? = some x → H q = some (.tup [.int x.1, .int x.2])) → DpAll K H (qs.map V.ref) (ps.map fun x => PyData.tuple [.int x.1, .int x.2])
  | [], [], _, _ => .nil
  | [], _ :: _, h, _ => by cases h
  | _ :: _, [], h, _ => by cases h
  | q :: qs, x :: ps, hl, h => .cons (.tup (st_of (h 0 q x rfl rfl)) (.cons (.int _) (.cons (.int _) .nil))) (dpAll_pairs (Nat.succ.inj hl) fun i q s h1 h2 => h (i + 1) q s h1 h2)
theorem PNew.dp (P : PNew H p qs ps) : Dp K H (.ref p) (dP ps) := .lst (sq_of P.top) (dpAll_pairs P.len P.at_)
end
theorem ev_isList {σ : L2.St} {K : PySem.W.Frag} {H : Hp} {te : TE} {a : Addr} {xs : List V} (h : Ev te σ H (.ref a)) (hx : H a = some (.lst xs)) : Ev (tCB (rIsi K) (tCons te (tCons (tC (.ty "list")) tNil))) σ H (.bl true) :=
  ev_cb (ea_cons h (ea_cons ev_c ea_nil)) fun H1 e Q q => ⟨_, _, _, _, true, rfl, .ty _, .base (.lst (e _ _ hx)), kit_ty (by decide +kernel), q H1 (Ex.refl H1)⟩
theorem ev_isTuple {σ : L2.St} {K : PySem.W.Frag} {H : Hp} {te : TE} {a : Addr} {xs : List V} (h : Ev te σ H (.ref a)) (hx : H a = some (.tup xs)) : Ev (tCB (rIsi K) (tCons te (tCons (tC (.ty "tuple")) tNil))) σ H (.bl true) :=
  ev_cb (ea_cons h (ea_cons ev_c ea_nil)) fun H1 e Q q => ⟨_, _, _, _, true, rfl, .ty _, .base (.tup (e _ _ hx)), kit_ty (by decide +kernel), q H1 (Ex.refl H1)⟩
theorem ev_lenT {σ : L2.St} {K : PySem.W.Frag} {H : Hp} {ta : TE} {p : Addr} {xs : List V} (ha : Ev ta σ H (.ref p)) (h : H p = some (.tup xs)) : Ev (tCB (rLenS K) (tCons ta tNil)) σ H (.int (xs.length : Int)) := fun H1 e Q q =>
  ha H1 e _ fun H2 e2 => ⟨p, xs, rfl, Or.inr (st_of ((e.trans e2) _ _ h)), q H2 e2⟩
/-! ### comprehensions over rows, over two lists at once -/
section
variable {K : PySem.W.Frag} {σ : L2.St} {H : Hp} {te tl : TE} {ta : TA} {a b : Addr} {j j1 j2 : Nat} {vs : List Nat}
/-- [te for row in rows] -/
theorem el_rows {rows : List (List Int)} (g : List Int → V) (h : Ev tl σ H (.ref a)) (hx : LL K H a rows) (hz : rows.length ≤ 40000) (hw : ∀ x, wipe ((wipe σ vs).set j (some x)) vs = wipe σ vs)
    (he : ∀ (i : Nat) (p : Addr) H1, i < rows.length → SqL K H1 p ((rows.getD i []).map V.int) → Ex H H1 → Ev te ((wipe σ vs).set j (some (.ref p))) H1 (g (rows.getD i []))) :
    EvL (tLc (iList K tl) (gName j) tYes te vs) σ H (rows.map g) := by
  obtain ⟨ps, h1, h2, h3⟩ := hx
  rw [List.length_map] at h2
  have L := el_lcL (t := tYes) (te := te) (j := j) (vs := vs) (fun _ => true) (fun i => g (rows.getD i [])) h h1 (by rw [List.length_map]; omega) hw (fun _ _ _ _ _ => et_yes)
    (fun i x H1 e1 hi _ => by
      rw [List.getElem?_map] at hi
      cases ei : ps[i]? with
      | none =>
        rw [ei] at hi
        cases hi
      | some p =>
        rw [ei] at hi
        obtain rfl : V.ref p = x := Option.some.inj hi
        have hil : i < rows.length := by
          have := (List.getElem?_eq_some_iff.mp ei).1
          omega
        have er : rows.getD i [] = rows[i] := by simp [List.getD_eq_getElem?_getD, hil]
        refine he i p H1 hil (ex_l e1 (h3 i p _ ei ?_)) e1
        rw [List.getElem?_map, List.getElem?_eq_getElem hil, er]
        rfl)
  rw [List.length_map, h2, given_all] at L
  exact L
/-- [te for x, y in zip(xs, ys)] -/
theorem el_zip {xs ys : List V} (v : Nat → V) (h : EvA ta σ H [.ref a, .ref b]) (hx : SqL K H a xs) (hy : SqL K H b ys) (hl : xs.length = ys.length) (hz : xs.length ≤ 40000)
    (hw : ∀ x y, wipe (((wipe σ vs).set j1 (some x)).set j2 (some y)) vs = wipe σ vs)
    (he : ∀ (i : Nat) (x y : V) H1, xs[i]? = some x → ys[i]? = some y → Ex H H1 → Ev te (((wipe σ vs).set j1 (some x)).set j2 (some y)) H1 (v i)) :
    EvL (tLc (iZip K ta) (gTup K 2 (gCons (gName j1) (gCons (gName j2) gNil))) tYes te vs) σ H ((List.range xs.length).map v) := by
  intro H0 e0 Q q
  refine h H0 e0 _ fun H1 e1 => ⟨a, b, xs, ys, rfl, ex_l (e0.trans e1) hx, ex_l (e0.trans e1) hy, fun D hD => ?_⟩
  refine ⟨fun i m H' => m = xs.length - i ∧ i ≤ xs.length ∧ Ex H1 H' ∧ H' D = some (.lst ((List.range i).map v)), ⟨xs.length, rfl, Nat.zero_le _, Ex.new hD, upd_same⟩, ?_⟩
  rintro i m H' ⟨rfl, hi, ex, hD'⟩
  have qx : SqL K H' a xs := ex_l ((e0.trans e1).trans ex) hx
  have qy : SqL K H' b ys := ex_l ((e0.trans e1).trans ex) hy
  by_cases hlt : i < xs.length
  · have hlt2 : i < ys.length := by omega
    refine .inr ⟨⟨xs, ys, _, _, qx, qy, List.getElem?_eq_getElem hlt, List.getElem?_eq_getElem hlt2⟩, fun H'' => i + 1 ≤ xs.length ∧ Ex H1 H'' ∧ H'' D = some (.lst ((List.range (i + 1)).map v)), fun H'' z => ⟨xs.length - (i + 1), by omega, rfl, z⟩, fun u H'' y => ?_⟩
    obtain ⟨T, x', y', rfl, hT, rfl, f1, f2⟩ := y
    have eT : Ex H' (upd H' T (.tup [x', y'])) := Ex.new hT
    refine ⟨T, [x', y'], rfl, .inl (.inl upd_same), rfl, x', [y'], rfl, y', [], rfl, rfl, hw _ _, iteT (B := i + 1 ≤ xs.length ∧ Ex H1 (upd H' T (.tup [x', y'])) ∧ (upd H' T (.tup [x', y'])) D = some (.lst ((List.range (i + 1)).map v))) ?_⟩
    refine he i x' y' _ (f1 _ qx) (f2 _ qy) (((e0.trans e1).trans ex).trans eT) _ (Ex.refl _) _ fun H3 e3 => ⟨_, e3 _ _ (eT _ _ hD'), sz_lt (by rw [List.length_map, List.length_range]; omega), by omega, Ex.mut ((ex.trans eT).trans e3) hD, ?_⟩
    rw [upd_same, List.range_succ, List.map_append]
    rfl
  · have ei : i = xs.length := by omega
    subst ei
    exact .inl ⟨⟨xs, ys, qx, qy, Or.inl (Nat.le_refl _)⟩, q D H' (fresh_back e1 hD) (e1.trans ex) hD'⟩
end
/-- at a stands a list of lists that this call, or the one asking, has made -/
def TV (H : Hp) (a : Addr) (ys : List (List V)) : Prop :=
  ∃ ps : List Addr, H a = some (.lst (ps.map V.ref)) ∧ ps.length = ys.length ∧ ∀ (i : Nat) (q : Addr) (y : List V), ps[i]? = some q → ys[i]? = some y → H q = some (.lst y)
theorem TV.mono {H H' : Hp} {a : Addr} {ys : List (List V)} (e : Ex H H') (h : TV H a ys) : TV H' a ys := by
  obtain ⟨ps, h1, h2, h3⟩ := h
  exact ⟨ps, e _ _ h1, h2, fun i q y h4 h5 => e _ _ (h3 i q y h4 h5)⟩
theorem LNew.tv {H0 H : Hp} {p : Addr} {ps : List Addr} {ys : List (List V)} (h : LNew H0 H p ps ys) : TV H p ys := ⟨ps, h.top, h.len, fun i q y h1 h2 => (h.at_ i q y h1 h2).2⟩
theorem TV.lv {K : PySem.W.Frag} {H : Hp} {a : Addr} {ys : List (List V)} (h : TV H a ys) : LV K H a ys := by
  obtain ⟨ps, h1, h2, h3⟩ := h
  exact ⟨ps, sq_of h1, h2, fun i q y h4 h5 => sq_of (h3 i q y h4 h5)⟩
/-! ### bids, heaps and sums -/
/-- bids: 1 to 9 rows of m bids -/
structure Bids (rows : List (List Int)) (m : Nat) : Prop where
  ne : 0 < rows.length
  l9 : rows.length ≤ 9
  m40 : m ≤ 40
  len : ∀ r ∈ rows, r.length = m
  ok : ∀ r ∈ rows, ∀ b ∈ r, 0 ≤ b ∧ b ≤ 1000000000000
theorem Bids.at_ {rows : List (List Int)} {m : Nat} (h : Bids rows m) {i : Nat} (hi : i < rows.length) : (rows.getD i []).length = m := by
  have e : rows.getD i [] = rows[i] := by simp [List.getD_eq_getElem?_getD, hi]
  rw [e]
  exact h.len _ (List.getElem_mem hi)
/-- heaps and sums that fit the bids -/
structure Fits (rows : List (List Int)) (m : Nat) (hs : List (List Int)) (ss : List Int) : Prop where
  hl : hs.length = rows.length
  sl : ss.length = rows.length
  ins : ∀ h ∈ hs, Inside m h
  few : hs.flatten.length ≤ 4000
theorem Fits.at_ {rows : List (List Int)} {m : Nat} {hs : List (List Int)} {ss : List Int} (F : Fits rows m hs ss) {i : Nat} (hi : i < rows.length) : Inside m (hs.getD i []) := by
  have h2 : i < hs.length := by
    rw [F.hl]
    exact hi
  have e : hs.getD i [] = hs[i] := by simp [List.getD_eq_getElem?_getD, h2]
  rw [e]
  exact F.ins _ (List.getElem_mem h2)
theorem Fits.few_at {rows : List (List Int)} {m : Nat} {hs : List (List Int)} {ss : List Int} (F : Fits rows m hs ss) {i : Nat} (hi : i < rows.length) : (hs.getD i []).length ≤ 4000 := by
  have h2 : i < hs.length := by
    rw [F.hl]
    exact hi
  have e : hs.getD i [] = hs[i] := by simp [List.getD_eq_getElem?_getD, h2]
  rw [e]
  exact Nat.le_trans (flat_len_at (List.getElem_mem h2)) F.few
theorem iv_flat (hs : List (List Int)) : (iv hs).flatten = hs.flatten.map V.int := by
  rw [List.map_flatten]
theorem any_flat {H : Hp} (hs : List (List Int)) : ∀ y ∈ (iv hs).flatten, Any H y := by
  intro y hy
  rw [iv_flat] at hy
  obtain ⟨g, hg, rfl⟩ := List.mem_map.mp hy
  exact .int g
def gainM (rows hs : List (List Int)) (ss : List Int) (i j : Nat) : Int := worthM (rows.getD i []) (hs.getD j []) * rows.length - ss.getD j 0
/-- append to one of the new lists -/
theorem LNew.put {H0 H : Hp} {p : Addr} {ps : List Addr} {hs : List (List Int)} {i : Nat} (h : LNew H0 H p ps (iv hs)) (hi : i < hs.length) :
    ∃ q, ps[i]? = some q ∧ H q = some (.lst ((hs.getD i []).map V.int)) ∧ ∀ H', Ex H H' → ∀ z : Int, LNew H0 (upd H' q (.lst ((hs.getD i []).map V.int ++ [.int z]))) p ps (iv (hs.set i (hs.getD i [] ++ [z]))) := by
  have ehs : hs[i]? = some (hs.getD i []) := by simp [List.getD_eq_getElem?_getD, hi]
  have ey : (iv hs)[i]? = some ((hs.getD i []).map V.int) := by rw [List.getElem?_map, ehs]; rfl
  have hip : i < ps.length := by
    have := h.len
    rw [List.length_map] at this
    omega
  have hq : ps[i]? = some ps[i] := List.getElem?_eq_getElem hip
  refine ⟨ps[i], hq, (h.at_ i _ _ hq ey).2, fun H' e z => ?_⟩
  have := (h.ext e).app (y' := (hs.getD i []).map V.int ++ [.int z]) hq ey
  have es : iv (hs.set i (hs.getD i [] ++ [z])) = (iv hs).set i ((hs.getD i []).map V.int ++ [.int z]) := by
    show List.map _ _ = _
    rw [List.map_set, List.map_append]
    rfl
  rw [es]
  exact this
/-! ### a heap without some of its objects -/
def msk (H : Hp) (l : List Addr) : Hp := fun b => if b ∈ l then none else H b
theorem msk_at {H : Hp} {l : List Addr} {b : Addr} (h : b ∉ l) : msk H l b = H b := by
  unfold msk
  rw [if_neg h]
theorem msk_of {H : Hp} {l : List Addr} {b : Addr} {o : HO} (h : msk H l b = some o) : H b = some o ∧ b ∉ l := by
  unfold msk at h
  by_cases m : b ∈ l
  · rw [if_pos m] at h
    cases h
  · rw [if_neg m] at h
    exact ⟨h, m⟩
theorem msk_ex {H H' : Hp} {l : List Addr} (h : ∀ b o, H b = some o → b ∉ l → H' b = some o) : Ex (msk H l) H' := fun b o e => h b o (msk_of e).1 (msk_of e).2
theorem ex_msk {Hb H : Hp} {l : List Addr} (e : Ex Hb H) (h : ∀ b ∈ l, Hb b = none) : Ex Hb (msk H l) := fun b o hb => by
  rw [msk_at fun m => by rw [h b m] at hb; cases hb]
  exact e b o hb
theorem LNew.msk {H0 H : Hp} {p : Addr} {ps : List Addr} {ys : List (List V)} {l : List Addr} (L : LNew H0 H p ps ys) (h : ∀ b ∈ l, H0 b ≠ none) : TV (msk H l) p ys := by
  have n : ∀ b, H0 b = none → b ∉ l := fun b hb m => h b m hb
  refine ⟨ps, by rw [msk_at (n p L.new)]; exact L.top, L.len, fun i q y h1 h2 => ?_⟩
  have a := L.at_ i q y h1 h2
  rw [msk_at (n q a.1)]
  exact a.2
theorem TV.any {H : Hp} (hs : List (List Int)) : ∀ y ∈ (iv hs).flatten, Any H y := any_flat hs
/-- if a or not b: .., where b changes something -/
theorem q_orNot {σ : L2.St} {H : Hp} {t1 : TT} {te : TE} {tu tz : TS} {D : Ends} (h1 : EvT t1 σ H false) (h2 : ∀ H1, Ex H H1 → te σ H1 fun x H2 => ∃ k, x = .bl k ∧ (if (!k) = true then tu { D with nx := tz D } σ H2 else tz D σ H2)) : tSeq (tIfS (tOr t1 (tNot (tB te))) tu tNext) tz D σ H :=
  h1 H (Ex.refl H) _ fun H1 e1 => h2 H1 e1
/-! ### what is told of heaps, deals, envy -/
/-- x is the number of one of m -/
def place (x : V) (m : Int) : Bool := match x with
  | .int i => decide (0 ≤ i ∧ i < m)
  | _ => false
/-- how often each good stands there -/
def seenM (vs : List V) (g : Nat) : List Int := (List.range g).map fun k : Nat => ((vs.count (V.int k) : Nat) : Int)
def heapsB (yss : List (List V)) (n : Int) (g : Nat) : Bool := decide ((yss.length : Int) = n) && (yss.flatten.all (fun y => place y g) && decide (seenM yss.flatten g = List.replicate g 1))
theorem seenM_len (vs : List V) (g : Nat) : (seenM vs g).length = g := by simp [seenM]
theorem seenM_nil (g : Nat) : seenM [] g = List.replicate g 0 := by
  unfold seenM
  refine List.ext_getElem (by simp) fun i h1 h2 => ?_
  simp
theorem seenM_push {vs : List V} {g k : Nat} (h : k < g) : (seenM vs g).set k ((seenM vs g).getD k 0 + 1) = seenM (vs ++ [V.int k]) g := by
  refine List.ext_getElem (by simp [seenM]) fun i h1 h2 => ?_
  have hi : i < g := by simpa [seenM] using h2
  rw [List.getElem_set]
  by_cases e : k = i
  · subst e
    rw [if_pos rfl]
    simp [seenM, List.getD_eq_getElem?_getD, h]
  · rw [if_neg e]
    have : List.count (V.int (i : Int)) [V.int (k : Int)] = 0 := by
      rw [List.count_eq_zero]
      intro m
      have := V.int.inj (List.mem_singleton.mp m)
      omega
    simp [seenM, List.count_append, this]
def dealB (yss : List (List V)) (ss : List Int) (n : Int) (g : Nat) : Bool := heapsB yss n g && (decide ((ss.length : Int) = n) && decide (ss.sum = 0))
def enviedB (g : Nat → Nat → Int) (n : Nat) : Bool := (List.range n).any fun i => (List.range n).any fun j => decide (g i i < g i j)
theorem enviedB_of {g : Nat → Nat → Int} {n i j : Nat} (hi : i < n) (hj : j < n) (h : g i i < g i j) : enviedB g n = true :=
  List.any_eq_true.mpr ⟨i, List.mem_range.mpr hi, List.any_eq_true.mpr ⟨j, List.mem_range.mpr hj, decide_eq_true h⟩⟩
theorem enviedB_not {g : Nat → Nat → Int} {n : Nat} (h : ∀ i j, i < n → j < n → g i j ≤ g i i) : enviedB g n = false := by
  cases e : enviedB g n with
  | false => rfl
  | true =>
    obtain ⟨i, hi, h2⟩ := List.any_eq_true.mp e
    obtain ⟨j, hj, h3⟩ := List.any_eq_true.mp h2
    have := h i j (List.mem_range.mp hi) (List.mem_range.mp hj)
    have := of_decide_eq_true h3
    omega
/-- of pairs (i, j): those where g i j is more than g i i -/
def pairRow (g : Nat → Nat → Int) (n i : Nat) : List (Int × Int) := ((List.range n).filter fun j : Nat => decide (g i i < g i j)).map fun j : Nat => ((i : Int), (j : Int))
def pairsM (g : Nat → Nat → Int) (n i : Nat) : List (Int × Int) := ((List.range i).map (pairRow g n)).flatten
theorem pairRow_succ (g : Nat → Nat → Int) (j i : Nat) : pairRow g (j + 1) i = pairRow g j i ++ (if g i i < g i j then [((i : Int), (j : Int))] else []) := by
  unfold pairRow
  rw [List.range_succ, List.filter_append, List.map_append]
  congr 1
  by_cases h : g i i < g i j
  · simp [h]
  · simp [h]
theorem pairsM_succ (g : Nat → Nat → Int) (n i : Nat) : pairsM g n (i + 1) = pairsM g n i ++ pairRow g n i := by
  unfold pairsM
  rw [List.range_succ, List.map_append, List.flatten_append]
  simp
theorem pairRow_len (g : Nat → Nat → Int) (n i : Nat) : (pairRow g n i).length ≤ n := by
  unfold pairRow
  rw [List.length_map]
  have := List.length_filter_le (fun j : Nat => decide (g i i < g i j)) (List.range n)
  rw [List.length_range] at this
  exact this
theorem pairsM_len (g : Nat → Nat → Int) (n : Nat) : ∀ i, (pairsM g n i).length ≤ i * n
  | 0 => by simp [pairsM]
  | i + 1 => by
    rw [pairsM_succ, List.length_append]
    have h1 := pairsM_len g n i
    have h2 := pairRow_len g n i
    have e : (i + 1) * n = i * n + n := Nat.succ_mul i n
    omega
/-! ### the deal in heaps -/
def bidAt (rows : List (List Int)) (i g : Nat) : Int := (rows.getD i []).getD g 0
/-- person i is the first of those who bid most for the good g -/
def firstB (rows : List (List Int)) (i g : Nat) : Bool := (List.range rows.length).all fun k => !(decide (bidAt rows i g < bidAt rows k g) || (decide (bidAt rows k g = bidAt rows i g) && decide (k < i)))
theorem firstB_iff {rows : List (List Int)} {i g : Nat} : firstB rows i g = true ↔ ∀ k, k < rows.length → bidAt rows k g ≤ bidAt rows i g ∧ (bidAt rows k g = bidAt rows i g → i ≤ k) := by
  unfold firstB
  rw [List.all_eq_true]
  constructor
  · intro h k hk
    have h1 := h k (List.mem_range.mpr hk)
    simp at h1
    exact ⟨h1.1, fun e => h1.2.resolve_left fun n => n e⟩
  · intro h k hk
    have h1 := h k (List.mem_range.mp hk)
    simp
    refine ⟨h1.1, ?_⟩
    by_cases e : bidAt rows k g = bidAt rows i g
    · exact .inr (h1.2 e)
    · exact .inl e
theorem firstB_uniq {rows : List (List Int)} {i j g : Nat} (hi : i < rows.length) (hj : j < rows.length) (h1 : firstB rows i g = true) (h2 : firstB rows j g = true) : i = j := by
  have a := firstB_iff.mp h1 j hj
  have b := firstB_iff.mp h2 i hi
  have e : bidAt rows i g = bidAt rows j g := by omega
  have := a.2 e.symm
  have := b.2 e
  omega
/-- the heaps of the first m goods -/
def heapsM (rows : List (List Int)) (m : Nat) : List (List Int) := (List.range rows.length).map fun i : Nat => ((List.range m).filter (firstB rows i)).map fun g : Nat => (g : Int)
theorem heapsM_len (rows : List (List Int)) (m : Nat) : (heapsM rows m).length = rows.length := by simp [heapsM]
theorem heapsM_at {rows : List (List Int)} {m i : Nat} (hi : i < rows.length) : (heapsM rows m).getD i [] = ((List.range m).filter (firstB rows i)).map fun g : Nat => (g : Int) := by
  simp [heapsM, List.getD_eq_getElem?_getD, hi]
theorem heapsM_in (rows : List (List Int)) (m : Nat) : ∀ h ∈ heapsM rows m, Inside m h := by
  intro h hh g hg
  obtain ⟨i, _, rfl⟩ := List.mem_map.mp hh
  obtain ⟨j, hj, rfl⟩ := List.mem_map.mp hg
  have := List.mem_range.mp (List.mem_filter.mp hj).1
  omega
theorem heapsM_succ {rows : List (List Int)} {m j : Nat} (hj : j < rows.length) (hf : firstB rows j m = true) : (heapsM rows m).set j ((heapsM rows m).getD j [] ++ [(m : Int)]) = heapsM rows (m + 1) := by
  refine List.ext_getElem (by simp [heapsM]) fun k h1 h2 => ?_
  have hk : k < rows.length := by simpa [heapsM] using h2
  have e2 : (heapsM rows (m + 1))[k] = ((List.range (m + 1)).filter (firstB rows k)).map fun g : Nat => (g : Int) := by simp [heapsM]
  rw [e2, List.getElem_set, List.range_succ, List.filter_append, List.map_append]
  by_cases e : j = k
  · subst e
    rw [if_pos rfl, heapsM_at hj]
    simp [hf]
  · rw [if_neg e]
    have hn : firstB rows k m = false := by
      cases h : firstB rows k m with
      | false => rfl
      | true => exact absurd (firstB_uniq hj hk hf h) e
    simp [heapsM, hn]
/-- what each one's own heap is worth to them, and what they pay -/
def ownM (rows hs : List (List Int)) : List Int := (List.range rows.length).map fun i => worthM (rows.getD i []) (hs.getD i [])
def payM (rows hs : List (List Int)) : List Int := (ownM rows hs).map fun o => o * rows.length - (ownM rows hs).sum
theorem ownM_len (rows hs : List (List Int)) : (ownM rows hs).length = rows.length := by simp [ownM]
theorem payM_len (rows hs : List (List Int)) : (payM rows hs).length = rows.length := by simp [payM, ownM]
theorem heaps_few {rows : List (List Int)} {m : Nat} (h9 : rows.length ≤ 9) (h40 : m ≤ 40) : (heapsM rows m).flatten.length ≤ 4000 := by
  have h : ∀ hs : List (List Int), (∀ h ∈ hs, h.length ≤ 40) → hs.flatten.length ≤ hs.length * 40 := by
    intro hs
    induction hs with
    | nil => intro _; simp
    | cons x r ih =>
      intro hx
      have a := hx x List.mem_cons_self
      have b := ih fun y hy => hx y (List.mem_cons_of_mem _ hy)
      rw [List.flatten_cons, List.length_append, List.length_cons]
      omega
  have h2 := h (heapsM rows m) fun x hx => by
    obtain ⟨i, _, rfl⟩ := List.mem_map.mp hx
    rw [List.length_map]
    have := List.length_filter_le (firstB rows i) (List.range m)
    rw [List.length_range] at this
    omega
  rw [heapsM_len] at h2
  omega
/-- the deal in heaps fits -/
theorem heaps_fit {rows : List (List Int)} {m : Nat} (hb : Bids rows m) : Fits rows m (heapsM rows m) (payM rows (heapsM rows m)) := ⟨heapsM_len _ _, payM_len _ _, heapsM_in _ _, heaps_few hb.l9 hb.m40⟩
/-- at p a new deal -/
structure DNew (H0 H : Hp) (p hp sp : Addr) (hps : List Addr) (hs : List (List Int)) (ss : List Int) : Prop where
  new : H0 p = none
  L : LNew H0 H hp hps (iv hs)
  sn : H0 sp = none
  s : H sp = some (.lst (ss.map V.int))
  t : H p = some (.tup [.ref hp, .ref sp])
  apart : sp ∉ hp :: hps
theorem DNew.ext {H0 H H' : Hp} {p hp sp : Addr} {hps : List Addr} {hs : List (List Int)} {ss : List Int} (d : DNew H0 H p hp sp hps hs ss) (e : Ex H H') : DNew H0 H' p hp sp hps hs ss := ⟨d.new, d.L.ext e, d.sn, e _ _ d.s, e _ _ d.t, d.apart⟩
theorem DNew.back {H0 H Hb : Hp} {p hp sp : Addr} {hps : List Addr} {hs : List (List Int)} {ss : List Int} (d : DNew H0 H p hp sp hps hs ss) (e : Ex Hb H0) : DNew Hb H p hp sp hps hs ss := ⟨fresh_back e d.new, d.L.back e, fresh_back e d.sn, d.s, d.t, d.apart⟩
theorem map_erase {α β : Type} (f : α → β) : ∀ (l : List α) (i : Nat), (l.map f).eraseIdx i = (l.eraseIdx i).map f
  | [], _ => rfl
  | _ :: _, 0 => rfl
  | x :: r, i + 1 => by
    show f x :: (r.map f).eraseIdx i = f x :: (r.eraseIdx i).map f
    rw [map_erase f r i]
def intOf : V → Int
  | .int i => i
  | _ => 0
def hsOf (yss : List (List V)) : List (List Int) := yss.map fun ys => ys.map intOf
theorem hsOf_iv {yss : List (List V)} {m : Int} (h : yss.flatten.all (fun y => place y m) = true) : iv (hsOf yss) = yss := by
  show List.map _ (List.map _ yss) = yss
  rw [List.map_map]
  refine (List.map_congr_left fun ys hys => ?_).trans (List.map_id _)
  show List.map _ (List.map _ _) = ys
  rw [List.map_map]
  refine (List.map_congr_left fun y hy => ?_).trans (List.map_id _)
  have := List.all_eq_true.mp h y (List.mem_flatten.mpr ⟨ys, hys, hy⟩)
  cases y with
  | int i => rfl
  | _ => cases this
theorem hsOf_in {yss : List (List V)} {m : Nat} (h : yss.flatten.all (fun y => place y m) = true) : ∀ h ∈ hsOf yss, Inside m h := by
  intro hh hm g hg
  obtain ⟨ys, hys, rfl⟩ := List.mem_map.mp hm
  obtain ⟨y, hy, rfl⟩ := List.mem_map.mp hg
  have := List.all_eq_true.mp h y (List.mem_flatten.mpr ⟨ys, hys, hy⟩)
  cases y with
  | int i => exact of_decide_eq_true this
  | _ => cases this
theorem hsOf_flat (yss : List (List V)) : (hsOf yss).flatten.length = yss.flatten.length := by
  unfold hsOf
  rw [← List.map_flatten, List.length_map]
/-- x may stand as a bid -/
def bidOk (x : V) : Bool := match x with
  | .int i => decide (0 ≤ i ∧ i ≤ 1000000000000)
  | _ => false
/-- something that == can compare -/
def Itm (K : PySem.W.Frag) (H : Hp) (y : V) : Prop := Any H y ∧ ∃ d, Dp K H y d ∧ PyData.canLay0 d = true ∧ PyData.depth d ≤ 3
section
variable {K : PySem.W.Frag} {H H' : Hp}
theorem Itm.mono {y : V} (e : Ex H H') (h : Itm K H y) : Itm K H' y := by
  obtain ⟨a, d, b, c⟩ := h
  exact ⟨a.mono e, d, dp_mono e b, c⟩
theorem itm_int (i : Int) : Itm K H (.int i) := ⟨.int i, .int i, .int i, by simp only [PyData.canLay0], by simp [PyData.depth]⟩
theorem itm_bl (b : Bool) : Itm K H (.bl b) := ⟨.bl b, .bool b, .bl b, by simp only [PyData.canLay0], by simp [PyData.depth]⟩
theorem itm_non : Itm K H .non := ⟨.non, .none, .non, by simp only [PyData.canLay0], by simp [PyData.depth]⟩
theorem itm_one {a : Addr} {n : Int} (h : H a = some (.lst [V.int n])) : Itm K H (.ref a) := ⟨.lst h, .list [.int n], .lst (sq_of h) (.cons (.int n) .nil), by simp only [PyData.canLay0, PyData.canLayAll0]; rfl, by simp [PyData.depth, PyData.depthAll]⟩
theorem itm_tup {a : Addr} {n : Int} (h : H a = some (.tup [V.int n])) : Itm K H (.ref a) := ⟨.tup h, .tuple [.int n], .tup (st_of h) (.cons (.int n) .nil), by simp only [PyData.canLay0, PyData.canLayAll0]; rfl, by simp [PyData.depth, PyData.depthAll]⟩
/-- what is new in H' -/
def nw (H H' : Hp) : Hp := fun b => if (H b).isNone then H' b else none
theorem nw_of {H H' : Hp} {b : Addr} {o : HO} (h : nw H H' b = some o) : H b = none ∧ H' b = some o := by
  unfold nw at h
  cases hb : H b with
  | none =>
    rw [hb] at h
    exact ⟨rfl, h⟩
  | some u =>
    rw [hb] at h
    cases h
theorem nw_at {H H' : Hp} {b : Addr} (h : H b = none) : nw H H' b = H' b := by
  unfold nw
  rw [h]
  rfl
theorem nw_ex {H H' H'' : Hp} (h : ∀ b o, H b = none → H' b = some o → H'' b = some o) : Ex (nw H H') H'' := fun b o e => h b o (nw_of e).1 (nw_of e).2
theorem nw_mono {H H' H'' : Hp} (e : Ex H' H'') : Ex (nw H H') (nw H H'') := fun b o h => by
  rw [nw_at (nw_of h).1]
  exact e _ _ (nw_of h).2
end
section
variable {K : PySem.W.Frag} {σ : L2.St} {H : Hp} {ta tb te : TE}
theorem el_cat {xs ys : List V} (ha : EvL ta σ H xs) (hb : EvL tb σ H ys) (hz : xs.length + ys.length ≤ 100000) : EvL (tOp rCat ta tb) σ H (xs ++ ys) := fun H1 e Q q => ha H1 e _ fun p H2 hp e2 h2 => hb H2 (e.trans e2) _ fun p3 H3 hp3 e3 h3 =>
  ⟨p, p3, xs, ys, rfl, rfl, e3 _ _ h2, h3, sz_of hz, fun r hr => q r _ (fresh_back (e2.trans e3) hr) ((e2.trans e3).trans (Ex.new hr)) upd_same⟩
theorem el_rev {a : Addr} {xs : List V} (h : Ev te σ H (.ref a)) (hs : SqL K H a xs) : EvL (tRevL K te) σ H xs.reverse := fun H1 e _ q => h H1 e _ fun H2 e2 =>
  ⟨a, xs, rfl, ex_l (e.trans e2) hs, fun p hp => q p _ (fresh_back e2 hp) (e2.trans (Ex.new hp)) upd_same⟩
theorem ev_isBool {b : Bool} (h : Ev te σ H (.bl b)) : Ev (tCB (rIsi K) (tCons te (tCons (tC (.ty "bool")) tNil))) σ H (.bl true) :=
  ev_cb (ea_cons h (ea_cons ev_c ea_nil)) fun H1 e Q q => ⟨_, _, _, _, true, rfl, .ty _, .base (.bl b), kit_ty (by decide +kernel), q H1 (Ex.refl H1)⟩
end
theorem LNew.out {H0 H : Hp} {p : Addr} {ps : List Addr} {ys : List (List V)} (L : LNew H0 H p ps ys) : ∀ b ∈ p :: ps, H0 b = none ∧ ∃ zs, H b = some (.lst zs) := by
  intro b hb
  rcases List.mem_cons.mp hb with rfl | hb
  · exact ⟨L.new, _, L.top⟩
  · obtain ⟨k, hk⟩ := List.getElem?_of_mem hb
    have hkl : k < ys.length := by
      have := (List.getElem?_eq_some_iff.mp hk).1
      have := L.len
      omega
    have := L.at_ k b _ hk (List.getElem?_eq_getElem hkl)
    exact ⟨this.1, _, this.2⟩
theorem flat_10 : ∀ {n : Nat} {yss : List (List V)}, (∀ ys ∈ yss, ys.length ≤ 50) → yss.length ≤ n → yss.flatten.length ≤ 50 * n
  | _, [], _, _ => by simp
  | 0, _ :: _, _, h => by simp at h
  | n + 1, ys :: r, h, hl => by
    have a := h ys List.mem_cons_self
    have b := flat_10 (n := n) (yss := r) (fun x hx => h x (List.mem_cons_of_mem _ hx)) (by simpa using hl)
    rw [List.flatten_cons, List.length_append]
    omega
section
variable {K : PySem.W.Frag} {H : Hp}
theorem dp_items : ∀ {ys : List V}, (∀ y ∈ ys, Itm K H y) → ∃ ds, DpAll K H ys ds ∧ PyData.canLayAll0 ds = true ∧ PyData.depthAll ds ≤ 3
  | [], _ => ⟨[], .nil, by simp [PyData.canLayAll0], by simp [PyData.depthAll]⟩
  | y :: r, h => by
    obtain ⟨_, d, hd, hc, hp⟩ := h y List.mem_cons_self
    obtain ⟨ds, h1, h2, h3⟩ := dp_items fun x hx => h x (List.mem_cons_of_mem _ hx)
    refine ⟨d :: ds, .cons hd h1, ?_, ?_⟩
    · simp only [PyData.canLayAll0]
      rw [hc, h2]
      rfl
    · simp only [PyData.depthAll]
      omega
/-- two lists of lists with the same items: the same data -/
theorem dp_rows : ∀ {yss : List (List V)}, (∀ ys ∈ yss, ∀ y ∈ ys, Itm K H y) → ∃ ds, (∀ ps : List Addr, ps.length = yss.length → (∀ (i : Nat) (q : Addr) (y : List V), ps[i]? = some q → yss[i]? = some y → SqL K H q y) → DpAll K H (ps.map V.ref) ds) ∧ PyData.canLayAll0 ds = true ∧ PyData.depthAll ds ≤ 4
  | [], _ => by
    refine ⟨[], fun ps hl _ => ?_, by simp [PyData.canLayAll0], by simp [PyData.depthAll]⟩
    cases ps with
    | nil => exact .nil
    | cons _ _ => cases hl
  | ys :: r, h => by
    obtain ⟨d, hd, hc, hp⟩ := dp_items (h ys List.mem_cons_self)
    obtain ⟨ds, h1, h2, h3⟩ := dp_rows fun x hx => h x (List.mem_cons_of_mem _ hx)
    refine ⟨.list d :: ds, fun ps hl ha => ?_, ?_, ?_⟩
    · cases ps with
      | nil => cases hl
      | cons q qs => exact .cons (.lst (ha 0 q ys rfl rfl) hd) (h1 qs (Nat.succ.inj hl) fun i q y e1 e2 => ha (i + 1) q y e1 e2)
    · simp only [PyData.canLayAll0, PyData.canLay0]
      rw [hc, h2]
      rfl
    · simp only [PyData.depthAll, PyData.depth]
      omega
theorem dp_lv {yss : List (List V)} (h : ∀ ys ∈ yss, ∀ y ∈ ys, Itm K H y) : ∃ d, (∀ a, LV K H a yss → Dp K H (.ref a) d) ∧ PyData.canLay0 d = true ∧ PyData.depth d ≤ 63 := by
  obtain ⟨ds, h1, h2, h3⟩ := dp_rows h
  refine ⟨.list ds, fun a ⟨ps, e1, e2, e3⟩ => .lst e1 (h1 ps e2 e3), ?_, ?_⟩
  · simp only [PyData.canLay0]
    exact h2
  · simp only [PyData.depth]
    omega
end
section
variable {K : PySem.W.Frag} {F T : Nat} {H H' : Hp}
/-- heaps, spoiled: told by what stands there; nothing else is changed -/
structure Spo (K : PySem.W.Frag) (F T : Nat) (H H' : Hp) (p : Addr) (ps ps' : List Addr) (yss : List (List V)) : Prop where
  top : H' p = some (.lst (ps'.map V.ref))
  len : ps'.length = yss.length
  at_ : ∀ (i : Nat) (q : Addr) (y : List V), ps'[i]? = some q → yss[i]? = some y → H' q = some (.lst y)
  itm : ∀ ys ∈ yss, ∀ y ∈ ys, Itm K (nw H H') y
  old : ∀ q ∈ ps', q ∈ ps ∨ H q = none
  few : ∀ ys ∈ yss, ys.length ≤ F
  ten : yss.length ≤ T
  keep : ∀ b o, H b = some o → b ∉ p :: ps → H' b = some o
theorem Spo.ext {H'' : Hp} {p : Addr} {ps ps' : List Addr} {yss : List (List V)} (s : Spo K F T H H' p ps ps' yss) (e : Ex H' H'') : Spo K F T H H'' p ps ps' yss :=
  ⟨e _ _ s.top, s.len, fun i q y h1 h2 => e _ _ (s.at_ i q y h1 h2), fun ys h y hy => (s.itm ys h y hy).mono (nw_mono e), s.old, s.few, s.ten, fun b o h n => e _ _ (s.keep b o h n)⟩
theorem spo_same {H0 : Hp} {p : Addr} {ps : List Addr} {hs : List (List Int)} (L : LNew H0 H p ps (iv hs)) (e : Ex H H') (h50 : ∀ h ∈ hs, h.length < F) (h9 : hs.length < T) : Spo K F T H H' p ps ps (iv hs) := by
  have L' := L.ext e
  refine ⟨L'.top, L'.len, fun i q y h1 h2 => (L'.at_ i q y h1 h2).2, fun ys hys y hy => ?_, fun q hq => .inl hq, fun ys hys => ?_, by rw [List.length_map]; omega, fun b o h n => e _ _ h⟩
  · obtain ⟨h, _, rfl⟩ := List.mem_map.mp hys
    obtain ⟨z, _, rfl⟩ := List.mem_map.mp hy
    exact itm_int z
  · obtain ⟨h, hh, rfl⟩ := List.mem_map.mp hys
    rw [List.length_map]
    have := h50 h hh
    omega
/-- one of the heaps made otherwise -/
theorem spo_set {H0 H2 : Hp} {p q : Addr} {ps : List Addr} {hs : List (List Int)} {i : Nat} {y' : List V} (L : LNew H0 H p ps (iv hs)) (e : Ex H H2) (h50 : ∀ h ∈ hs, h.length < F) (h9 : hs.length < T) (hq : ps[i]? = some q)
    (hy : ∀ y ∈ y', Itm K (nw H (upd H2 q (.lst y'))) y) (hl : y'.length ≤ F) : Spo K F T H (upd H2 q (.lst y')) p ps ps ((iv hs).set i y') := by
  have S := spo_same (K := K) L e h50 h9
  have hpq : p ≠ q := fun z => (List.nodup_cons.mp L.nd).1 (z ▸ List.mem_of_getElem? hq)
  have hqm : q ∈ ps := List.mem_of_getElem? hq
  refine ⟨by rw [upd_ne hpq]; exact S.top, by rw [List.length_set]; exact S.len, fun k r z h1 h2 => ?_, fun ys hys y hyy => ?_, fun q hq => .inl hq, fun ys hys => ?_, by rw [List.length_set]; exact S.ten, fun b o h n => ?_⟩
  · by_cases ek : k = i
    · subst ek
      obtain rfl : r = q := Option.some.inj (h1.symm.trans hq)
      have hk : k < (iv hs).length := by
        have := (List.getElem?_eq_some_iff.mp h2).1
        rwa [List.length_set] at this
      rw [List.getElem?_set_self hk] at h2
      rw [upd_same, Option.some.inj h2]
    · rw [List.getElem?_set_ne (fun z => ek z.symm)] at h2
      have hr : r ≠ q := fun z => ek (nd_ix (List.nodup_cons.mp L.nd).2 (z ▸ h1) hq)
      rw [upd_ne hr]
      exact S.at_ k r z h1 h2
  · rcases List.mem_or_eq_of_mem_set hys with hys | rfl
    · obtain ⟨h, _, rfl⟩ := List.mem_map.mp hys
      obtain ⟨z, _, rfl⟩ := List.mem_map.mp hyy
      exact itm_int z
    · exact hy y hyy
  · rcases List.mem_or_eq_of_mem_set hys with hys | rfl
    · exact S.few ys hys
    · exact hl
  · rw [upd_ne (show b ≠ q from fun z => n (by rw [z]; exact List.mem_cons_of_mem _ hqm))]
    exact e _ _ h
end
/-- the heaps in another order, or one less -/
theorem spo_top {K : PySem.W.Frag} {F T : Nat} {H H0 H2 : Hp} {p : Addr} {ps ps' : List Addr} {hs : List (List Int)} {yss : List (List V)} (L : LNew H0 H p ps (iv hs)) (e : Ex H H2) (h50 : ∀ h ∈ hs, h.length < F) (h9 : hs.length < T)
    (hl : ps'.length = yss.length) (h10 : yss.length ≤ T) (h : ∀ (i : Nat) (q : Addr) (y : List V), ps'[i]? = some q → yss[i]? = some y → ∃ j : Nat, ps[j]? = some q ∧ (iv hs)[j]? = some y) : Spo K F T H (upd H2 p (.lst (ps'.map V.ref))) p ps ps' yss := by
  have S := spo_same (K := K) L e h50 h9
  have mem : ∀ y ∈ yss, y ∈ iv hs := fun y hy => by
    obtain ⟨k, hk⟩ := List.getElem?_of_mem hy
    have hkl := (List.getElem?_eq_some_iff.mp hk).1
    obtain ⟨j, _, hj⟩ := h k ps'[k] y (List.getElem?_eq_getElem (by omega)) hk
    exact List.mem_of_getElem? hj
  refine ⟨upd_same, hl, fun i q y h1 h2 => ?_, fun ys hys y hy => ?_, fun q hq => ?_, fun ys hys => S.few ys (mem ys hys), h10, fun b o hb n => ?_⟩
  · obtain ⟨j, h3, h4⟩ := h i q y h1 h2
    have hq : q ≠ p := fun z => (List.nodup_cons.mp L.nd).1 (z ▸ List.mem_of_getElem? h3)
    rw [upd_ne hq]
    exact S.at_ j q y h3 h4
  · obtain ⟨hh, _, rfl⟩ := List.mem_map.mp (mem ys hys)
    obtain ⟨z, _, rfl⟩ := List.mem_map.mp hy
    exact itm_int z
  · obtain ⟨k, hk⟩ := List.getElem?_of_mem hq
    have hkl := (List.getElem?_eq_some_iff.mp hk).1
    obtain ⟨j, hj, _⟩ := h k q yss[k] hk (List.getElem?_eq_getElem (by omega))
    exact .inl (List.mem_of_getElem? hj)
  · rw [upd_ne (show b ≠ p from fun z => n (by rw [z]; exact List.mem_cons_self))]
    exact e _ _ hb
theorem rep_one (g : Nat) (z : Int) : (List.replicate g [V.int z]).flatten = (List.replicate g z).map V.int := by
  induction g with
  | zero => rfl
  | succ g ih =>
    rw [List.replicate_succ, List.flatten_cons, ih, List.replicate_succ]
    rfl
/-- [z] * n -/
theorem el_rep {σ : L2.St} {H : Hp} {tn : TE} {z : Int} {g : Nat} (h : Ev tn σ H (.int (g : Int))) (hg : g ≤ 1000) : EvL (tOp rRep (tLst (tCons (tC (.int z)) tNil)) tn) σ H ((List.replicate g z).map V.int) := fun H0 e0 Q q => by
  refine g_op (g_lst ⟨sz_of (by show 1 ≤ 100000; omega), fun p hp => ?_⟩)
  have x1 := Ex.new (o := .lst [V.int z]) hp
  refine h _ (e0.trans x1) _ fun H1 e1 => ⟨p, (g : Int), [V.int z], rfl, rfl, e1 _ _ upd_same, by omega, by omega, ?_, fun p2 hp2 => ?_⟩
  · rw [Int.toNat_natCast]
    exact sz_of (by show 1 * g ≤ 100000; omega)
  · rw [Int.toNat_natCast, rep_one]
    exact q p2 _ (fresh_back (x1.trans e1) hp2) ((x1.trans e1).trans (Ex.new hp2)) upd_same
/-! the deal in heaps is one, and fair -/
theorem first_ex {rows : List (List Int)} {g : Nat} : ∀ {n : Nat}, 0 < n → ∃ i, i < n ∧ ∀ k, k < n → bidAt rows k g ≤ bidAt rows i g ∧ (bidAt rows k g = bidAt rows i g → i ≤ k)
  | 0, h => by omega
  | 1, _ => ⟨0, by omega, fun k hk => by
    have : k = 0 := by omega
    subst this
    exact ⟨Int.le_refl _, fun _ => Nat.le_refl _⟩⟩
  | n + 2, _ => by
    obtain ⟨i, hi, h⟩ := first_ex (rows := rows) (g := g) (n := n + 1) (by omega)
    by_cases e : bidAt rows i g < bidAt rows (n + 1) g
    · refine ⟨n + 1, by omega, fun k hk => ?_⟩
      by_cases hk2 : k < n + 1
      · have := (h k hk2).1
        exact ⟨by omega, fun z => by omega⟩
      · have : k = n + 1 := by omega
        subst this
        exact ⟨Int.le_refl _, fun _ => Nat.le_refl _⟩
    · refine ⟨i, by omega, fun k hk => ?_⟩
      by_cases hk2 : k < n + 1
      · exact h k hk2
      · have : k = n + 1 := by omega
        subst this
        exact ⟨by omega, fun _ => by omega⟩
theorem sum_zero {c : Nat → Bool} : ∀ {n : Nat}, (∀ i, i < n → c i = false) → ((List.range n).map fun i => if c i = true then 1 else 0).sum = 0
  | 0, _ => rfl
  | n + 1, h => by
    rw [List.range_succ, List.map_append, List.sum_append, sum_zero fun i hi => h i (by omega)]
    simp [h n (by omega)]
theorem sum_one {c : Nat → Bool} {i0 : Nat} (hc : c i0 = true) : ∀ {n : Nat}, i0 < n → (∀ i, i < n → c i = true → i = i0) → ((List.range n).map fun i => if c i = true then 1 else 0).sum = 1
  | 0, h, _ => by omega
  | n + 1, h, hu => by
    rw [List.range_succ, List.map_append, List.sum_append]
    by_cases e : i0 = n
    · subst e
      rw [sum_zero fun i hi => ?_]
      · simp [hc]
      · cases hci : c i with
        | false => rfl
        | true =>
          have := hu i (by omega) hci
          omega
    · have hn : c n = false := by
        cases hcn : c n with
        | false => rfl
        | true => exact absurd (hu n (by omega) hcn).symm e
      rw [sum_one hc (by omega) fun i hi => hu i (by omega)]
      simp [hn]
theorem count_heap (f : Nat → Bool) (k : Nat) : ∀ m : Nat, List.count (V.int (k : Int)) ((((List.range m).filter f).map fun g : Nat => (g : Int)).map V.int) = if k < m ∧ f k = true then 1 else 0
  | 0 => by simp
  | m + 1 => by
    rw [List.range_succ, List.filter_append, List.map_append, List.map_append, List.count_append, count_heap f k m]
    by_cases e : k = m
    · subst e
      by_cases hf : f k = true
      · simp [hf]
      · simp [hf]
    · have hne : ∀ l : List V, (∀ x ∈ l, x ≠ V.int (k : Int)) → List.count (V.int (k : Int)) l = 0 := fun l hl => List.count_eq_zero.mpr fun mm => hl _ mm rfl
      rw [hne _ fun x hx => ?_]
      · by_cases h : k < m ∧ f k = true
        · rw [if_pos h, if_pos ⟨by omega, h.2⟩]
        · rw [if_neg h, if_neg fun z => h ⟨by omega, z.2⟩]
      · obtain ⟨y, hy, rfl⟩ := List.mem_map.mp hx
        obtain ⟨g, hg, rfl⟩ := List.mem_map.mp hy
        have := (List.mem_filter.mp hg).1
        rw [List.mem_singleton.mp this]
        intro z
        have := V.int.inj z
        omega
theorem heaps_seen {rows : List (List Int)} {m k : Nat} (hne : 0 < rows.length) (hk : k < m) : List.count (V.int (k : Int)) (iv (heapsM rows m)).flatten = 1 := by
  rw [List.count_flatten, List.map_map]
  unfold heapsM
  rw [List.map_map]
  have e : (List.range rows.length).map ((List.count (V.int (k : Int)) ∘ fun r => List.map V.int r) ∘ fun i : Nat => ((List.range m).filter (firstB rows i)).map fun g : Nat => (g : Int)) = (List.range rows.length).map fun i => if firstB rows i k = true then 1 else 0 := by
    refine List.map_congr_left fun i _ => ?_
    show List.count _ _ = _
    rw [count_heap]
    by_cases h : firstB rows i k = true
    · rw [if_pos ⟨hk, h⟩, if_pos h]
    · rw [if_neg fun z => h z.2, if_neg h]
  rw [e]
  obtain ⟨i, hi, h⟩ := first_ex (rows := rows) (g := k) hne
  have hf : firstB rows i k = true := firstB_iff.mpr h
  exact sum_one (c := fun i => firstB rows i k) hf hi fun j hj hj2 => firstB_uniq hj hi hj2 hf
theorem heaps_ok {rows : List (List Int)} {m : Nat} (hne : 0 < rows.length) : heapsB (iv (heapsM rows m)) rows.length m = true := by
  unfold heapsB
  rw [decide_eq_true (by rw [List.length_map, heapsM_len]), Bool.true_and, Bool.and_eq_true]
  constructor
  · refine List.all_eq_true.mpr fun y hy => ?_
    rw [iv_flat] at hy
    obtain ⟨g, hg, rfl⟩ := List.mem_map.mp hy
    obtain ⟨h, hh, hg⟩ := List.mem_flatten.mp hg
    exact decide_eq_true (heapsM_in rows m h hh g hg)
  · refine decide_eq_true (List.ext_getElem (by simp [seenM]) fun k h1 h2 => ?_)
    have hk : k < m := by simpa using h2
    simp only [seenM, List.getElem_map, List.getElem_range, List.getElem_replicate]
    rw [heaps_seen hne hk]
    rfl
theorem sum_pay (l : List Int) (c d : Int) : (l.map fun o => o * c - d).sum = l.sum * c - l.length * d := by
  induction l with
  | nil => simp
  | cons x r ih =>
    rw [List.map_cons, List.sum_cons, List.sum_cons, ih, List.length_cons, Int.add_mul]
    have : ((r.length + 1 : Nat) : Int) * d = r.length * d + d := by
      rw [Int.natCast_add, Int.add_mul]
      simp
    omega
theorem pay_zero (rows hs : List (List Int)) : (payM rows hs).sum = 0 := by
  unfold payM
  rw [sum_pay, ownM_len, Int.mul_comm]
  omega
theorem heaps_deal {rows : List (List Int)} {m : Nat} (hne : 0 < rows.length) : dealB (iv (heapsM rows m)) (payM rows (heapsM rows m)) rows.length m = true := by
  unfold dealB
  rw [heaps_ok hne, pay_zero, payM_len, decide_eq_true rfl, decide_eq_true rfl]
  rfl
theorem worthM_le {r r' heap : List Int} (h : ∀ g ∈ heap, r.getD g.toNat 0 ≤ r'.getD g.toNat 0) : worthM r heap ≤ worthM r' heap := by
  unfold worthM
  induction heap with
  | nil => exact Int.le_refl _
  | cons x t ih =>
    have a := h x List.mem_cons_self
    have b := ih fun g hg => h g (List.mem_cons_of_mem _ hg)
    rw [List.map_cons, List.map_cons, List.sum_cons, List.sum_cons]
    omega
theorem own_at {rows hs : List (List Int)} {i : Nat} (hi : i < rows.length) : (ownM rows hs).getD i 0 = worthM (rows.getD i []) (hs.getD i []) := by
  simp [ownM, List.getD_eq_getElem?_getD, hi]
theorem pay_at {rows hs : List (List Int)} {i : Nat} (hi : i < rows.length) : (payM rows hs).getD i 0 = worthM (rows.getD i []) (hs.getD i []) * rows.length - (ownM rows hs).sum := by
  have h := own_at (hs := hs) hi
  have hl : i < (ownM rows hs).length := by rw [ownM_len]; exact hi
  rw [List.getD_eq_getElem?_getD, List.getElem?_eq_getElem hl] at h
  have h2 : (ownM rows hs)[i] = worthM (rows.getD i []) (hs.getD i []) := h
  unfold payM
  rw [List.getD_eq_getElem?_getD, List.getElem?_map, List.getElem?_eq_getElem hl, h2]
  rfl
theorem heaps_fair {rows : List (List Int)} {m : Nat} : enviedB (gainM rows (heapsM rows m) (payM rows (heapsM rows m))) rows.length = false := by
  refine enviedB_not fun i j hi hj => ?_
  unfold gainM
  rw [pay_at hi, pay_at hj]
  have h : worthM (rows.getD i []) ((heapsM rows m).getD j []) ≤ worthM (rows.getD j []) ((heapsM rows m).getD j []) := by
    rw [heapsM_at hj]
    refine worthM_le fun g hg => ?_
    obtain ⟨k, hk, rfl⟩ := List.mem_map.mp hg
    rw [Int.toNat_natCast]
    exact (firstB_iff.mp (List.mem_filter.mp hk).2 i hi).1
  have h2 := Int.mul_le_mul_of_nonneg_right h (show (0 : Int) ≤ rows.length by omega)
  omega
theorem half_ok {rows : List (List Int)} {m : Nat} (hb : Bids rows m) : Bids (rows.map fun r => r.map fun b => 1 + b / 2) m := by
  refine ⟨by rw [List.length_map]; exact hb.ne, by rw [List.length_map]; exact hb.l9, hb.m40, fun r hr => ?_, fun r hr b hbm => ?_⟩
  · obtain ⟨r0, hr0, rfl⟩ := List.mem_map.mp hr
    rw [List.length_map]
    exact hb.len r0 hr0
  · obtain ⟨r0, hr0, rfl⟩ := List.mem_map.mp hr
    obtain ⟨b0, hb0, rfl⟩ := List.mem_map.mp hbm
    have := hb.ok r0 hr0 b0 hb0
    omega
end Fs

/-! Rm: the mathematics of the deal in rooms. -/
namespace Rm
/-! ### sums -/
def sumN : Nat → (Nat → Int) → Int
  | 0, _ => 0
  | n + 1, f => sumN n f + f n
theorem sumN_congr {f g : Nat → Int} : ∀ {n : Nat}, (∀ i, i < n → f i = g i) → sumN n f = sumN n g
  | 0, _ => rfl
  | n + 1, h => by
    show sumN n f + f n = sumN n g + g n
    rw [sumN_congr fun i hi => h i (by omega), h n (by omega)]
theorem sumN_le {f g : Nat → Int} : ∀ {n : Nat}, (∀ i, i < n → f i ≤ g i) → sumN n f ≤ sumN n g
  | 0, _ => Int.le_refl _
  | n + 1, h => by
    show sumN n f + f n ≤ sumN n g + g n
    have := sumN_le (n := n) fun i hi => h i (by omega)
    have := h n (by omega)
    omega
theorem sumN_add {f g : Nat → Int} : ∀ n : Nat, sumN n (fun i => f i + g i) = sumN n f + sumN n g
  | 0 => rfl
  | n + 1 => by
    show sumN n _ + (f n + g n) = sumN n f + f n + (sumN n g + g n)
    rw [sumN_add n]
    omega
theorem sumN_sub {f g : Nat → Int} : ∀ n : Nat, sumN n (fun i => f i - g i) = sumN n f - sumN n g
  | 0 => rfl
  | n + 1 => by
    show sumN n _ + (f n - g n) = sumN n f + f n - (sumN n g + g n)
    rw [sumN_sub n]
    omega
theorem sumN_mul {f : Nat → Int} (c : Int) : ∀ n : Nat, sumN n (fun i => f i * c) = sumN n f * c
  | 0 => by show (0 : Int) = 0 * c; omega
  | n + 1 => by
    show sumN n _ + f n * c = (sumN n f + f n) * c
    rw [sumN_mul c n, Int.add_mul]
theorem sumN_const (c : Int) : ∀ n : Nat, sumN n (fun _ => c) = (n : Int) * c
  | 0 => by show (0 : Int) = (0 : Nat) * c; simp
  | n + 1 => by
    show sumN n _ + c = ((n + 1 : Nat) : Int) * c
    rw [sumN_const c n, Int.natCast_add, Int.add_mul]
    simp
theorem sumN_upd {f : Nat → Int} {i : Nat} {x : Int} : ∀ {n : Nat}, i < n → sumN n (fun k => if k = i then x else f k) = sumN n f + (x - f i)
  | 0, h => by omega
  | n + 1, h => by
    show sumN n _ + (if n = i then x else f n) = sumN n f + f n + (x - f i)
    by_cases e : n = i
    · rw [if_pos e, sumN_congr (g := f) fun k hk => if_neg (by omega), e]
      omega
    · rw [if_neg e, sumN_upd (n := n) (by omega)]
      omega
theorem sumN_list (xs : List Int) : xs.sum = sumN xs.length fun i => xs.getD i 0 := by
  have h : ∀ n, n ≤ xs.length → (xs.take n).sum = sumN n fun i => xs.getD i 0 := by
    intro n
    induction n with
    | zero => intro _; simp [sumN]
    | succ n ih =>
      intro hn
      have h1 : n < xs.length := by omega
      rw [List.take_add_one, List.getElem?_eq_getElem h1, List.sum_append, ih (by omega)]
      show _ = sumN n _ + xs.getD n 0
      simp [List.getD_eq_getElem?_getD, h1]
  have := h xs.length (Nat.le_refl _)
  rw [List.take_length] at this
  exact this
/-! ### pigeons -/
theorem nodup_len : ∀ {n : Nat} {l : List Nat}, l.Nodup → (∀ x ∈ l, x < n) → l.length ≤ n
  | 0, [], _, _ => Nat.le_refl _
  | 0, x :: l, _, h => by
    have := h x List.mem_cons_self
    omega
  | n + 1, l, nd, h => by
    by_cases m : n ∈ l
    · have h1 := nodup_len (n := n) (l := l.erase n) (nd.erase n) fun x hx => by
        have := (nd.mem_erase_iff).mp hx
        have := h x this.2
        omega
      rw [List.length_erase_of_mem m] at h1
      omega
    · have := nodup_len (n := n) nd fun x hx => by
        have := h x hx
        have : x ≠ n := fun e => m (e ▸ hx)
        omega
      omega
theorem nodup_all {n : Nat} {l : List Nat} (nd : l.Nodup) (h : ∀ x ∈ l, x < n) (hl : l.length = n) {j : Nat} (hj : j < n) : j ∈ l := by
  by_cases m : j ∈ l
  · exact m
  · have := nodup_len (n := n) (l := j :: l) (List.nodup_cons.mpr ⟨m, nd⟩) fun x hx => by
      rcases List.mem_cons.mp hx with rfl | hx
      · exact hj
      · exact h x hx
    rw [List.length_cons] at this
    omega
/-! ### tables: to each set of rooms the best way -/
abbrev Tab := List (Nat × (Int × List Nat))
def lookT (t : Tab) (m : Nat) : Option (Int × List Nat) := (t.find? fun e => decide (e.1 = m)).map (·.2)
def putT (t : Tab) (m : Nat) (v : Int × List Nat) : Tab :=
  if t.any (fun e => decide (e.1 = m)) then t.map (fun e => if e.1 = m then (e.1, v) else e) else t ++ [(m, v)]
theorem lookT_mem {t : Tab} {m : Nat} {v : Int × List Nat} (h : lookT t m = some v) : (m, v) ∈ t := by
  unfold lookT at h
  cases e : t.find? fun e => decide (e.1 = m) with
  | none =>
    rw [e] at h
    cases h
  | some x =>
    rw [e] at h
    have h1 := List.mem_of_find?_eq_some e
    have h2 : x.1 = m := of_decide_eq_true (p := x.1 = m) (by have := List.find?_some (p := fun e : Nat × (Int × List Nat) => decide (e.1 = m)) e; exact this)
    have h3 : x.2 = v := Option.some.inj h
    rw [← h2, ← h3]
    exact h1
theorem lookT_none {t : Tab} {m : Nat} (h : lookT t m = none) : ∀ e ∈ t, e.1 ≠ m := by
  unfold lookT at h
  cases e : t.find? fun e => decide (e.1 = m) with
  | some x =>
    rw [e] at h
    cases h
  | none =>
    intro x hx hm
    have := List.find?_eq_none.mp e x hx
    simp [hm] at this
theorem lookT_any {t : Tab} {m : Nat} : (t.any fun e => decide (e.1 = m)) = (lookT t m).isSome := by
  cases h : lookT t m with
  | none =>
    have := lookT_none h
    exact List.any_eq_false.mpr fun e he => by simp [this e he]
  | some v => exact List.any_eq_true.mpr ⟨_, lookT_mem h, by simp⟩
theorem mem_putT {t : Tab} {m : Nat} {v : Int × List Nat} {e : Nat × (Int × List Nat)} (h : e ∈ putT t m v) : e = (m, v) ∨ e ∈ t := by
  unfold putT at h
  split at h
  · obtain ⟨x, hx, rfl⟩ := List.mem_map.mp h
    by_cases hm : x.1 = m
    · rw [if_pos hm, hm]
      exact .inl rfl
    · rw [if_neg hm]
      exact .inr hx
  · rcases List.mem_append.mp h with h | h
    · exact .inr h
    · exact .inl (List.mem_singleton.mp h)
theorem lookT_put {t : Tab} {m k : Nat} {v : Int × List Nat} : lookT (putT t m v) k = if k = m then some v else lookT t k := by
  have hmap : ∀ t : Tab, lookT (t.map (fun e => if e.1 = m then (e.1, v) else e)) k = if k = m then (lookT t k).map (fun _ => v) else lookT t k := by
    intro t
    induction t with
    | nil => simp [lookT]
    | cons e r ih =>
      unfold lookT at ih ⊢
      rw [List.map_cons, List.find?_cons, List.find?_cons]
      by_cases h1 : e.1 = m
      · rw [if_pos h1]
        by_cases h2 : e.1 = k
        · have : k = m := h2.symm.trans h1
          simp [h2, this]
        · have : k ≠ m := fun z => h2 (h1.trans z.symm)
          simp only [h2, decide_false, this, if_false] at ih ⊢
          exact ih
      · rw [if_neg h1]
        by_cases h2 : e.1 = k
        · have : k ≠ m := fun z => h1 (h2.trans z)
          simp [h2, this]
        · simp only [h2, decide_false] at ih ⊢
          exact ih
  unfold putT
  rw [lookT_any]
  cases h : lookT t m with
  | some x =>
    rw [if_pos (show (some x).isSome = true from rfl), hmap]
    by_cases e : k = m
    · rw [if_pos e, if_pos e, e, h]
      rfl
    · rw [if_neg e, if_neg e]
  | none =>
    rw [if_neg (by simp)]
    unfold lookT at h ⊢
    rw [List.find?_append]
    by_cases e : k = m
    · subst e
      rw [Option.map_eq_none_iff] at h
      simp [h]
    · rw [if_neg e]
      have : ¬ m = k := fun z => e z.symm
      simp [this]
theorem keys_put {t : Tab} {m : Nat} {v : Int × List Nat} (h : (t.map (·.1)).Nodup) : ((putT t m v).map (·.1)).Nodup := by
  unfold putT
  split
  · rw [List.map_map]
    have : (t.map ((fun x => x.1) ∘ fun e => if e.1 = m then (e.1, v) else e)) = t.map (·.1) := List.map_congr_left fun e _ => by
      show (if e.1 = m then (e.1, v) else e).1 = e.1
      split <;> rfl
    rw [this]
    exact h
  · rename_i hn
    rw [lookT_any] at hn
    have hn : lookT t m = none := by
      cases e : lookT t m with
      | none => rfl
      | some x => rw [e] at hn; exact absurd rfl hn
    rw [List.map_append, List.nodup_append]
    refine ⟨h, by simp, fun a ha b hb => ?_⟩
    obtain ⟨e, he, rfl⟩ := List.mem_map.mp ha
    have := lookT_none hn e he
    simp at hb
    rw [hb]
    exact this
/-- a person with that row takes one more room -/
def step1 (row : List Int) (e : Nat × (Int × List Nat)) (found : Tab) (room : Nat) : Tab :=
  if e.1.testBit room then found else
    match lookT found (e.1 ||| 2 ^ room) with
    | none => putT found (e.1 ||| 2 ^ room) (e.2.1 + row.getD room 0, e.2.2 ++ [room])
    | some x => if e.2.1 + row.getD room 0 > x.1 then putT found (e.1 ||| 2 ^ room) (e.2.1 + row.getD room 0, e.2.2 ++ [room]) else found
def steps (row : List Int) (e : Nat × (Int × List Nat)) (found : Tab) (k : Nat) : Tab := (List.range k).foldl (step1 row e) found
def moreT (row : List Int) (found : Tab) : Tab → Tab
  | [] => found
  | e :: r => moreT row (steps row e found row.length) r
def oneMore (t : Tab) (row : List Int) : Tab := moreT row [] t
def bestT (rows : List (List Int)) : Tab := rows.foldl oneMore [(0, (0, []))]
theorem steps_succ (row : List Int) (e : Nat × (Int × List Nat)) (found : Tab) (k : Nat) : steps row e found (k + 1) = step1 row e (steps row e found k) k := by
  unfold steps
  rw [List.range_succ, List.foldl_append]
  rfl
/-- at m a way worth a or more -/
def AtL (t : Tab) (m : Nat) (a : Int) : Prop := ∃ v, lookT t m = some v ∧ a ≤ v.1
theorem step1_keeps {row : List Int} {e : Nat × (Int × List Nat)} {t : Tab} {k m : Nat} {a : Int} (h : AtL t m a) : AtL (step1 row e t k) m a := by
  obtain ⟨v, h1, h2⟩ := h
  unfold step1
  split
  · exact ⟨v, h1, h2⟩
  split
  · rename_i hn
    refine ⟨v, ?_, h2⟩
    rw [lookT_put, if_neg fun z => ?_]
    · exact h1
    · rw [z, hn] at h1
      cases h1
  · rename_i x hx
    split
    · rename_i hgt
      by_cases e2 : m = (e.1 ||| 2 ^ k)
      · subst e2
        rw [h1] at hx
        obtain rfl := Option.some.inj hx
        exact ⟨_, by rw [lookT_put, if_pos rfl], by show a ≤ e.2.1 + row.getD k 0; omega⟩
      · exact ⟨v, by rw [lookT_put, if_neg e2]; exact h1, h2⟩
    · exact ⟨v, h1, h2⟩
theorem step1_at {row : List Int} {e : Nat × (Int × List Nat)} {t : Tab} {k : Nat} (hb : e.1.testBit k = false) : AtL (step1 row e t k) (e.1 ||| 2 ^ k) (e.2.1 + row.getD k 0) := by
  unfold step1
  rw [if_neg (by rw [hb]; decide)]
  split
  · exact ⟨_, by rw [lookT_put, if_pos rfl], Int.le_refl _⟩
  · rename_i x hx
    split
    · exact ⟨_, by rw [lookT_put, if_pos rfl], Int.le_refl _⟩
    · exact ⟨x, hx, by omega⟩
theorem steps_keeps {row : List Int} {e : Nat × (Int × List Nat)} {t : Tab} {m : Nat} {a : Int} (h : AtL t m a) : ∀ k, AtL (steps row e t k) m a
  | 0 => h
  | k + 1 => by
    rw [steps_succ]
    exact step1_keeps (steps_keeps h k)
theorem steps_at {row : List Int} {e : Nat × (Int × List Nat)} {t : Tab} {j : Nat} (hb : e.1.testBit j = false) : ∀ {k : Nat}, j < k → AtL (steps row e t k) (e.1 ||| 2 ^ j) (e.2.1 + row.getD j 0)
  | 0, h => by omega
  | k + 1, h => by
    rw [steps_succ]
    by_cases e : j = k
    · subst e
      exact step1_at hb
    · exact step1_keeps (steps_at hb (by omega))
theorem moreT_keeps {row : List Int} {m : Nat} {a : Int} : ∀ {t found : Tab}, AtL found m a → AtL (moreT row found t) m a
  | [], _, h => h
  | e :: r, _, h => moreT_keeps (t := r) (steps_keeps h _)
theorem moreT_at {row : List Int} {j : Nat} (hj : j < row.length) : ∀ {t found : Tab} {e : Nat × (Int × List Nat)}, e ∈ t → e.1.testBit j = false → AtL (moreT row found t) (e.1 ||| 2 ^ j) (e.2.1 + row.getD j 0)
  | x :: r, found, e, h, hb => by
    rcases List.mem_cons.mp h with rfl | h
    · exact moreT_keeps (t := r) (steps_at hb hj)
    · exact moreT_at hj (t := r) h hb
/-- what holds of all that is put -/
theorem step1_all {row : List Int} {e : Nat × (Int × List Nat)} {t : Tab} {k : Nat} {P : Nat × (Int × List Nat) → Prop} (h : ∀ x ∈ t, P x) (hp : e.1.testBit k = false → P (e.1 ||| 2 ^ k, (e.2.1 + row.getD k 0, e.2.2 ++ [k]))) : ∀ x ∈ step1 row e t k, P x := by
  unfold step1
  split
  · exact h
  rename_i hb
  have hb : e.1.testBit k = false := by
    cases z : e.1.testBit k with
    | false => rfl
    | true => exact absurd z hb
  split
  · intro x hx
    rcases mem_putT hx with rfl | hx
    · exact hp hb
    · exact h x hx
  · split
    · intro x hx
      rcases mem_putT hx with rfl | hx
      · exact hp hb
      · exact h x hx
    · exact h
theorem step1_keys {row : List Int} {e : Nat × (Int × List Nat)} {t : Tab} {k : Nat} (h : (t.map (·.1)).Nodup) : ((step1 row e t k).map (·.1)).Nodup := by
  unfold step1
  split
  · exact h
  split
  · exact keys_put h
  · split
    · exact keys_put h
    · exact h
theorem steps_all {row : List Int} {e : Nat × (Int × List Nat)} {t : Tab} {n : Nat} {P : Nat × (Int × List Nat) → Prop} (h : ∀ x ∈ t, P x) (hp : ∀ k, k < n → e.1.testBit k = false → P (e.1 ||| 2 ^ k, (e.2.1 + row.getD k 0, e.2.2 ++ [k]))) : ∀ k, k ≤ n → ∀ x ∈ steps row e t k, P x
  | 0, _ => h
  | k + 1, hk => by
    rw [steps_succ]
    exact step1_all (steps_all h hp k (by omega)) fun hb => hp k (by omega) hb
theorem steps_keys {row : List Int} {e : Nat × (Int × List Nat)} {t : Tab} (h : (t.map (·.1)).Nodup) : ∀ k, ((steps row e t k).map (·.1)).Nodup
  | 0 => h
  | k + 1 => by
    rw [steps_succ]
    exact step1_keys (steps_keys h k)
/-- a way of k people: the rooms that they take -/
structure Way (n k : Nat) (ρ : List Nat) : Prop where
  len : ρ.length = k
  nd : ρ.Nodup
  lt : ∀ x ∈ ρ, x < n
/-- what a way is worth -/
def valW (r : Nat → Nat → Int) (ρ : List Nat) : Int := sumN ρ.length fun i => r i (ρ.getD i 0)
theorem valW_snoc (r : Nat → Nat → Int) (ρ : List Nat) (x : Nat) : valW r (ρ ++ [x]) = valW r ρ + r ρ.length x := by
  unfold valW
  rw [List.length_append]
  show sumN ρ.length _ + _ = _
  congr 1
  · refine sumN_congr fun i hi => ?_
    congr 1
    simp [List.getD_eq_getElem?_getD, List.getElem?_append_left hi]
  · simp [List.getD_eq_getElem?_getD]
structure GoodE (r : Nat → Nat → Int) (n k : Nat) (e : Nat × (Int × List Nat)) : Prop where
  way : Way n k e.2.2
  val : e.2.1 = valW r e.2.2
  bits : ∀ j, e.1.testBit j = decide (j ∈ e.2.2)
theorem or_bits {m k : Nat} {ρ : List Nat} (h : ∀ j, m.testBit j = decide (j ∈ ρ)) (j : Nat) : (m ||| 2 ^ k).testBit j = decide (j ∈ ρ ++ [k]) := by
  rw [Nat.testBit_or, h, Nat.testBit_two_pow]
  by_cases e : k = j
  · simp [e]
  · have : ¬ j = k := fun z => e z.symm
    simp [e, this]
theorem GoodE.more {r : Nat → Nat → Int} {n k x : Nat} {e : Nat × (Int × List Nat)} {row : List Int} (g : GoodE r n k e) (hx : x < n) (hr : ∀ j, j < n → row.getD j 0 = r k j) (hb : e.1.testBit x = false) : GoodE r n (k + 1) (e.1 ||| 2 ^ x, (e.2.1 + row.getD x 0, e.2.2 ++ [x])) := by
  have hn : x ∉ e.2.2 := by
    rw [g.bits] at hb
    exact of_decide_eq_false hb
  refine ⟨⟨by rw [List.length_append, g.way.len]; rfl, ?_, fun y hy => ?_⟩, ?_, or_bits g.bits⟩
  · rw [List.nodup_append]
    refine ⟨g.way.nd, by simp, fun a ha b hb => ?_⟩
    rw [List.mem_singleton.mp hb]
    exact fun z => hn (z ▸ ha)
  · rcases List.mem_append.mp hy with hy | hy
    · exact g.way.lt y hy
    · rw [List.mem_singleton.mp hy]
      exact hx
  · show e.2.1 + row.getD x 0 = _
    rw [valW_snoc, g.val, g.way.len, hr x hx]
/-- a table of the first k people: all its ways are, and each way is outdone -/
structure TabOk (r : Nat → Nat → Int) (n k : Nat) (t : Tab) : Prop where
  good : ∀ e ∈ t, GoodE r n k e
  keys : (t.map (·.1)).Nodup
  full : ∀ ρ, Way n k ρ → ∃ m, (∀ j, m.testBit j = decide (j ∈ ρ)) ∧ AtL t m (valW r ρ)
theorem moreT_all {row : List Int} {P : Nat × (Int × List Nat) → Prop} : ∀ {t found : Tab}, (∀ x ∈ found, P x) → (∀ e ∈ t, ∀ k, k < row.length → e.1.testBit k = false → P (e.1 ||| 2 ^ k, (e.2.1 + row.getD k 0, e.2.2 ++ [k]))) → ∀ x ∈ moreT row found t, P x
  | [], _, h, _ => h
  | e :: r, _, h, hp => moreT_all (t := r) (steps_all (n := row.length) h (fun k hk hb => hp e List.mem_cons_self k hk hb) _ (Nat.le_refl _)) fun e2 he => hp e2 (List.mem_cons_of_mem _ he)
theorem moreT_keys {row : List Int} : ∀ {t found : Tab}, (found.map (·.1)).Nodup → ((moreT row found t).map (·.1)).Nodup
  | [], _, h => h
  | _ :: r, _, h => moreT_keys (t := r) (steps_keys h _)
theorem bits_eq {m m' : Nat} {ρ ρ' : List Nat} (h : ∀ j, m.testBit j = decide (j ∈ ρ)) (h' : ∀ j, m'.testBit j = decide (j ∈ ρ')) (e : ∀ j, j ∈ ρ ↔ j ∈ ρ') : m = m' := Nat.eq_of_testBit_eq fun j => by
  rw [h, h']
  exact decide_eq_decide.mpr (e j)
theorem TabOk.more {r : Nat → Nat → Int} {n k : Nat} {t : Tab} {row : List Int} (h : TabOk r n k t) (hl : row.length = n) (hr : ∀ j, j < n → row.getD j 0 = r k j) : TabOk r n (k + 1) (oneMore t row) := by
  refine ⟨moreT_all (fun x hx => by cases hx) fun e he x hx hb => (h.good e he).more (by omega) hr hb, moreT_keys (by simp), fun ρ w => ?_⟩
  obtain ⟨ρ0, x, rfl⟩ : ∃ ρ0 x, ρ = ρ0 ++ [x] := by
    refine ⟨ρ.dropLast, ρ.getLast fun z => ?_, (List.dropLast_concat_getLast _).symm⟩
    have := w.len
    rw [z] at this
    cases this
  have hl0 : ρ0.length = k := by
    have := w.len
    rw [List.length_append] at this
    have : ρ0.length + 1 = k + 1 := this
    omega
  have nd := List.nodup_append.mp w.nd
  have hx : x < n := w.lt x (List.mem_append.mpr (.inr (List.mem_singleton.mpr rfl)))
  have w0 : Way n k ρ0 := ⟨hl0, nd.1, fun y hy => w.lt y (List.mem_append.mpr (.inl hy))⟩
  have hxn : x ∉ ρ0 := fun m => nd.2.2 x m x (List.mem_singleton.mpr rfl) rfl
  obtain ⟨m, hm, v, hv, hle⟩ := h.full ρ0 w0
  have hmem := lookT_mem hv
  have hb : m.testBit x = false := by
    rw [hm]
    exact decide_eq_false hxn
  obtain ⟨v2, h2, h3⟩ := moreT_at (row := row) (found := []) (j := x) (by omega) hmem hb
  refine ⟨m ||| 2 ^ x, or_bits hm, v2, h2, ?_⟩
  rw [valW_snoc, hl0, ← hr x hx]
  have : v.1 + row.getD x 0 ≤ v2.1 := h3
  omega
theorem tab0 (r : Nat → Nat → Int) (n : Nat) : TabOk r n 0 [(0, (0, []))] := by
  refine ⟨fun e he => ?_, by simp, fun ρ w => ?_⟩
  · rw [List.mem_singleton.mp he]
    exact ⟨⟨rfl, List.nodup_nil, fun x hx => by cases hx⟩, rfl, fun j => by simp⟩
  · have : ρ = [] := List.length_eq_zero_iff.mp w.len
    subst this
    exact ⟨0, fun j => by simp, (0, []), rfl, Int.le_refl _⟩
def rAt (rows : List (List Int)) (i j : Nat) : Int := (rows.getD i []).getD j 0
theorem bestT_ok {rows : List (List Int)} {n : Nat} (hl : ∀ row ∈ rows, row.length = n) : ∀ k, k ≤ rows.length → TabOk (rAt rows) n k (bestT (rows.take k))
  | 0, _ => tab0 _ _
  | k + 1, hk => by
    have h1 : k < rows.length := by omega
    have e : bestT (rows.take (k + 1)) = oneMore (bestT (rows.take k)) rows[k] := by
      unfold bestT
      rw [List.take_add_one, List.getElem?_eq_getElem h1, List.foldl_append]
      rfl
    rw [e]
    refine (bestT_ok hl k (by omega)).more (hl _ (List.getElem_mem h1)) fun j _ => ?_
    simp [rAt, List.getD_eq_getElem?_getD, h1]
theorem TabOk.len {r : Nat → Nat → Int} {n k : Nat} {t : Tab} (h : TabOk r n k t) : t.length ≤ 2 ^ n := by
  have := nodup_len (n := 2 ^ n) h.keys fun x hx => by
    obtain ⟨e, he, rfl⟩ := List.mem_map.mp hx
    have g := h.good e he
    refine Nat.lt_pow_two_of_testBit _ fun i hi => ?_
    rw [g.bits]
    exact decide_eq_false fun m => by have := g.way.lt i m; omega
  rw [List.length_map] at this
  exact this
theorem key_lt {r : Nat → Nat → Int} {n k : Nat} {e : Nat × (Int × List Nat)} (g : GoodE r n k e) : e.1 < 2 ^ n := by
  refine Nat.lt_pow_two_of_testBit _ fun i hi => ?_
  rw [g.bits]
  exact decide_eq_false fun m => by have := g.way.lt i m; omega
theorem way_range (n : Nat) : Way n n (List.range n) := ⟨List.length_range, List.nodup_range, fun _ h => List.mem_range.mp h⟩
theorem full_bits {n m : Nat} {ρ : List Nat} (w : Way n n ρ) (h : ∀ j, m.testBit j = decide (j ∈ ρ)) : m = 2 ^ n - 1 := Nat.eq_of_testBit_eq fun j => by
  rw [h, Nat.testBit_two_pow_sub_one]
  refine decide_eq_decide.mpr ⟨w.lt j, fun hj => nodup_all w.nd w.lt w.len hj⟩
/-- the rooms that are told: no way is worth more -/
theorem best_at {rows : List (List Int)} {n : Nat} (hl : ∀ row ∈ rows, row.length = n) (hn : rows.length = n) :
    ∃ v, lookT (bestT rows) (2 ^ n - 1) = some v ∧ Way n n v.2 ∧ v.1 = valW (rAt rows) v.2 ∧ ∀ ρ, Way n n ρ → valW (rAt rows) ρ ≤ valW (rAt rows) v.2 := by
  have T := bestT_ok hl n (by omega)
  rw [← hn, List.take_length, hn] at T
  obtain ⟨m, hm, v, hv, _⟩ := T.full _ (way_range n)
  have em := full_bits (way_range n) hm
  subst em
  have g := T.good _ (lookT_mem hv)
  refine ⟨v, hv, g.way, g.val, fun ρ w => ?_⟩
  obtain ⟨m2, hm2, v2, hv2, hle⟩ := T.full ρ w
  have em := full_bits w hm2
  subst em
  rw [hv] at hv2
  obtain rfl := Option.some.inj hv2
  have : v.1 = valW (rAt rows) v.2 := g.val
  omega
/-! ### ways as functions, exchanged -/
structure Inj (n : Nat) (g : Nat → Nat) : Prop where
  lt : ∀ i, i < n → g i < n
  inj : ∀ i j, i < n → j < n → g i = g j → i = j
/-- no other way is worth more -/
def Opt (n : Nat) (r : Nat → Nat → Int) (f : Nat → Nat) : Prop := ∀ g, Inj n g → sumN n (fun i => r i (g i)) ≤ sumN n (fun i => r i (f i))
theorem inj_way {n : Nat} {g : Nat → Nat} (h : Inj n g) : Way n n ((List.range n).map g) := by
  refine ⟨by simp, ?_, fun x hx => ?_⟩
  · rw [List.Nodup, List.pairwise_map]
    exact (List.nodup_range (n := n)).imp_of_mem fun {a b} ha hb ne e => ne (h.inj a b (List.mem_range.mp ha) (List.mem_range.mp hb) e)
  · obtain ⟨i, hi, rfl⟩ := List.mem_map.mp hx
    exact h.lt i (List.mem_range.mp hi)
theorem way_inj {n : Nat} {ρ : List Nat} (w : Way n n ρ) : Inj n fun i => ρ.getD i 0 := by
  have e : ∀ i (h : i < ρ.length), ρ.getD i 0 = ρ[i] := fun i h => by simp [List.getD_eq_getElem?_getD, h]
  refine ⟨fun i hi => ?_, fun i j hi hj h => ?_⟩
  · have h : i < ρ.length := by rw [w.len]; exact hi
    show ρ.getD i 0 < n
    rw [e i h]
    exact w.lt _ (List.getElem_mem h)
  · have h1 : i < ρ.length := by rw [w.len]; exact hi
    have h2 : j < ρ.length := by rw [w.len]; exact hj
    have h : ρ.getD i 0 = ρ.getD j 0 := h
    rw [e i h1, e j h2] at h
    have P := List.pairwise_iff_getElem.mp w.nd
    by_cases e1 : i < j
    · exact absurd h (P i j h1 h2 e1)
    · by_cases e2 : j < i
      · exact absurd h.symm (P j i h2 h1 e2)
      · omega
theorem opt_of {n : Nat} {r : Nat → Nat → Int} {ρ : List Nat} (w : Way n n ρ) (h : ∀ ρ', Way n n ρ' → valW r ρ' ≤ valW r ρ) : Opt n r fun i => ρ.getD i 0 := fun g hg => by
  have := h _ (inj_way hg)
  unfold valW at this
  rw [w.len, List.length_map, List.length_range] at this
  rw [sumN_congr (g := fun i => r i (g i)) fun i hi => by
    show r i (((List.range n).map g).getD i 0) = r i (g i)
    simp [List.getD_eq_getElem?_getD, hi]] at this
  exact this
def swap (f : Nat → Nat) (a b : Nat) : Nat → Nat := fun i => if i = a then f b else if i = b then f a else f i
theorem swap_inj {n : Nat} {f : Nat → Nat} {a b : Nat} (h : Inj n f) (ha : a < n) (hb : b < n) : Inj n (swap f a b) := by
  refine ⟨fun i hi => ?_, fun i j hi hj e => ?_⟩
  · unfold swap
    split
    · exact h.lt b hb
    · split
      · exact h.lt a ha
      · exact h.lt i hi
  · unfold swap at e
    have H := h.inj
    by_cases i1 : i = a
    · rw [if_pos i1] at e
      by_cases j1 : j = a
      · omega
      · rw [if_neg j1] at e
        by_cases j2 : j = b
        · rw [if_pos j2] at e
          have := H b a hb ha e
          omega
        · rw [if_neg j2] at e
          have := H b j hb hj e
          omega
    · rw [if_neg i1] at e
      by_cases i2 : i = b
      · rw [if_pos i2] at e
        by_cases j1 : j = a
        · rw [if_pos j1] at e
          have := H a b ha hb e
          omega
        · rw [if_neg j1] at e
          by_cases j2 : j = b
          · omega
          · rw [if_neg j2] at e
            have := H a j ha hj e
            omega
      · rw [if_neg i2] at e
        by_cases j1 : j = a
        · rw [if_pos j1] at e
          have := H i b hi hb e
          omega
        · rw [if_neg j1] at e
          by_cases j2 : j = b
          · rw [if_pos j2] at e
            have := H i a hi ha e
            omega
          · rw [if_neg j2] at e
            exact H i j hi hj e
def valF (n : Nat) (r : Nat → Nat → Int) (f : Nat → Nat) : Int := sumN n fun i => r i (f i)
theorem val_swap {n : Nat} {r : Nat → Nat → Int} {f : Nat → Nat} {a b : Nat} (ha : a < n) (hb : b < n) (ne : a ≠ b) : valF n r (swap f a b) = valF n r f + (r a (f b) - r a (f a)) + (r b (f a) - r b (f b)) := by
  have e : ∀ i, i < n → r i (swap f a b i) = if i = a then r a (f b) else (if i = b then r b (f a) else r i (f i)) := fun i _ => by
    unfold swap
    by_cases h1 : i = a
    · rw [if_pos h1, if_pos h1, h1]
    · rw [if_neg h1, if_neg h1]
      by_cases h2 : i = b
      · rw [if_pos h2, if_pos h2, h2]
      · rw [if_neg h2, if_neg h2]
  unfold valF
  rw [sumN_congr e, sumN_upd ha, sumN_upd (f := fun i => r i (f i)) hb, if_neg ne]
  omega
/-- what a walk is worth; its end -/
def wk (d : Nat → Nat → Int) : Nat → List Nat → Int
  | _, [] => 0
  | x, y :: t => d x y + wk d y t
def endp : Nat → List Nat → Nat
  | x, [] => x
  | _, y :: t => endp y t
theorem wk_snoc (d : Nat → Nat → Int) (o : Nat) : ∀ (t : List Nat) (x : Nat), wk d x (t ++ [o]) = wk d x t + d (endp x t) o
  | [], x => by simp [wk, endp]
  | y :: t, x => by
    show d x y + wk d y (t ++ [o]) = d x y + wk d y t + d (endp y t) o
    rw [wk_snoc d o t y]
    omega
theorem endp_snoc (o : Nat) : ∀ (t : List Nat) (x : Nat), endp x (t ++ [o]) = o
  | [], _ => rfl
  | y :: t, _ => endp_snoc o t y
theorem wk_split (d : Nat → Nat → Int) (y : Nat) (c : List Nat) : ∀ (b : List Nat) (x : Nat), wk d x (b ++ y :: c) = wk d x (b ++ [y]) + wk d y c
  | [], x => by simp [wk]
  | z :: b, x => by
    show d x z + wk d z (b ++ y :: c) = d x z + wk d z (b ++ [y]) + wk d y c
    rw [wk_split d y c b z]
    omega
theorem endp_split (y : Nat) (c : List Nat) : ∀ (b : List Nat) (x : Nat), endp x (b ++ y :: c) = endp y c
  | [], _ => rfl
  | z :: b, _ => endp_split y c b z
theorem endp_mem : ∀ (t : List Nat) (x : Nat), endp x t ∈ x :: t
  | [], _ => List.mem_cons_self
  | y :: t, x => List.mem_cons_of_mem _ (endp_mem t y)
/-- what a person would win by another one's room -/
def dOf (r : Nat → Nat → Int) (f : Nat → Nat) (p o : Nat) : Int := r p (f o) - r p (f p)
def shift : Nat → List Nat → (Nat → Nat) → (Nat → Nat)
  | _, [], f => f
  | a, b :: t, f => shift b t (swap f a b)
theorem shift_inj {n : Nat} : ∀ {t : List Nat} {a : Nat} {f : Nat → Nat}, Inj n f → (∀ x ∈ a :: t, x < n) → Inj n (shift a t f)
  | [], _, _, h, _ => h
  | b :: t, a, f, h, hl => shift_inj (t := t) (swap_inj h (hl a List.mem_cons_self) (hl b (List.mem_cons_of_mem _ List.mem_cons_self))) fun x hx => hl x (List.mem_cons_of_mem _ hx)
theorem wk_congr {d d' : Nat → Nat → Int} : ∀ {t : List Nat} {x : Nat}, (∀ a ∈ x :: t, ∀ b ∈ t, d a b = d' a b) → wk d x t = wk d' x t
  | [], _, _ => rfl
  | y :: t, x, h => by
    show d x y + wk d y t = d' x y + wk d' y t
    rw [h x List.mem_cons_self y List.mem_cons_self, wk_congr (t := t) fun a ha b hb => h a (List.mem_cons_of_mem _ ha) b (List.mem_cons_of_mem _ hb)]
theorem val_shift {n : Nat} {r : Nat → Nat → Int} : ∀ {t : List Nat} {a : Nat} {f : Nat → Nat}, (a :: t).Nodup → (∀ x ∈ a :: t, x < n) →
    valF n r (shift a t f) = valF n r f + wk (dOf r f) a t + (r (endp a t) (f a) - r (endp a t) (f (endp a t)))
  | [], a, f, _, _ => by
    show valF n r f = valF n r f + 0 + (r a (f a) - r a (f a))
    omega
  | b :: t, a, f, nd, hl => by
    have ha := hl a List.mem_cons_self
    have hb := hl b (List.mem_cons_of_mem _ List.mem_cons_self)
    obtain ⟨na, nd'⟩ := List.nodup_cons.mp nd
    have ne : a ≠ b := fun z => na (z ▸ List.mem_cons_self)
    have ih := val_shift (n := n) (r := r) (t := t) (a := b) (f := swap f a b) nd' fun x hx => hl x (List.mem_cons_of_mem _ hx)
    have vs := val_swap (r := r) (f := f) ha hb ne
    show valF n r (shift b t (swap f a b)) = valF n r f + (dOf r f a b + wk (dOf r f) b t) + (r (endp b t) (f a) - r (endp b t) (f (endp b t)))
    rw [ih, vs]
    have sb : swap f a b b = f a := by
      unfold swap
      rw [if_neg fun z => ne z.symm, if_pos rfl]
    cases t with
    | nil =>
      show valF n r f + (r a (f b) - r a (f a)) + (r b (f a) - r b (f b)) + 0 + (r b (swap f a b b) - r b (swap f a b b)) = valF n r f + (r a (f b) - r a (f a) + 0) + (r b (f a) - r b (f b))
      omega
    | cons c t =>
      obtain ⟨nb, nd''⟩ := List.nodup_cons.mp nd'
      have other : ∀ x ∈ c :: t, swap f a b x = f x := fun x hx => by
        unfold swap
        rw [if_neg fun z => na (by rw [← z]; exact List.mem_cons_of_mem _ hx), if_neg fun z => nb (by rw [← z]; exact hx)]
      have ew : wk (dOf r (swap f a b)) c t = wk (dOf r f) c t := wk_congr fun x hx y hy => by
        unfold dOf
        rw [other x hx, other y (List.mem_cons_of_mem _ hy)]
      have hz := other _ (endp_mem t c)
      show valF n r f + (r a (f b) - r a (f a)) + (r b (f a) - r b (f b)) + (dOf r (swap f a b) b c + wk (dOf r (swap f a b)) c t) + (r (endp c t) (swap f a b b) - r (endp c t) (swap f a b (endp c t))) = valF n r f + (dOf r f a b + (dOf r f b c + wk (dOf r f) c t)) + (r (endp c t) (f a) - r (endp c t) (f (endp c t)))
      rw [ew, hz, sb]
      unfold dOf
      rw [other c List.mem_cons_self, sb]
      omega
/-- no walk round is worth anything -/
theorem round_le {n : Nat} {r : Nat → Nat → Int} {f : Nat → Nat} (hf : Inj n f) (ho : Opt n r f) {x : Nat} {b : List Nat} (nd : (x :: b).Nodup) (hl : ∀ y ∈ x :: b, y < n) : wk (dOf r f) x (b ++ [x]) ≤ 0 := by
  have h := ho _ (shift_inj hf hl)
  have e := val_shift (n := n) (r := r) (f := f) nd hl
  unfold valF at e
  rw [wk_snoc]
  unfold dOf at e ⊢
  omega
theorem split_first {x : Nat} : ∀ {t : List Nat}, x ∈ t → ∃ b c, t = b ++ x :: c ∧ x ∉ b
  | y :: t, h => by
    by_cases e : x = y
    · subst e
      exact ⟨[], t, rfl, fun z => nomatch z⟩
    · rcases List.mem_cons.mp h with h | h
      · exact absurd h e
      · obtain ⟨b, c, rfl, hb⟩ := split_first h
        refine ⟨y :: b, c, rfl, fun z => ?_⟩
        rcases List.mem_cons.mp z with z | z
        · exact e z
        · exact hb z
/-- a walk without anybody twice is worth as much -/
theorem walk_short {n : Nat} {r : Nat → Nat → Int} {f : Nat → Nat} (hf : Inj n f) (ho : Opt n r f) : ∀ (t : List Nat) (x : Nat), (∀ y ∈ x :: t, y < n) →
    ∃ t', (x :: t').Nodup ∧ (∀ y ∈ x :: t', y < n) ∧ endp x t' = endp x t ∧ wk (dOf r f) x t ≤ wk (dOf r f) x t'
  | [], x, hl => ⟨[], by simp, hl, rfl, Int.le_refl _⟩
  | y :: t, x, hl => by
    obtain ⟨t', nd, hl', he, hw⟩ := walk_short hf ho t y fun z hz => hl z (List.mem_cons_of_mem _ hz)
    have hx := hl x List.mem_cons_self
    by_cases m : x ∈ y :: t'
    · obtain ⟨b, c, e, nb⟩ := split_first m
      rw [e] at nd
      have nd2 := List.nodup_append.mp nd
      have hb : (x :: b).Nodup := List.nodup_cons.mpr ⟨nb, nd2.1⟩
      have hlb : ∀ z ∈ x :: b, z < n := fun z hz => by
        rcases List.mem_cons.mp hz with rfl | hz
        · exact hx
        · exact hl' z (by rw [e]; exact List.mem_append.mpr (.inl hz))
      have hr := round_le hf ho hb hlb
      refine ⟨c, nd2.2.1, fun z hz => hl' z (by rw [e]; exact List.mem_append.mpr (.inr hz)), ?_, ?_⟩
      · have h1 := endp_split x c b x
        rw [← e] at h1
        rw [← h1]
        exact he
      · have h1 := wk_split (dOf r f) x c b x
        rw [← e] at h1
        have h2 : wk (dOf r f) x (y :: t') = dOf r f x y + wk (dOf r f) y t' := rfl
        show dOf r f x y + wk (dOf r f) y t ≤ _
        omega
    · refine ⟨y :: t', List.nodup_cons.mpr ⟨m, nd⟩, fun z hz => ?_, he, ?_⟩
      · rcases List.mem_cons.mp hz with rfl | hz
        · exact hx
        · exact hl' z hz
      · show dOf r f x y + wk (dOf r f) y t ≤ dOf r f x y + wk (dOf r f) y t'
        omega
/-! ### prices -/
def relax (d : Nat → Nat → Int) (paid : List Int) (p o : Nat) : List Int := paid.set o (if paid.getD p 0 + d p o > paid.getD o 0 then paid.getD p 0 + d p o else paid.getD o 0)
def sweepO (d : Nat → Nat → Int) (p : Nat) (paid : List Int) : Nat → List Int
  | 0 => paid
  | k + 1 => relax d (sweepO d p paid k) p k
def sweepP (d : Nat → Nat → Int) (n : Nat) (paid : List Int) : Nat → List Int
  | 0 => paid
  | k + 1 => sweepO d k (sweepP d n paid k) n
def roundsM (d : Nat → Nat → Int) (n : Nat) : Nat → List Int
  | 0 => List.replicate n 0
  | k + 1 => sweepP d n (roundsM d n k) n
def leL (xs ys : List Int) : Prop := xs.length = ys.length ∧ ∀ i, xs.getD i 0 ≤ ys.getD i 0
theorem leL.refl (xs : List Int) : leL xs xs := ⟨rfl, fun _ => Int.le_refl _⟩
theorem leL.trans {xs ys zs : List Int} (h : leL xs ys) (k : leL ys zs) : leL xs zs := ⟨h.1.trans k.1, fun i => Int.le_trans (h.2 i) (k.2 i)⟩
theorem getD_set {xs : List Int} {o i : Nat} {z : Int} : (xs.set o z).getD i 0 = if o = i ∧ o < xs.length then z else xs.getD i 0 := by
  rw [List.getD_eq_getElem?_getD, List.getElem?_set, List.getD_eq_getElem?_getD]
  by_cases e : o = i
  · rw [if_pos e]
    by_cases h : o < xs.length
    · rw [if_pos h, if_pos ⟨e, h⟩]
      rfl
    · rw [if_neg h, if_neg fun z => h z.2, List.getElem?_eq_none (by omega)]
  · rw [if_neg e, if_neg fun z => e z.1]
theorem relax_le (d : Nat → Nat → Int) (paid : List Int) (p o : Nat) : leL paid (relax d paid p o) := by
  refine ⟨by unfold relax; rw [List.length_set], fun i => ?_⟩
  unfold relax
  rw [getD_set]
  split
  · rename_i h
    rw [← h.1]
    split <;> omega
  · exact Int.le_refl _
theorem relax_at {d : Nat → Nat → Int} {paid : List Int} {p o : Nat} (h : o < paid.length) : paid.getD p 0 + d p o ≤ (relax d paid p o).getD o 0 := by
  unfold relax
  rw [getD_set, if_pos ⟨rfl, h⟩]
  split <;> omega
theorem sweepO_le (d : Nat → Nat → Int) (p : Nat) (paid : List Int) : ∀ k, leL paid (sweepO d p paid k)
  | 0 => leL.refl _
  | k + 1 => (sweepO_le d p paid k).trans (relax_le _ _ _ _)
theorem sweepP_le (d : Nat → Nat → Int) (n : Nat) (paid : List Int) : ∀ k, leL paid (sweepP d n paid k)
  | 0 => leL.refl _
  | k + 1 => (sweepP_le d n paid k).trans (sweepO_le _ _ _ _)
theorem sweepO_at {d : Nat → Nat → Int} {p : Nat} {paid : List Int} {o : Nat} (ho : o < paid.length) : ∀ {k : Nat}, o < k → paid.getD p 0 + d p o ≤ (sweepO d p paid k).getD o 0
  | 0, h => by omega
  | k + 1, h => by
    show _ ≤ (relax d (sweepO d p paid k) p k).getD o 0
    by_cases e : o = k
    · subst e
      have h1 := sweepO_le d p paid o
      have h2 := relax_at (d := d) (paid := sweepO d p paid o) (p := p) (o := o) (by rw [← h1.1]; exact ho)
      have h3 := h1.2 p
      omega
    · have h1 := sweepO_at (d := d) (p := p) (paid := paid) ho (k := k) (by omega)
      have h2 := (relax_le d (sweepO d p paid k) p k).2 o
      omega
theorem sweepP_at {d : Nat → Nat → Int} {n : Nat} {paid : List Int} (hn : paid.length = n) {p o : Nat} (ho : o < n) : ∀ {k : Nat}, p < k → paid.getD p 0 + d p o ≤ (sweepP d n paid k).getD o 0
  | 0, h => by omega
  | k + 1, h => by
    show _ ≤ (sweepO d k (sweepP d n paid k) n).getD o 0
    have hle := sweepP_le d n paid k
    by_cases e : p = k
    · subst e
      have h2 := sweepO_at (d := d) (p := p) (paid := sweepP d n paid p) (o := o) (by rw [← hle.1, hn]; exact ho) (k := n) ho
      have h3 := hle.2 p
      omega
    · have h1 := sweepP_at hn (d := d) (p := p) ho (k := k) (by omega)
      have h2 := (sweepO_le d k (sweepP d n paid k) n).2 o
      omega
theorem rounds_len (d : Nat → Nat → Int) (n : Nat) : ∀ k, (roundsM d n k).length = n
  | 0 => by simp [roundsM]
  | k + 1 => by
    show (sweepP d n (roundsM d n k) n).length = n
    rw [← (sweepP_le d n (roundsM d n k) n).1]
    exact rounds_len d n k
theorem rounds_walk {d : Nat → Nat → Int} {n : Nat} : ∀ (k : Nat) (t : List Nat) (x : Nat), t.length ≤ k → (∀ y ∈ x :: t, y < n) → wk d x t ≤ (roundsM d n k).getD (endp x t) 0
  | 0, t, x, hk, hl => by
    have : t = [] := List.length_eq_zero_iff.mp (by omega)
    subst this
    have hx := hl x List.mem_cons_self
    simp [wk, endp, roundsM, List.getD_eq_getElem?_getD, hx]
  | k + 1, t, x, hk, hl => by
    have hle := sweepP_le d n (roundsM d n k) n
    by_cases h0 : t.length ≤ k
    · have h1 := rounds_walk (d := d) (n := n) k t x h0 hl
      have h2 := hle.2 (endp x t)
      show _ ≤ (sweepP d n (roundsM d n k) n).getD _ 0
      omega
    · obtain ⟨t0, o, rfl⟩ : ∃ t0 o, t = t0 ++ [o] := by
        refine ⟨t.dropLast, t.getLast fun z => ?_, (List.dropLast_concat_getLast _).symm⟩
        rw [z] at h0
        exact h0 (Nat.zero_le _)
      rw [List.length_append] at hk
      have hk : t0.length + 1 ≤ k + 1 := hk
      have hl0 : ∀ y ∈ x :: t0, y < n := fun y hy => hl y (by
        rcases List.mem_cons.mp hy with rfl | hy
        · exact List.mem_cons_self
        · exact List.mem_cons_of_mem _ (List.mem_append.mpr (.inl hy)))
      have ho : o < n := hl o (List.mem_cons_of_mem _ (List.mem_append.mpr (.inr List.mem_cons_self)))
      have h1 := rounds_walk (d := d) (n := n) k t0 x (by omega) hl0
      rw [wk_snoc, endp_snoc]
      have h2 := sweepP_at (d := d) (rounds_len d n k) (p := endp x t0) ho (k := n) (hl0 _ (endp_mem t0 x))
      show _ ≤ (sweepP d n (roundsM d n k) n).getD _ 0
      omega
/-- each price is what some walk is worth -/
def Walked (d : Nat → Nat → Int) (n : Nat) (paid : List Int) : Prop := paid.length = n ∧ ∀ o, o < n → ∃ x t, (∀ y ∈ x :: t, y < n) ∧ endp x t = o ∧ paid.getD o 0 = wk d x t
theorem relax_walked {d : Nat → Nat → Int} {n : Nat} {paid : List Int} {p o : Nat} (h : Walked d n paid) (hp : p < n) (ho : o < n) : Walked d n (relax d paid p o) := by
  refine ⟨by rw [← (relax_le d paid p o).1]; exact h.1, fun i hi => ?_⟩
  unfold relax
  rw [getD_set]
  by_cases e : o = i ∧ o < paid.length
  · rw [if_pos e, ← e.1]
    split
    · obtain ⟨x, t, h1, h2, h3⟩ := h.2 p hp
      refine ⟨x, t ++ [o], fun y hy => ?_, endp_snoc o t x, by rw [wk_snoc, h2, h3]⟩
      rcases List.mem_cons.mp hy with rfl | hy
      · exact h1 _ List.mem_cons_self
      · rcases List.mem_append.mp hy with hy | hy
        · exact h1 y (List.mem_cons_of_mem _ hy)
        · rw [List.mem_singleton.mp hy]
          exact ho
    · exact h.2 o ho
  · rw [if_neg e]
    exact h.2 i hi
theorem sweepO_walked {d : Nat → Nat → Int} {n : Nat} {paid : List Int} {p : Nat} (h : Walked d n paid) (hp : p < n) : ∀ k, k ≤ n → Walked d n (sweepO d p paid k)
  | 0, _ => h
  | k + 1, hk => relax_walked (sweepO_walked h hp k (by omega)) hp (by omega)
theorem sweepP_walked {d : Nat → Nat → Int} {n : Nat} {paid : List Int} (h : Walked d n paid) : ∀ k, k ≤ n → Walked d n (sweepP d n paid k)
  | 0, _ => h
  | k + 1, hk => sweepO_walked (sweepP_walked h k (by omega)) (by omega) n (Nat.le_refl _)
theorem rounds_walked (d : Nat → Nat → Int) (n : Nat) : ∀ k, Walked d n (roundsM d n k)
  | 0 => ⟨by simp [roundsM], fun o ho => ⟨o, [], fun y hy => by rw [List.mem_singleton.mp hy]; exact ho, rfl, by simp [roundsM, wk, List.getD_eq_getElem?_getD, ho]⟩⟩
  | k + 1 => sweepP_walked (rounds_walked d n k) n (Nat.le_refl _)
/-- behind n rounds nobody would change -/
theorem prices_ok {n : Nat} {r : Nat → Nat → Int} {f : Nat → Nat} (hf : Inj n f) (ho : Opt n r f) {p o : Nat} (hp : p < n) (h : o < n) :
    (roundsM (dOf r f) n n).getD p 0 + dOf r f p o ≤ (roundsM (dOf r f) n n).getD o 0 := by
  obtain ⟨x, t, h1, h2, h3⟩ := (rounds_walked (dOf r f) n n).2 p hp
  obtain ⟨t', nd, hl, he, hw⟩ := walk_short hf ho t x h1
  have hlen := nodup_len nd hl
  rw [List.length_cons] at hlen
  have h4 := rounds_walk (d := dOf r f) (n := n) n (t' ++ [o]) x (by rw [List.length_append]; exact hlen) fun y hy => by
    rcases List.mem_cons.mp hy with rfl | hy
    · exact hl _ List.mem_cons_self
    · rcases List.mem_append.mp hy with hy | hy
      · exact hl y (List.mem_cons_of_mem _ hy)
      · rw [List.mem_singleton.mp hy]
        exact h
  rw [wk_snoc, endp_snoc, he, h2] at h4
  omega
theorem rounds_nonneg (d : Nat → Nat → Int) (n k o : Nat) : 0 ≤ (roundsM d n k).getD o 0 := by
  induction k with
  | zero =>
    show 0 ≤ (List.replicate n (0 : Int)).getD o 0
    rw [List.getD_eq_getElem?_getD, List.getElem?_replicate]
    split <;> exact Int.le_refl _
  | succ k ih =>
    have := (sweepP_le d n (roundsM d n k) n).2 o
    show 0 ≤ (sweepP d n (roundsM d n k) n).getD o 0
    omega
/-! ### the deal in rooms -/
def roomsM (rows : List (List Int)) : List Nat := ((lookT (bestT rows) (2 ^ rows.length - 1)).getD (0, [])).2
/-- with empty rooms, as many as people -/
def padM (rows : List (List Int)) (m : Nat) : List (List Int) := rows.map fun r => r ++ List.replicate (rows.length - m) 0
def rmOf (rows : List (List Int)) (m : Nat) : List Nat := roomsM (padM rows m)
def paidM (rows : List (List Int)) (m : Nat) : List Int := roundsM (dOf (rAt (padM rows m)) fun i => (rmOf rows m).getD i 0) rows.length rows.length
def heapsR (rows : List (List Int)) (m : Nat) : List (List Int) := (rmOf rows m).map fun x => if x < m then [(x : Int)] else []
def payR (rows : List (List Int)) (m : Nat) : List Int := (paidM rows m).map fun z => z * rows.length - (paidM rows m).sum
theorem pad_len (rows : List (List Int)) (m : Nat) : (padM rows m).length = rows.length := by simp [padM]
theorem pad_row {rows : List (List Int)} {m : Nat} (hl : ∀ r ∈ rows, r.length = m) (hm : m ≤ rows.length) : ∀ r ∈ padM rows m, r.length = (padM rows m).length := fun r hr => by
  obtain ⟨r0, h0, rfl⟩ := List.mem_map.mp hr
  rw [pad_len, List.length_append, List.length_replicate, hl _ h0]
  omega
theorem pad_at {rows : List (List Int)} {m : Nat} (hl : ∀ r ∈ rows, r.length = m) {i j : Nat} (hi : i < rows.length) : rAt (padM rows m) i j = if j < m then (rows.getD i []).getD j 0 else 0 := by
  have e : (padM rows m).getD i [] = rows[i] ++ List.replicate (rows.length - m) 0 := by simp [padM, List.getD_eq_getElem?_getD, hi]
  have e2 : rows.getD i [] = rows[i] := by simp [List.getD_eq_getElem?_getD, hi]
  have hli := hl _ (List.getElem_mem hi)
  unfold rAt
  rw [e, e2]
  by_cases h : j < m
  · rw [if_pos h]
    simp [List.getD_eq_getElem?_getD, List.getElem?_append_left (show j < rows[i].length by omega)]
  · rw [if_neg h, List.getD_eq_getElem?_getD, List.getElem?_append_right (by omega), List.getElem?_replicate]
    split <;> rfl
structure RmOk (rows : List (List Int)) (m : Nat) : Prop where
  way : Way rows.length rows.length (rmOf rows m)
  best : ∀ ρ, Way rows.length rows.length ρ → valW (rAt (padM rows m)) ρ ≤ valW (rAt (padM rows m)) (rmOf rows m)
theorem rm_ok {rows : List (List Int)} {m : Nat} (hl : ∀ r ∈ rows, r.length = m) (hm : m ≤ rows.length) : RmOk rows m := by
  obtain ⟨v, hv, hw, _, hb⟩ := best_at (pad_row hl hm) rfl
  have e : rmOf rows m = v.2 := by
    unfold rmOf roomsM
    rw [hv]
    rfl
  rw [pad_len] at hw hb
  rw [← e] at hw hb
  exact ⟨hw, hb⟩
theorem paid_len (rows : List (List Int)) (m : Nat) : (paidM rows m).length = rows.length := rounds_len _ _ _
end Rm

/-! Rx: what the readings of rooms share. -/
namespace Rx
open PySem PySem.Spec PyProof.Rows L2 Evl Fs Rm
theorem u1 {n m : Nat} (h : n + 64 < m) : n + 1 < m := by omega
abbrev nv (ρ : List Nat) : List V := ρ.map fun n : Nat => V.int (n : Int)
/-- an entry of a table as it stands: an int key, a tuple of an int and a list of ints -/
def Ent (H : Hp) (kv : Key × V) (e : Nat × (Int × List Nat)) : Prop :=
  kv.1 = .inl (e.1 : Int) ∧ ∃ a l, kv.2 = .ref a ∧ H a = some (.tup [.int e.2.1, .ref l]) ∧ H l = some (.lst (nv e.2.2))
abbrev Tb (H : Hp) (kvs : List (Key × V)) (t : Tab) : Prop := Paired (Ent H) kvs t
theorem Tb.mono {H H' : Hp} {kvs : List (Key × V)} {t : Tab} (h : Tb H kvs t) (e : Ex H H') : Tb H' kvs t := Paired.mapP h fun _ _ ⟨h1, a, l, h2, h3, h4⟩ => ⟨h1, a, l, h2, e _ _ h3, e _ _ h4⟩
theorem key_dec (a b : Nat) : decide ((Sum.inl (a : Int) : Key) = Sum.inl (b : Int)) = decide (a = b) := by
  refine decide_eq_decide.mpr ⟨fun h => by have := Sum.inl.inj h; omega, fun h => by rw [h]⟩
theorem tb_val {H : Hp} {m : Nat} : ∀ {kvs : List (Key × V)} {t : Tab}, Tb H kvs t → (lookT t m = none → valV kvs (.inl (m : Int)) = none) ∧ ∀ v, lookT t m = some v → ∃ a l, valV kvs (.inl (m : Int)) = some (.ref a) ∧ H a = some (.tup [.int v.1, .ref l]) ∧ H l = some (.lst (nv v.2))
  | _, _, .nil => ⟨fun _ => rfl, fun v h => by cases h⟩
  | _, _, .cons (a := kv) (b := e) h r => by
    have ih := tb_val (m := m) r
    obtain ⟨h1, a, l, h2, h3, h4⟩ := h
    unfold lookT valV at ih ⊢
    rw [List.find?_cons, List.find?_cons, h1, key_dec]
    by_cases he : e.1 = m
    · rw [decide_eq_true he]
      refine ⟨fun z => (by cases z), fun v hv => ?_⟩
      obtain rfl : e.2 = v := Option.some.inj hv
      exact ⟨a, l, congrArg some h2, h3, h4⟩
    · rw [decide_eq_false he]
      exact ih
theorem tb_none {H : Hp} {m : Nat} {kvs : List (Key × V)} {t : Tab} (h : Tb H kvs t) (hv : lookT t m = none) : valV kvs (.inl (m : Int)) = none := (tb_val h).1 hv
theorem tb_map {H H' : Hp} {m : Nat} {v : Int × List Nat} {a l : Addr} (ha : H' a = some (.tup [.int v.1, .ref l])) (hl : H' l = some (.lst (nv v.2))) (e : Ex H H') : ∀ {kvs : List (Key × V)} {t : Tab}, Tb H kvs t →
    Tb H' (kvs.map fun kv => if kv.1 = .inl (m : Int) then (kv.1, .ref a) else kv) (t.map fun e => if e.1 = m then (e.1, v) else e)
  | _, _, .nil => .nil
  | _, _, .cons (a := kv) (b := x) h r => by
    refine .cons ?_ (tb_map ha hl e r)
    show Ent H' (if kv.1 = .inl (m : Int) then (kv.1, .ref a) else kv) (if x.1 = m then (x.1, v) else x)
    obtain ⟨h1, b, k, h2, h3, h4⟩ := h
    by_cases he : x.1 = m
    · rw [if_pos he, if_pos (by rw [h1, he])]
      exact ⟨h1, a, l, rfl, ha, hl⟩
    · rw [if_neg he, if_neg fun z => he (by rw [h1] at z; have := Sum.inl.inj z; omega)]
      exact ⟨h1, b, k, h2, e _ _ h3, e _ _ h4⟩
theorem paired_app {α β : Type} {F : α → β → Prop} {a : α} {b : β} (h : F a b) : ∀ {l₁ : List α} {l₂ : List β}, Paired F l₁ l₂ → Paired F (l₁ ++ [a]) (l₂ ++ [b])
  | _, _, .nil => .cons h .nil
  | _, _, .cons x r => .cons x (paired_app h r)
theorem tb_any {H : Hp} {m : Nat} : ∀ {kvs : List (Key × V)} {t : Tab}, Tb H kvs t → (kvs.any fun kv => decide (kv.1 = (.inl (m : Int)))) = t.any fun e => decide (e.1 = m)
  | _, _, .nil => rfl
  | _, _, .cons (a := kv) (b := x) h r => by
    rw [List.any_cons, List.any_cons, tb_any r, h.1, key_dec]
theorem tb_put {H H' : Hp} {m : Nat} {v : Int × List Nat} {a l : Addr} {kvs : List (Key × V)} {t : Tab} (h : Tb H kvs t) (ha : H' a = some (.tup [.int v.1, .ref l])) (hl : H' l = some (.lst (nv v.2))) (e : Ex H H') :
    Tb H' (putK kvs (.inl (m : Int)) (.ref a)) (putT t m v) := by
  unfold putK putT
  rw [tb_any h]
  split
  · exact tb_map ha hl e h
  · exact paired_app ⟨rfl, a, l, rfl, ha, hl⟩ (h.mono e)
theorem paired_at {α β : Type} {F : α → β → Prop} {a : α} {b : β} : ∀ {l₁ : List α} {l₂ : List β} {i : Nat}, Paired F l₁ l₂ → l₁[i]? = some a → l₂[i]? = some b → F a b
  | _, _, i, .nil, h, _ => by simp at h
  | _, _, 0, .cons x r, h1, h2 => by
    simp at h1 h2
    rw [← h1, ← h2]
    exact x
  | _, _, i + 1, .cons x r, h1, h2 => paired_at (i := i) r (by simpa using h1) (by simpa using h2)
section
variable {σ : L2.St} {H : Hp} {ty td : TE} {a : Addr} {m : Int} {kvs : List (Key × V)} {v : V}
theorem ev_dnin (hy : Ev ty σ H (.int m)) (hd : Ev td σ H (.ref a)) (h : H a = some (.dK kvs)) : Ev (tDNotIn ty td) σ H (.bl (!(valV kvs (.inl m)).isSome)) := fun H1 e1 Q q =>
  hy H1 e1 _ fun H2 e2 => hd H2 (e1.trans e2) _ fun H3 e3 => ⟨a, _, rfl, DGet.k (k := .inl m) (((e1.trans e2).trans e3) _ _ h), q H3 (e2.trans e3)⟩
theorem ev_dget (hd : Ev td σ H (.ref a)) (hy : Ev ty σ H (.int m)) (h : H a = some (.dK kvs)) (hv : valV kvs (.inl m) = some v) : Ev (tDGet td ty) σ H v := fun H1 e1 Q q =>
  hd H1 e1 _ fun H2 e2 => hy H2 (e1.trans e2) _ fun H3 e3 => by
    refine ⟨a, v, rfl, ?_, q H3 (e2.trans e3)⟩
    have := DGet.k (k := .inl m) (((e1.trans e2).trans e3) _ _ h)
    rw [hv] at this
    exact this
end
theorem shl_pow (k : Nat) : (1 : Int) * 2 ^ ((k : Int)).toNat = ((2 ^ k : Nat) : Int) := by
  rw [Int.toNat_natCast, Int.one_mul]
  simp
theorem and_bit (m k : Nat) : decide (V.int (Builtin.bitAnd (m : Int) ((2 ^ k : Nat) : Int)) = V.int 0) = !m.testBit k := by
  rw [bitAnd_pp (Int.natCast_nonneg _) (Int.natCast_nonneg _), Int.toNat_natCast, Int.toNat_natCast]
  cases h : m.testBit k with
  | false =>
    refine decide_eq_true ?_
    have : m &&& 2 ^ k = 0 := Nat.eq_of_testBit_eq fun j => by
      rw [Nat.testBit_and, Nat.testBit_two_pow, Nat.zero_testBit]
      by_cases e : k = j
      · subst e
        rw [h]
        rfl
      · simp [e]
    rw [this]
    rfl
  | true =>
    refine decide_eq_false fun z => ?_
    have z := V.int.inj z
    have : m &&& 2 ^ k = 0 := by omega
    have e : (m &&& 2 ^ k).testBit k = true := by
      rw [Nat.testBit_and, Nat.testBit_two_pow, h]
      simp
    rw [this, Nat.zero_testBit] at e
    cases e
theorem or_bit (m k : Nat) : Builtin.bitOr (m : Int) ((2 ^ k : Nat) : Int) = ((m ||| 2 ^ k : Nat) : Int) := by
  rw [Bits.bitOr_pp (Int.natCast_nonneg _) (Int.natCast_nonneg _), Int.toNat_natCast, Int.toNat_natCast]
/-- few entries, short ways -/
structure Small (t : Tab) : Prop where
  keys : (t.map (·.1)).Nodup
  lt : ∀ e ∈ t, e.1 < 2 ^ 9
  few : ∀ e ∈ t, e.2.2.length ≤ 20
theorem Small.len {t : Tab} (h : Small t) : t.length ≤ 512 := by
  have := nodup_len (n := 2 ^ 9) h.keys fun x hx => by
    obtain ⟨e, he, rfl⟩ := List.mem_map.mp hx
    exact h.lt e he
  rw [List.length_map] at this
  exact this
section
variable {K : PySem.W.Frag} {H : Hp} {d : Addr} {kvs : List (Key × V)}
theorem sq_mskD {a : Addr} {xs : List V} (hd : H d = some (.dK kvs)) (h : SqL K H a xs) : SqL K (msk H [d]) a xs := by
  rcases h with (h | ⟨o, h⟩) | h
  · exact sq_of (by rw [msk_at fun m => ne_of h hd (by intro z; cases z) (List.mem_singleton.mp m)]; exact h)
  · exact Or.inl (Or.inr ⟨o, by rw [msk_at fun m => ne_of h hd (by intro z; cases z) (List.mem_singleton.mp m)]; exact h⟩)
  · exact Or.inr h
theorem tb_mskD {kvs' : List (Key × V)} {t : Tab} (hd : H d = some (.dK kvs)) (h : Tb H kvs' t) : Tb (msk H [d]) kvs' t := Paired.mapP h fun _ _ ⟨h1, a, l, h2, h3, h4⟩ =>
  ⟨h1, a, l, h2, by rw [msk_at fun m => ne_of h3 hd (by intro z; cases z) (List.mem_singleton.mp m)]; exact h3, by rw [msk_at fun m => ne_of h4 hd (by intro z; cases z) (List.mem_singleton.mp m)]; exact h4⟩
end
theorem el_catV {σ : L2.St} {H : Hp} {ta tb : TE} {l : Addr} {xs ys : List V} (ha : Ev ta σ H (.ref l)) (hl : H l = some (.lst xs)) (hb : EvL tb σ H ys) (hz : xs.length + ys.length ≤ 100000) : EvL (tOp rCat ta tb) σ H (xs ++ ys) := fun H1 e Q q => ha H1 e _ fun H2 e2 => hb H2 (e.trans e2) _ fun p3 H3 hp3 e3 h3 =>
  ⟨l, p3, xs, ys, rfl, rfl, ((e.trans e2).trans e3) _ _ hl, h3, sz_of hz, fun r hr => q r _ (fresh_back (e2.trans e3) hr) ((e2.trans e3).trans (Ex.new hr)) upd_same⟩
theorem at_nats {ρ : List Nat} {k : Nat} (h : k < ρ.length) : atI (nv ρ) (k : Int) = some (.int ((ρ.getD k 0 : Nat) : Int)) := atI_nat (by
  rw [List.getElem?_map, List.getElem?_eq_getElem h]
  simp [List.getD_eq_getElem?_getD, h])
/-- rows[i][ρ[k]] -/
theorem ev_cell2 {K : PySem.W.Frag} {σ : L2.St} {H : Hp} {ta tb tc td : TE} {a b : Addr} {rows : List (List Int)} {ρ : List Nat} {i k : Nat} (hA : LL K H a rows) (hB : SqL K H b (nv ρ)) (hi : i < rows.length) (hk : k < ρ.length) (hx : ρ.getD k 0 < (rows.getD i []).length)
    (h1 : Ev ta σ H (.ref a)) (h2 : Ev tb σ H (.int (i : Int))) (h3 : Ev tc σ H (.ref b)) (h4 : Ev td σ H (.int (k : Int))) : Ev (tOp (rIxL K) (tOp (rIxL K) ta tb) (tOp (rIxL K) tc td)) σ H (.int (rAt rows i (ρ.getD k 0))) := by
  obtain ⟨q, hq, hs⟩ := ev_row (σ := σ) (ta := ta) (tb := tb) hA hi h1 h2
  exact ev_op hq (ev_op h3 h4 (rv_ixL hB (at_nats hk))) (rv_ixL hs (at_ints (i := ((ρ.getD k 0 : Nat) : Int)) (by omega) (by omega)))
theorem el_if {σ : L2.St} {H : Hp} {t : TT} {ta tb : TE} {b : Bool} {xs : List V} (h : EvT t σ H b) (h1 : b = true → EvL ta σ H xs) (h2 : b = false → EvL tb σ H xs) : EvL (tIf t ta tb) σ H xs := fun H1 e Q q => h H1 e _ fun H2 e2 => by
  cases b with
  | true => exact iteT (h1 rfl H2 (e.trans e2) _ fun p H3 hp e3 h3 => q p H3 (fresh_back e2 hp) (e2.trans e3) h3)
  | false => exact iteF (h2 rfl H2 (e.trans e2) _ fun p H3 hp e3 h3 => q p H3 (fresh_back e2 hp) (e2.trans e3) h3)
/-! ### the deal in rooms is one, and fair -/
theorem count_nodup {k : Nat} : ∀ {l : List Nat}, l.Nodup → k ∈ l → List.count (V.int (k : Int)) (l.map fun x : Nat => V.int (x : Int)) = 1
  | x :: l, nd, h => by
    obtain ⟨hx, nd⟩ := List.nodup_cons.mp nd
    rw [List.map_cons, List.count_cons]
    by_cases e : x = k
    · subst e
      have h0 : List.count (V.int (x : Int)) (l.map fun x : Nat => V.int (x : Int)) = 0 := List.count_eq_zero.mpr fun m => by
        obtain ⟨y, hy, e⟩ := List.mem_map.mp m
        have := V.int.inj e
        have : y = x := by omega
        exact hx (this ▸ hy)
      rw [h0, if_pos (beq_self_eq_true _)]
    · rw [if_neg fun z => e (by have := V.int.inj (eq_of_beq z); omega), count_nodup nd (by
        rcases List.mem_cons.mp h with h | h
        · exact absurd h.symm e
        · exact h)]
theorem heapsR_flat (rows : List (List Int)) (m : Nat) : (iv (heapsR rows m)).flatten = ((rmOf rows m).filter fun x => decide (x < m)).map fun x : Nat => V.int (x : Int) := by
  unfold heapsR
  generalize rmOf rows m = l
  induction l with
  | nil => rfl
  | cons x l ih =>
    show (((if x < m then [(x : Int)] else []).map V.int) :: _).flatten = _
    rw [List.flatten_cons, List.filter_cons]
    by_cases h : x < m
    · rw [if_pos h, if_pos (decide_eq_true h), List.map_cons]
      show V.int (x : Int) :: _ = V.int (x : Int) :: _
      exact congrArg _ ih
    · rw [if_neg h, if_neg (by rw [decide_eq_false h]; decide)]
      exact ih
theorem heapsR_len {rows : List (List Int)} {m : Nat} (ok : RmOk rows m) : (heapsR rows m).length = rows.length := by
  unfold heapsR
  rw [List.length_map, ok.way.len]
theorem payR_len (rows : List (List Int)) (m : Nat) : (payR rows m).length = rows.length := by
  unfold payR
  rw [List.length_map, paid_len]
theorem heapsR_one (rows : List (List Int)) (m : Nat) : ∀ h ∈ heapsR rows m, h.length ≤ 1 := fun h hh => by
  obtain ⟨x, _, rfl⟩ := List.mem_map.mp hh
  split
  · exact Nat.le_refl _
  · exact Nat.zero_le _
theorem heapsR_in (rows : List (List Int)) (m : Nat) : ∀ h ∈ heapsR rows m, Inside m h := fun h hh => by
  obtain ⟨x, _, rfl⟩ := List.mem_map.mp hh
  split
  · rename_i hx
    intro g hg
    rw [List.mem_singleton.mp hg]
    omega
  · intro g hg
    cases hg
theorem heapsR_few {rows : List (List Int)} {m : Nat} (ok : RmOk rows m) : (heapsR rows m).flatten.length ≤ rows.length := by
  have h := congrArg List.length (heapsR_flat rows m)
  rw [List.length_map, iv_flat, List.length_map] at h
  rw [h]
  have := List.length_filter_le (fun x => decide (x < m)) (rmOf rows m)
  rw [ok.way.len] at this
  exact this
theorem rooms_fit {rows : List (List Int)} {m : Nat} (hb : Bids rows m) (ok : RmOk rows m) : Fits rows m (heapsR rows m) (payR rows m) := ⟨heapsR_len ok, payR_len _ _, heapsR_in _ _, by have := heapsR_few ok; have := hb.l9; omega⟩
theorem rooms_ok {rows : List (List Int)} {m : Nat} (hm : m ≤ rows.length) (ok : RmOk rows m) : heapsB (iv (heapsR rows m)) rows.length m = true := by
  unfold heapsB
  rw [decide_eq_true (by rw [List.length_map, heapsR_len ok]), Bool.true_and, Bool.and_eq_true]
  constructor
  · refine List.all_eq_true.mpr fun y hy => ?_
    rw [iv_flat] at hy
    obtain ⟨g, hg, rfl⟩ := List.mem_map.mp hy
    obtain ⟨h, hh, hg⟩ := List.mem_flatten.mp hg
    exact decide_eq_true (heapsR_in rows m h hh g hg)
  · refine decide_eq_true (List.ext_getElem (by simp [seenM]) fun k h1 h2 => ?_)
    have hk : k < m := by simpa using h2
    simp only [seenM, List.getElem_map, List.getElem_range, List.getElem_replicate]
    rw [heapsR_flat, count_nodup (ok.way.nd.filter _) (List.mem_filter.mpr ⟨nodup_all ok.way.nd ok.way.lt ok.way.len (by omega), decide_eq_true hk⟩)]
    rfl
theorem payR_zero (rows : List (List Int)) (m : Nat) : (payR rows m).sum = 0 := by
  unfold payR
  rw [sum_pay, paid_len, Int.mul_comm]
  omega
theorem rooms_deal {rows : List (List Int)} {m : Nat} (hm : m ≤ rows.length) (ok : RmOk rows m) : dealB (iv (heapsR rows m)) (payR rows m) rows.length m = true := by
  unfold dealB
  rw [rooms_ok hm ok, payR_zero, payR_len, decide_eq_true rfl, decide_eq_true rfl]
  rfl
/-- what i would get of j's room -/
theorem worthR {rows : List (List Int)} {m i j : Nat} (hb : Bids rows m) (ok : RmOk rows m) (hi : i < rows.length) (hj : j < rows.length) : worthM (rows.getD i []) ((heapsR rows m).getD j []) = rAt (padM rows m) i ((rmOf rows m).getD j 0) := by
  have hj2 : j < (rmOf rows m).length := by rw [ok.way.len]; exact hj
  have e : (heapsR rows m).getD j [] = if (rmOf rows m).getD j 0 < m then [((rmOf rows m).getD j 0 : Int)] else [] := by
    simp [heapsR, List.getD_eq_getElem?_getD, hj2]
  rw [e, pad_at hb.len hi]
  split
  · show ([_] : List Int).sum = _
    simp [worthM]
  · rfl
theorem gainR {rows : List (List Int)} {m i j : Nat} (hb : Bids rows m) (ok : RmOk rows m) (hi : i < rows.length) (hj : j < rows.length) :
    gainM rows (heapsR rows m) (payR rows m) i j = (rAt (padM rows m) i ((rmOf rows m).getD j 0) - (paidM rows m).getD j 0) * rows.length + (paidM rows m).sum := by
  have hj2 : j < (paidM rows m).length := by rw [paid_len]; exact hj
  have e : (payR rows m).getD j 0 = (paidM rows m).getD j 0 * rows.length - (paidM rows m).sum := by
    simp [payR, List.getD_eq_getElem?_getD, hj2]
  unfold gainM
  rw [worthR hb ok hi hj, e, Int.sub_mul]
  omega
theorem paidR {rows : List (List Int)} {m i j : Nat} (ok : RmOk rows m) (hi : i < rows.length) (hj : j < rows.length) :
    rAt (padM rows m) i ((rmOf rows m).getD j 0) - (paidM rows m).getD j 0 ≤ rAt (padM rows m) i ((rmOf rows m).getD i 0) - (paidM rows m).getD i 0 := by
  have h : (paidM rows m).getD i 0 + (rAt (padM rows m) i ((rmOf rows m).getD j 0) - rAt (padM rows m) i ((rmOf rows m).getD i 0)) ≤ (paidM rows m).getD j 0 := prices_ok (r := rAt (padM rows m)) (way_inj ok.way) (opt_of ok.way ok.best) hi hj
  omega
theorem rooms_fair {rows : List (List Int)} {m : Nat} (hb : Bids rows m) (ok : RmOk rows m) : enviedB (gainM rows (heapsR rows m) (payR rows m)) rows.length = false := by
  refine enviedB_not fun i j hi hj => ?_
  rw [gainR hb ok hi hj, gainR hb ok hi hi]
  have := Int.mul_le_mul_of_nonneg_right (paidR ok hi hj) (show (0 : Int) ≤ rows.length by omega)
  omega
theorem tv_one {H : Hp} {a b : Addr} {r : List Int} (h : H a = some (.lst [V.ref b])) (h2 : H b = some (.lst (r.map V.int))) : TV H a (iv [r]) := by
  refine ⟨[b], h, rfl, fun i q y h3 h4 => ?_⟩
  cases i with
  | zero =>
    obtain rfl : b = q := Option.some.inj h3
    obtain rfl : r.map V.int = y := Option.some.inj h4
    exact h2
  | succ i => simp at h3
theorem g_c {σ : L2.St} {H : Hp} {v : V} {Q : VK} (h : Q v H) : tC v σ H Q := h
/-! ### a deal that is fair: nobody gains less than an equal part -/
theorem perm_sumR {l l' : List Int} (P : l.Perm l') : l.sum = l'.sum := by
  induction P with
  | nil => rfl
  | cons x _ ih => rw [List.sum_cons, List.sum_cons, ih]
  | swap x y l =>
    rw [List.sum_cons, List.sum_cons, List.sum_cons, List.sum_cons]
    omega
  | trans _ _ h1 h2 => rw [h1, h2]
theorem worth_flat (r : List Int) (hs : List (List Int)) : (hs.map (worthM r)).sum = worthM r hs.flatten := by
  induction hs with
  | nil => rfl
  | cons h t ih =>
    rw [List.map_cons, List.sum_cons, ih, List.flatten_cons]
    unfold worthM
    rw [List.map_append, List.sum_append]
theorem heaps_sum {r : List Int} {hs : List (List Int)} {n : Int} {m : Nat} (h : heapsB (iv hs) n m = true) (hl : r.length = m) : (hs.map (worthM r)).sum = r.sum := by
  unfold heapsB at h
  rw [Bool.and_eq_true, Bool.and_eq_true] at h
  obtain ⟨_, hin, hseen⟩ := h
  have hseen := of_decide_eq_true hseen
  have P : ((iv hs).flatten).Perm ((List.range m).map fun k : Nat => V.int (k : Int)) := by
    refine List.perm_iff_count.mpr fun x => ?_
    by_cases hx : ∃ k : Nat, k < m ∧ x = V.int (k : Int)
    · obtain ⟨k, hk, rfl⟩ := hx
      have h1 : (seenM (iv hs).flatten m)[k]? = some 1 := by
        rw [hseen, List.getElem?_replicate, if_pos hk]
      have h2 : (seenM (iv hs).flatten m)[k]? = some ((((iv hs).flatten.count (V.int (k : Int)) : Nat)) : Int) := by
        unfold seenM
        rw [List.getElem?_map, List.getElem?_range hk]
        rfl
      rw [h1] at h2
      have h3 := Option.some.inj h2
      rw [count_nodup List.nodup_range (List.mem_range.mpr hk)]
      omega
    · rw [List.count_eq_zero.mpr fun mm => ?_, List.count_eq_zero.mpr fun mm => ?_]
      · obtain ⟨k, hk, rfl⟩ := List.mem_map.mp mm
        exact hx ⟨k, List.mem_range.mp hk, rfl⟩
      · have := List.all_eq_true.mp hin x mm
        cases x with
        | int i =>
          have := of_decide_eq_true this
          exact hx ⟨i.toNat, by omega, by congr 1; omega⟩
        | _ => cases this
  have P2 := P.map fun x => r.getD (intOf x).toNat 0
  have e := perm_sumR P2
  rw [iv_flat, List.map_map, List.map_map] at e
  rw [worth_flat]
  have e1 : worthM r hs.flatten = (hs.flatten.map ((fun x => r.getD (intOf x).toNat 0) ∘ V.int)).sum := rfl
  rw [e1, e]
  have e2 : (List.range m).map ((fun x => r.getD (intOf x).toNat 0) ∘ fun k : Nat => V.int (k : Int)) = r := by
    refine List.ext_getElem (by simp [hl]) fun k h1 h2 => ?_
    rw [List.getElem_map, List.getElem_range]
    show r.getD ((k : Int)).toNat 0 = _
    rw [Int.toNat_natCast]
    simp [List.getD_eq_getElem?_getD, h2]
  rw [e2]
structure FairD (rows : List (List Int)) (m : Nat) (hs : List (List Int)) (ss : List Int) : Prop where
  fit : Fits rows m hs ss
  deal : dealB (iv hs) ss rows.length m = true
  fair : enviedB (gainM rows hs ss) rows.length = false
theorem FairD.le {rows : List (List Int)} {m : Nat} {hs : List (List Int)} {ss : List Int} (F : FairD rows m hs ss) {i j : Nat} (hi : i < rows.length) (hj : j < rows.length) : gainM rows hs ss i j ≤ gainM rows hs ss i i := by
  by_cases h : gainM rows hs ss i i < gainM rows hs ss i j
  · have := enviedB_of (g := gainM rows hs ss) hi hj h
    rw [F.fair] at this
    cases this
  · omega
theorem heaps_fairD {rows : List (List Int)} {m : Nat} (hb : Bids rows m) : FairD rows m (heapsM rows m) (payM rows (heapsM rows m)) := ⟨heaps_fit hb, heaps_deal hb.ne, heaps_fair⟩
theorem rooms_fairD {rows : List (List Int)} {m : Nat} (hb : Bids rows m) (hm : m ≤ rows.length) : FairD rows m (heapsR rows m) (payR rows m) := ⟨rooms_fit hb (rm_ok hb.len hm), rooms_deal hm (rm_ok hb.len hm), rooms_fair hb (rm_ok hb.len hm)⟩
theorem FairD.part {rows : List (List Int)} {m : Nat} {hs : List (List Int)} {ss : List Int} (hb : Bids rows m) (F : FairD rows m hs ss) {i : Nat} (hi : i < rows.length) : (rows.getD i []).sum ≤ gainM rows hs ss i i := by
  have hd := F.deal
  unfold dealB at hd
  rw [Bool.and_eq_true, Bool.and_eq_true] at hd
  have hz := of_decide_eq_true hd.2.2
  have hs1 := heaps_sum (r := rows.getD i []) hd.1 (hb.at_ hi)
  have hl := F.fit.hl
  have sl := F.fit.sl
  have h1 : sumN rows.length (fun j => gainM rows hs ss i j) ≤ sumN rows.length fun _ => gainM rows hs ss i i := sumN_le fun j hj => F.le hi hj
  rw [sumN_const] at h1
  have h2 : sumN rows.length (fun j => gainM rows hs ss i j) = (rows.getD i []).sum * rows.length - 0 := by
    unfold gainM
    rw [sumN_sub (f := fun j => worthM (rows.getD i []) (hs.getD j []) * rows.length) (g := fun j => ss.getD j 0), sumN_mul]
    have e1 : sumN rows.length (fun j => ss.getD j 0) = 0 := by rw [← sl, ← sumN_list, hz]
    have e2 : sumN rows.length (fun j => worthM (rows.getD i []) (hs.getD j [])) = (rows.getD i []).sum := by
      rw [← hs1, sumN_list, List.length_map, hl]
      refine sumN_congr fun j hj => ?_
      have hj2 : j < hs.length := by omega
      simp [List.getD_eq_getElem?_getD, hj2]
    rw [e1, e2]
  rw [h2, Int.sub_zero, Int.mul_comm] at h1
  exact Int.le_of_mul_le_mul_left h1 (by have := hb.ne; omega)
theorem FairD.same {rows : List (List Int)} {m : Nat} {hs : List (List Int)} {ss : List Int} (F : FairD rows m hs ss) {i j : Nat} (hi : i < rows.length) (hj : j < rows.length) (e : rows.getD i [] = rows.getD j []) : gainM rows hs ss i i = gainM rows hs ss j j := by
  have h1 := F.le hi hj
  have h2 := F.le hj hi
  have e1 : gainM rows hs ss i j = gainM rows hs ss j j := by unfold gainM; rw [e]
  have e2 : gainM rows hs ss j i = gainM rows hs ss i i := by unfold gainM; rw [e]
  omega
/-- xs[j] = a new list -/
theorem s_setLL {σ : L2.St} {H : Hp} {te ta tb : TE} {D : Ends} {l : Addr} {xs ys : List V} {j : Nat} (hl : H l = some (.lst xs)) (h : EvL te σ H ys) (ho : Ev ta σ H (.ref l)) (hi : Ev tb σ H (.int (j : Int))) (hj : j < xs.length) (k : ∀ q H1, H q = none → Ex H H1 → H1 q = some (.lst ys) → D.nx σ (upd H1 l (.lst (xs.set j (.ref q))))) :
    tAsg te (gSub ta tb rSetL) D σ H := h H (Ex.refl H) _ fun q H1 hq e1 h1 => ho H1 e1 _ fun H2 e2 => hi H2 (e1.trans e2) _ fun H3 e3 =>
  ⟨l, xs, (j : Int), j, rfl, rfl, ((e1.trans e2).trans e3) l _ hl, ixN_nat hj, k q H3 hq ((e1.trans e2).trans e3) ((e2.trans e3) _ _ h1)⟩
end Rx

namespace Fk12
open PySem PySem.Spec PyProof.Rows L2 Evl Fs Rm Rx
def topS (i : Nat) : Stmt := PySem.Challenge.pw_fairsplit_k12_whole_nobody_below.main.body.getD i (.Pass ⟨0, 0, 0, 0⟩)
/-! ### _law_cell -/
abbrev s__law_cell : Stmt := topS 28
theorem sc__law_cell : FnScope ["_law_script", "_law_k"] ["_law_script", "_law_k"] (defScope s__law_cell) := ⟨rfl, rfl, rfl, by decide +kernel, rfl, by decide +kernel, by decide +kernel⟩
/-- a cell of the script -/
def cellM (ns : List Int) (k : Int) : Int :=
  if k < ns.length then ns.getD k.toNat 0 else if ns.length = 0 then k * 7919 else (ns.getD (k * 7 % ns.length).toNat 0 * 48271 + k * 7919) % 2147483647
def sp__law_cell (K : PySem.W.Frag) : Sp := sp2 fun x y H Q => ∃ (a : Addr) (ns : List Int) (k : Int), x = .ref a ∧ y = .int k ∧ SqL K H a (ns.map V.int) ∧ 0 ≤ k ∧ Q (.int (cellM ns k)) H
theorem ev_cell {K : PySem.W.Frag} {σ : L2.St} {H : Hp} {a : Addr} {ns : List Int} {tk : TE} {k : Int} (h0 : σ[0]? = some (some (.ref a))) (hS : SqL K H a (ns.map V.int)) (hk : Ev tk σ H (.int k)) (k0 : 0 ≤ k) :
    Ev (tCall (sp__law_cell K) [] E0 (tCons (tVar 0) (tCons tk tNil))) σ H (.int (cellM ns k)) :=
  ev_call (ea_cons (ev_var h0) (ea_cons hk ea_nil)) fun H1 e Q q E => ⟨_, _, rfl, a, ns, k, rfl, rfl, ex_l e hS, k0, q H1 (Ex.refl H1)⟩
section
variable {P : Program} {w : World} {K : PySem.W.Frag} {mg : Str → Option Value} {base : Heap}
theorem ok__law_cell (D : DnX K mg "_law_cell" s__law_cell ["_law_script", "_law_k"]) (B : Bt mg) : Ok P w K mg base CX0 1 "_law_cell" ["_law_script", "_law_k"] (sp__law_cell K) := by
  refine ok_of D sc__law_cell (fun vs H Q E h => by obtain ⟨_, _, rfl, _⟩ := h; rfl) (fun f cdv A outer s H vs Q E hr h => ⟨_, (pss_cons (ps_if (pt_cmpR op_lt (pv 1) (pe_callB (lenK (K := K)) (by rfl) B.len PySem.boot_len (pa_cons (pv 0) pa_nil)) (nomark _))
        (pss_one (ps_ret (pe_ix (ixL (K := K)) (pv 0) (pv 1) (fun _ _ => rfl))))
        pss_nil)
      (pss_cons (ps_if (pt_cmpR op_eq (pe_callB (lenK (K := K)) (by rfl) B.len PySem.boot_len (pa_cons (pv 0) pa_nil)) pe_int (nomark _))
        (pss_one (ps_ret (pe_op op_mul (pv 1) pe_int)))
        pss_nil)
      (pss_one (ps_ret (pe_op op_mod (pe_op op_add (pe_op op_mul (pe_ix (ixL (K := K)) (pv 0) (pe_op op_mod (pe_op op_mul (pv 1) pe_int) (pe_callB (lenK (K := K)) (by rfl) B.len PySem.boot_len (pa_cons (pv 0) pa_nil))) (fun _ _ => rfl)) pe_int) (pe_op op_mul (pv 1) pe_int)) pe_int))))), ?_⟩)
  obtain ⟨x, y, rfl, a, ns, k, rfl, rfl, hS, h0, q⟩ := h
  have el : ((ns.map V.int).length : Int) = ns.length := by rw [List.length_map]
  refine ⟨_, rfl, _, rfl, a, _, rfl, .inl hS, _, _, rfl, rfl, _, rfl, ite2 (fun h => ?_) (fun h => ?_)⟩
  · have h1 : k < ns.length := by
      have := of_decide_eq_true h
      omega
    refine ⟨_, rfl, _, rfl, a, _, _, _, rfl, rfl, hS, at_ints h0 h1, ?_⟩
    rw [cellM, if_pos h1] at q
    exact q
  · have h1 : ¬ k < ns.length := fun z => h (decide_eq_true (by omega))
    refine ⟨_, rfl, a, _, rfl, .inl hS, rfl, _, rfl, ite2 (fun h => ?_) (fun h => ?_)⟩
    · have h2 : ns.length = 0 := by
        have := V.int.inj (of_decide_eq_true h)
        omega
      refine ⟨_, rfl, _, _, rfl, rfl, mulR ⟨by decide, by decide⟩, ?_⟩
      rw [cellM, if_neg h1, if_pos h2] at q
      exact q
    · have h2 : ns.length ≠ 0 := fun z => h (decide_eq_true (by rw [el, z]; rfl))
      have hp : (0 : Int) < ns.length := by omega
      have g0 : 0 ≤ k * 7 % (ns.length : Int) := Int.emod_nonneg _ (by omega)
      have g1 : k * 7 % (ns.length : Int) < ns.length := Int.emod_lt_of_pos _ hp
      refine ⟨_, rfl, _, rfl, _, _, rfl, rfl, mulR ⟨by decide, by decide⟩, _, rfl, a, _, rfl, .inl hS, _, _, rfl, rfl, (by show (0 : Int) < ((ns.map V.int).length : Int); omega), a, _, _, _, rfl, rfl, hS, (by rw [el]; exact at_ints g0 g1), ?_⟩
      refine ⟨_, _, rfl, rfl, mulR ⟨by decide, by decide⟩, _, rfl, _, _, rfl, rfl, mulR ⟨by decide, by decide⟩, _, _, rfl, rfl, _, _, rfl, rfl, (by show (0 : Int) < 2147483647; decide), ?_⟩
      rw [cellM, if_neg h1, if_neg h2] at q
      exact q
end
/-! ### _law_people -/
abbrev s__law_people : Stmt := topS 36
theorem sc__law_people : FnScope ["_law_script", "_law_people_here"] ["_law_script"] (defScope s__law_people) := ⟨rfl, rfl, rfl, by decide +kernel, rfl, by decide +kernel, by decide +kernel⟩
def sp__law_people (K : PySem.W.Frag) : Sp := sp1 fun x H Q => ∃ (a : Addr) (ns : List Int), x = .ref a ∧ SqL K H a (ns.map V.int) ∧ ∀ (pn : Nat) H2, 1 ≤ pn → pn ≤ 9 → Ex H H2 → Q (.int (pn : Int)) H2
section
variable {P : Program} {w : World} {K : PySem.W.Frag} {mg : Str → Option Value} {base : Heap}
theorem ok__law_people (D : DnX K mg "_law_people" s__law_people ["_law_script"]) (B : Bt mg) (h__law_cell : Ok P w K mg base CX0 1 "_law_cell" ["_law_script", "_law_k"] (sp__law_cell K)) : Ok P w K mg base CX0 2 "_law_people" ["_law_script"] (sp__law_people K) := by
  refine ok_of D sc__law_people (fun vs H Q E h => by obtain ⟨_, rfl, _⟩ := h; rfl) (fun f cdv A outer s H vs Q E hr h => ⟨_, (pss_cons (ps_set (i := 1) sc__law_people.nd rfl (Or.inl rfl) (pe_op op_add pe_int (pe_op op_mod (pe_ok h__law_cell hr (by rfl) pass0 (pa_cons (pv 0) (pa_cons pe_int pa_nil))) pe_int)))
      (pss_cut (ps_if (pt_cmpR op_eq (pe_op op_mod (pe_op op_fdiv (pe_ok h__law_cell hr (by rfl) pass0 (pa_cons (pv 0) (pa_cons pe_int pa_nil))) pe_int) pe_int) pe_int (nomark _))
        (pss_one (ps_set (i := 1) sc__law_people.nd rfl (Or.inl rfl) (pe_op op_add pe_int (pe_op op_mod (pe_op op_fdiv (pe_ok h__law_cell hr (by rfl) pass0 (pa_cons (pv 0) (pa_cons pe_int pa_nil))) pe_int) pe_int))))
        pss_nil)
      (pss_one (ps_ret (pv 1))))), ?_⟩)
  obtain ⟨x, rfl, a, ns, rfl, hS, q⟩ := h
  obtain ⟨n5, h5, h5l⟩ := mod_range (cellM ns 0) (m := 5) (by decide)
  obtain ⟨n9, h9, h9l⟩ := mod_range (cellM ns 0 / 20) (m := 9) (by decide)
  refine q_asg (v := .int ((n5 + 1 : Nat) : Int)) (ev_is (ev_op ev_c (ev_op (ev_cell rfl hS ev_c (by decide)) ev_c (rv_I (by show (0 : Int) < 5; decide))) rv_I0) (by rw [h5]; congr 1; omega)) fun H1 e1 => ?_
  refine q_cut (M := fun σ H' => ∃ pn : Nat, 1 ≤ pn ∧ pn ≤ 9 ∧ Ex H H' ∧ σ = [some (.ref a), some (.int (pn : Int))]) ?_ ?_
  · refine s_when (et_test (ev_op (ev_op (ev_op (ev_cell rfl (ex_l e1 hS) ev_c (by decide)) ev_c (rv_I ⟨by decide, by decide⟩)) ev_c (rv_I (by show (0 : Int) < 4; decide))) ev_c (rv_eq rfl))) (fun _ H3 e3 => ?_) (fun _ H3 e3 => ⟨n5 + 1, by omega, by omega, e1.trans e3, rfl⟩)
    refine s_asg (v := .int ((n9 + 1 : Nat) : Int)) (ev_is (ev_op ev_c (ev_op (ev_op (ev_cell rfl (ex_l (e1.trans e3) hS) ev_c (by decide)) ev_c (rv_I ⟨by decide, by decide⟩)) ev_c (rv_I (by show (0 : Int) < 9; decide))) rv_I0) (by rw [h9]; congr 1; omega)) fun H4 e4 => ⟨n9 + 1, by omega, by omega, (e1.trans e3).trans e4, rfl⟩
  rintro σ H3 ⟨pn, p1, p9, e3, rfl⟩
  exact s_ret (ev_var rfl) fun H4 e4 => q pn H4 p1 p9 (e3.trans e4)
end
/-! ### _law_bid -/
abbrev s__law_bid : Stmt := topS 30
theorem sc__law_bid : FnScope ["_law_cell_here", "_law_kind"] ["_law_cell_here", "_law_kind"] (defScope s__law_bid) := ⟨rfl, rfl, rfl, by decide +kernel, rfl, by decide +kernel, by decide +kernel⟩
def bidM (c k : Int) : Int := if k = 0 then c % 3 else if k = 1 then c % 100 else if k = 2 then c % 1000000000001 else 1000000000000 - c % 3 * (c / 3 % 2 * 499999999999 + 1)
theorem bidM_nn (c k : Int) : 0 ≤ bidM c k ∧ bidM c k ≤ 1000000000000 := by
  unfold bidM
  have h3 : c % 3 = 0 ∨ c % 3 = 1 ∨ c % 3 = 2 := by omega
  split
  · omega
  · split
    · omega
    · split
      · omega
      · rcases h3 with h | h | h <;> rw [h] <;> omega
def sp__law_bid (K : PySem.W.Frag) : Sp := sp2 fun x y H Q => ∃ (c k : Int), x = .int c ∧ y = .int k ∧ Q (.int (bidM c k)) H
section
variable {P : Program} {w : World} {K : PySem.W.Frag} {mg : Str → Option Value} {base : Heap}
theorem ok__law_bid (D : DnX K mg "_law_bid" s__law_bid ["_law_cell_here", "_law_kind"]) (B : Bt mg) : Ok P w K mg base CX0 1 "_law_bid" ["_law_cell_here", "_law_kind"] (sp__law_bid K) := by
  refine ok_of D sc__law_bid (fun vs H Q E h => by obtain ⟨_, _, rfl, _⟩ := h; rfl) (fun f cdv A outer s H vs Q E hr h => ⟨_, (pss_cons (ps_if (pt_cmpR op_eq (pv 1) pe_int (nomark _))
        (pss_one (ps_ret (pe_op op_mod (pv 0) pe_int)))
        pss_nil)
      (pss_cons (ps_if (pt_cmpR op_eq (pv 1) pe_int (nomark _))
        (pss_one (ps_ret (pe_op op_mod (pv 0) pe_int)))
        pss_nil)
      (pss_cons (ps_if (pt_cmpR op_eq (pv 1) pe_int (nomark _))
        (pss_one (ps_ret (pe_op op_mod (pv 0) pe_int)))
        pss_nil)
      (pss_one (ps_ret (pe_op op_sub pe_int (pe_op op_mul (pe_op op_mod (pv 0) pe_int) (pe_op op_add (pe_op op_mul (pe_op op_mod (pe_op op_fdiv (pv 0) pe_int) pe_int) pe_int) pe_int)))))))), ?_⟩)
  obtain ⟨x, y, rfl, c, k, rfl, rfl, q⟩ := h
  refine ⟨_, rfl, rfl, _, rfl, ite2 (fun h => ?_) (fun h => ?_)⟩
  · have h1 : k = 0 := V.int.inj (of_decide_eq_true h)
    refine ⟨_, rfl, _, _, rfl, rfl, (by show (0 : Int) < 3; decide), ?_⟩
    rw [bidM, if_pos h1] at q
    exact q
  · have h1 : ¬ k = 0 := fun z => h (decide_eq_true (by rw [z]))
    refine ⟨_, rfl, rfl, _, rfl, ite2 (fun h => ?_) (fun h => ?_)⟩
    · have h2 : k = 1 := V.int.inj (of_decide_eq_true h)
      refine ⟨_, rfl, _, _, rfl, rfl, (by show (0 : Int) < 100; decide), ?_⟩
      rw [bidM, if_neg h1, if_pos h2] at q
      exact q
    · have h2 : ¬ k = 1 := fun z => h (decide_eq_true (by rw [z]))
      refine ⟨_, rfl, rfl, _, rfl, ite2 (fun h => ?_) (fun h => ?_)⟩
      · have h3 : k = 2 := V.int.inj (of_decide_eq_true h)
        refine ⟨_, rfl, _, _, rfl, rfl, (by show (0 : Int) < 1000000000001; decide), ?_⟩
        rw [bidM, if_neg h1, if_neg h2, if_pos h3] at q
        exact q
      · have h3 : ¬ k = 2 := fun z => h (decide_eq_true (by rw [z]))
        have b3 : -(2 ^ 64) < c % 3 ∧ c % 3 < 2 ^ 64 := by omega
        refine ⟨_, rfl, _, _, rfl, rfl, (by show (0 : Int) < 3; decide), _, rfl, _, _, rfl, rfl, ⟨by decide, by decide⟩, _, _, rfl, rfl, (by show (0 : Int) < 2; decide), _, _, rfl, rfl, mulR ⟨by decide, by decide⟩, _, _, rfl, rfl, _, _, rfl, rfl, mulL b3, _, _, rfl, rfl, ?_⟩
        rw [bidM, if_neg h1, if_neg h2, if_neg h3] at q
        exact q
end
/-! ### _law_bids -/
abbrev s__law_bids : Stmt := topS 31
theorem sc__law_bids : FnScope ["_law_script", "_law_first", "_law_people_here", "_law_goods", "_law_kind", "_law_bids_here", "_law_i", "_law_j"] ["_law_script", "_law_first", "_law_people_here", "_law_goods", "_law_kind"] (defScope s__law_bids) := ⟨rfl, rfl, rfl, by decide +kernel, rfl, by decide +kernel, by decide +kernel⟩
def rowM (ns : List Int) (first goods kind i : Int) (g : Nat) : List Int := (List.range g).map fun j : Nat => bidM (cellM ns (first + goods * i + j)) kind
def bidsM (ns : List Int) (first : Int) (n g : Nat) (kind : Int) : List (List Int) := (List.range n).map fun i : Nat => rowM ns first g kind i g
theorem bidsM_len (ns : List Int) (first : Int) (n g : Nat) (kind : Int) : (bidsM ns first n g kind).length = n := by simp [bidsM]
theorem bidsM_ok (ns : List Int) (first : Int) (n g : Nat) (kind : Int) (h1 : 0 < n) (h9 : n ≤ 9) (h40 : g ≤ 40) : Bids (bidsM ns first n g kind) g := by
  refine ⟨by rw [bidsM_len]; exact h1, by rw [bidsM_len]; exact h9, h40, fun r hr => ?_, fun r hr b hb => ?_⟩
  · obtain ⟨i, _, rfl⟩ := List.mem_map.mp hr
    simp [rowM]
  · obtain ⟨i, _, rfl⟩ := List.mem_map.mp hr
    obtain ⟨j, _, rfl⟩ := List.mem_map.mp hb
    exact bidM_nn _ _
def sp__law_bids (K : PySem.W.Frag) : Sp := sp5 fun x y z u v H Q => ∃ (a : Addr) (ns : List Int) (first : Int) (n g : Nat) (kind : Int), x = .ref a ∧ y = .int first ∧ z = .int n ∧ u = .int g ∧ v = .int kind ∧ SqL K H a (ns.map V.int) ∧ 0 ≤ first ∧ n ≤ 1000 ∧ g ≤ 1000 ∧
  ∀ p ps H2, LNew H H2 p ps (iv (bidsM ns first n g kind)) → Ex H H2 → Q (.ref p) H2
section
variable {P : Program} {w : World} {K : PySem.W.Frag} {mg : Str → Option Value} {base : Heap}
theorem ok__law_bids (D : DnX K mg "_law_bids" s__law_bids ["_law_script", "_law_first", "_law_people_here", "_law_goods", "_law_kind"]) (B : Bt mg) (h__law_bid : Ok P w K mg base CX0 1 "_law_bid" ["_law_cell_here", "_law_kind"] (sp__law_bid K)) (h__law_cell : Ok P w K mg base CX0 1 "_law_cell" ["_law_script", "_law_k"] (sp__law_cell K)) : Ok P w K mg base CX0 2 "_law_bids" ["_law_script", "_law_first", "_law_people_here", "_law_goods", "_law_kind"] (sp__law_bids K) := by
  refine ok_of D sc__law_bids (fun vs H Q E h => by obtain ⟨_, _, _, _, _, rfl, _⟩ := h; rfl) (fun f cdv A outer s H vs Q E hr h => ⟨_, (pss_cons (ps_set (i := 5) sc__law_bids.nd rfl (Or.inl rfl) (pe_lst pa_nil))
      (pss_cons (ps_for PassesOwn.never rfl (pi_range1 (by rfl) B.range (pa_cons (pv 2) pa_nil)) (pg_name (i := 6) sc__law_bids.nd rfl (Or.inr rfl))
        (pss_one (ps_expr (pe_bm PySem.F.plainAttrs_list PySem.F.slot_list_append PySem.F.type_list_append mt_append (pv 5) (pa_cons (pe_lc (own := [("_law_j", 7)]) rfl sc__law_bids.nd  (pi_range1 (by rfl) B.range (pa_cons (pv 3) pa_nil)) (blkOk_by (own := [("_law_j", 7)]) (N := ["_law_script", "_law_first", "_law_people_here", "_law_goods", "_law_kind", "_law_bids_here", "_law_i", "_law_j"]) (sc := (defScope s__law_bids)) (by decide +kernel)) (fun _ _ _ _ _ => (pg_name (i := 7) sc__law_bids.nd rfl (Or.inl rfl))) (fun _ _ _ _ _ => pts_nil) (fun _ _ _ _ _ => (pe_ok h__law_bid hr (by rfl) pass0 (pa_cons (pe_ok h__law_cell hr (by rfl) pass0 (pa_cons (pv 0) (pa_cons (pe_op op_add (pe_op op_add (pv 1) (pe_op op_mul (pv 3) (pv 6))) (pv 7)) pa_nil))) (pa_cons (pv 4) pa_nil))))) pa_nil)))))
      (pss_one (ps_ret (pv 5))))), ?_⟩)
  obtain ⟨x, y, z, u, v, rfl, a, ns, first, n, g, kind, rfl, rfl, rfl, rfl, rfl, hA, h0, hn, hg, q⟩ := h
  refine q_asgL (el_lst ea_nil (by decide)) fun l H1 hl e1 h1 => ?_
  refine q_forR1 (n := n) (ea_cons (ev_var rfl) ea_nil) ⟨by omega, by omega⟩ (fun i σ H' => ∃ (w6 : Option V) (ps : List Addr), σ = [some (.ref a), some (.int first), some (.int n), some (.int g), some (.int kind), some (.ref l), w6, none] ∧ Ex H H' ∧ LNew H H' l ps (iv (bidsM ns first i g kind))) (fun H2 e2 => ⟨none, [], rfl, e1.trans e2, hl, e2 _ _ h1, rfl, by simp, fun i q y h => by simp at h⟩) ?_ ?_
  · rintro i σ' H' hi ⟨w6, ps, rfl, e, L⟩
    have hA' := ex_l e hA
    refine s_appL (ys := (rowM ns first g kind i g).map V.int) L.top (ev_var rfl) ?_ ?_ fun p H2 hp e2 h2 => ?_
    · have hrow := el_rngA (σ := [some (.ref a), some (.int first), some (.int n), some (.int g), some (.int kind), some (.ref l), some (.int (i : Int)), none]) (H := H') (te := tCall (sp__law_bid K) [] E0 (tCons (tCall (sp__law_cell K) [] E0 (tCons (tVar 0) (tCons (tOp (rI0 fun i j => .int (i + j)) (tOp (rI0 fun i j => .int (i + j)) (tVar 1) (tOp (rI CMul fun i j => .int (i * j)) (tVar 3) (tVar 6))) (tVar 7)) tNil))) (tCons (tVar 4) tNil))) (ta := tCons (tVar 3) tNil) (j := 7) (vs := [7]) (n := g) (fun j => .int (bidM (cellM ns (first + g * i + j)) kind)) (ea_cons (ev_var rfl) ea_nil) (by omega) (fun _ => rfl) (fun j H3 e3 hj => ?_)
      · have er : (rowM ns first g kind i g).map V.int = (List.range g).map fun j : Nat => V.int (bidM (cellM ns (first + g * i + j)) kind) := by
          unfold rowM
          rw [List.map_map]
          rfl
        rw [er]
        exact hrow
      · have hk : 0 ≤ first + (g : Int) * i + j := by
          have : 0 ≤ (g : Int) * i := Int.mul_nonneg (by omega) (by omega)
          omega
        exact ev_call (ea_cons (ev_call (ea_cons (ev_var rfl) (ea_cons (ev_op (ev_op (ev_var rfl) (ev_op (ev_var rfl) (ev_var rfl) (rv_I (mulL ⟨by omega, by omega⟩))) rv_I0) (ev_var rfl) rv_I0) ea_nil)) fun H4 e4 Q q E => ⟨_, _, rfl, a, ns, _, rfl, rfl, ex_l (e3.trans e4) hA', hk, q H4 (Ex.refl H4)⟩) (ea_cons (ev_var rfl) ea_nil)) fun H4 e4 Q q E => ⟨_, _, rfl, _, _, rfl, rfl, q H4 (Ex.refl H4)⟩
    · have := L.len
      rw [List.length_map, bidsM_len] at this
      rw [List.length_map]
      omega
    · refine ⟨some (.int i), ps ++ [p], rfl, Ex.mut (e.trans e2) hl, ?_⟩
      have eb : bidsM ns first (i + 1) g kind = bidsM ns first i g kind ++ [rowM ns first g kind i g] := by
        unfold bidsM
        rw [List.range_succ, List.map_append]
        rfl
      rw [eb]
      show LNew H _ l (ps ++ [p]) (List.map _ (_ ++ _))
      rw [List.map_append]
      exact L.push e e2 hp h2
  · rintro σ' H' ⟨w6, ps, rfl, e, L⟩
    exact s_ret (ev_var rfl) fun H2 e2 => q l ps H2 (by have := L.ext e2; simpa using this) (e.trans e2)
end
/-! ### is_number -/
abbrev s_is_number : Stmt := topS 10
theorem sc_is_number : FnScope ["thing"] ["thing"] (defScope s_is_number) := ⟨rfl, rfl, rfl, by decide +kernel, rfl, by decide +kernel, by decide +kernel⟩
def sp_is_number (K : PySem.W.Frag) : Sp := spWhole
section
variable {P : Program} {w : World} {K : PySem.W.Frag} {mg : Str → Option Value} {base : Heap}
theorem ok_is_number (D : DnX K mg "is_number" s_is_number ["thing"]) (B : Bt mg) : Ok P w K mg base CX0 1 "is_number" ["thing"] (sp_is_number K) := by
  refine ok_of D sc_is_number (fun vs H Q E h => by obtain ⟨_, rfl, _⟩ := h; rfl) (fun f cdv A outer s H vs Q E hr h => ⟨_, (pss_one (ps_ret (pe_and (pe_callB (isiK (K := K)) (by rfl) B.isinstance (by decide +kernel) (pa_cons (pv 0) (pa_cons (pe_bltn (v := .ty "int") (by rfl) B.int (by decide +kernel) rfl) pa_nil))) (pe_one (pe_not (pe_callB (isiK (K := K)) (by rfl) B.isinstance (by decide +kernel) (pa_cons (pv 0) (pa_cons (pe_bltn (v := .ty "bool") (by rfl) B.bool (by decide +kernel) rfl) pa_nil)))))))), ?_⟩)
  obtain ⟨x, rfl, ha, q⟩ := h
  exact rd_whole ha q fun Q q => ⟨x, rfl, q⟩
end
/-! ### is_bid -/
abbrev s_is_bid : Stmt := topS 11
theorem sc_is_bid : FnScope ["thing"] ["thing"] (defScope s_is_bid) := ⟨rfl, rfl, rfl, by decide +kernel, rfl, by decide +kernel, by decide +kernel⟩
def sp_is_bid (K : PySem.W.Frag) : Sp := sp1 fun x H Q => Any H x ∧ Q (.bl (bidOk x)) H
section
variable {P : Program} {w : World} {K : PySem.W.Frag} {mg : Str → Option Value} {base : Heap}
theorem ok_is_bid (D : DnX K mg "is_bid" s_is_bid ["thing"]) (B : Bt mg) (c_GREATEST_BID : KInt mg "GREATEST_BID" 1000000000000) (h_is_number : Ok P w K mg base CX0 1 "is_number" ["thing"] (sp_is_number K)) : Ok P w K mg base CX0 2 "is_bid" ["thing"] (sp_is_bid K) := by
  refine ok_of D sc_is_bid (fun vs H Q E h => by obtain ⟨_, rfl, _⟩ := h; rfl) (fun f cdv A outer s H vs Q E hr h => ⟨_, (pss_one (ps_ret (pe_and (pe_ok h_is_number hr (by rfl) pass0 (pa_cons (pv 0) pa_nil)) (pe_one (pe_chain op_le op_le pe_int (pv 0) (pe_const (by rfl) c_GREATEST_BID)))))), ?_⟩)
  obtain ⟨x, rfl, ha, q⟩ := h
  refine ⟨x, rfl, x, rfl, ha, isInt x, rfl, ?_⟩
  cases x with
  | int i =>
    refine iteT ⟨_, rfl, _, _, rfl, rfl, _, rfl, ?_⟩
    by_cases h0 : 0 ≤ i
    · rw [decide_eq_true h0]
      refine iteT ⟨_, _, rfl, rfl, ?_⟩
      have e : bidOk (.int i) = decide (i ≤ 1000000000000) := by simp [bidOk, h0]
      rw [e] at q
      exact q
    · rw [decide_eq_false h0]
      refine iteF ?_
      have e : bidOk (.int i) = false := by simp [bidOk, h0]
      rw [e] at q
      exact q
  | _ => exact q
end
/-! ### check_line -/
abbrev s_check_line : Stmt := topS 13
theorem sc_check_line : FnScope ["line", "many", "bid"] ["line", "many"] (defScope s_check_line) := ⟨rfl, rfl, rfl, by decide +kernel, rfl, by decide +kernel, by decide +kernel⟩
/-- a line of so many good bids -/
def LineOk (row : List Int) (m : Int) : Prop := (row.length : Int) = m ∧ ∀ b ∈ row, 0 ≤ b ∧ b ≤ 1000000000000
def sp_check_line (K : PySem.W.Frag) : Sp := sp2 fun x y H Q => ∃ (a : Addr) (row : List Int) (m : Int), x = .ref a ∧ y = .int m ∧ SqL K H a (row.map V.int) ∧ LineOk row m ∧ RetV .non H Q
section
variable {P : Program} {w : World} {K : PySem.W.Frag} {mg : Str → Option Value} {base : Heap}
theorem ok_check_line (D : DnX K mg "check_line" s_check_line ["line", "many"]) (B : Bt mg) (h_is_bid : Ok P w K mg base CX0 2 "is_bid" ["thing"] (sp_is_bid K)) : Ok P w K mg base CX0 3 "check_line" ["line", "many"] (sp_check_line K) := by
  refine ok_of D sc_check_line (fun vs H Q E h => by obtain ⟨_, _, rfl, _⟩ := h; rfl) (fun f cdv A outer s H vs Q E hr h => ⟨_, (pss_cons (ps_if (pt_cmpR op_ne (pe_callB (lenK (K := K)) (by rfl) B.len PySem.boot_len (pa_cons (pv 0) pa_nil)) (pv 1) (nomark _))
        (pss_one ps_never)
        pss_nil)
      (pss_one (ps_for PassesOwn.never rfl (pi_listK (K := K) (pv 0)) (pg_name (i := 2) sc_check_line.nd rfl (Or.inl rfl))
        (pss_one (ps_if (pt_not (pt_val (pe_ok h_is_bid hr (by rfl) pass0 (pa_cons (pv 2) pa_nil))))
          (pss_one ps_never)
          pss_nil))))), ?_⟩)
  obtain ⟨x, y, rfl, a, row, m, rfl, rfl, hA, ⟨hm, hb⟩, q⟩ := h
  refine q_when (b := false) (et_is (et_test (ev_op (ev_lenI hA (ev_var rfl)) (ev_var rfl) (rv_ne rfl))) (by rw [hm, decide_eq_true rfl]; rfl)) (fun h => nomatch h) fun _ H1 e1 => ?_
  refine s_forLn (ev_var rfl) (ex_l e1 hA) (fun i σ H' => ∃ z, σ = [some (.ref a), some (.int m), z] ∧ Ex H H') (fun H2 e2 => ⟨none, rfl, e1.trans e2⟩) (fun i σ' H' _ h => by obtain ⟨z, _, e⟩ := h; exact ex_l e hA) ?_ ?_
  · rintro i x σ' H' hi ⟨z, rfl, e⟩
    obtain ⟨hj, rfl⟩ := get_ints hi
    have g := hb _ (List.getElem_mem hj)
    refine s_when (b := false) (et_is (et_not (et_B (ev_call (ea_cons (ev_var rfl) ea_nil) fun H2 e2 Q q E => ⟨_, rfl, .int row[i], q H2 (Ex.refl H2)⟩))) (by simp [bidOk, g])) (fun h => nomatch h) fun _ H2 e2 => ⟨_, rfl, e.trans e2⟩
  · rintro σ' H' ⟨z, rfl, e⟩
    exact q H' e
end
/-! ### check_bids -/
abbrev s_check_bids : Stmt := topS 14
theorem sc_check_bids : FnScope ["bids", "many", "row"] ["bids"] (defScope s_check_bids) := ⟨rfl, rfl, rfl, by decide +kernel, rfl, by decide +kernel, by decide +kernel⟩
def sp_check_bids (K : PySem.W.Frag) : Sp := sp1 fun x H Q => ∃ (a : Addr) (rows : List (List Int)) (m : Nat), x = .ref a ∧ LL K H a rows ∧ Bids rows m ∧ RetV .non H Q
section
variable {P : Program} {w : World} {K : PySem.W.Frag} {mg : Str → Option Value} {base : Heap}
theorem ok_check_bids (D : DnX K mg "check_bids" s_check_bids ["bids"]) (B : Bt mg) (c_MOST_PEOPLE : KInt mg "MOST_PEOPLE" 9) (c_MOST_GOODS : KInt mg "MOST_GOODS" 40) (h_check_line : Ok P w K mg base CX0 3 "check_line" ["line", "many"] (sp_check_line K)) : Ok P w K mg base CX0 4 "check_bids" ["bids"] (sp_check_bids K) := by
  refine ok_of D sc_check_bids (fun vs H Q E h => by obtain ⟨_, rfl, _⟩ := h; rfl) (fun f cdv A outer s H vs Q E hr h => ⟨_, (pss_cons (ps_if (pt_cmpR op_eq (pe_callB (lenK (K := K)) (by rfl) B.len PySem.boot_len (pa_cons (pv 0) pa_nil)) pe_int (nomark _))
        (pss_one ps_never)
        pss_nil)
      (pss_cons (ps_if (pt_cmpR op_gt (pe_callB (lenK (K := K)) (by rfl) B.len PySem.boot_len (pa_cons (pv 0) pa_nil)) (pe_const (by rfl) c_MOST_PEOPLE) (nomark _))
        (pss_one ps_never)
        pss_nil)
      (pss_cons (ps_set (i := 1) sc_check_bids.nd rfl (Or.inl rfl) (pe_callB (lenK (K := K)) (by rfl) B.len PySem.boot_len (pa_cons (pe_ix (ixL (K := K)) (pv 0) pe_int (fun _ _ => rfl)) pa_nil)))
      (pss_cons (ps_if (pt_cmpR op_gt (pv 1) (pe_const (by rfl) c_MOST_GOODS) (nomark _))
        (pss_one ps_never)
        pss_nil)
      (pss_one (ps_for PassesOwn.never rfl (pi_listK (K := K) (pv 0)) (pg_name (i := 2) sc_check_bids.nd rfl (Or.inl rfl))
        (pss_one (ps_expr (pe_ok h_check_line hr (by rfl) pass0 (pa_cons (pv 2) (pa_cons (pv 1) pa_nil))))))))))), ?_⟩)
  obtain ⟨x, rfl, a, rows, m, rfl, hA, hb, q⟩ := h
  have ll : (iv rows).length = rows.length := List.length_map _
  have h9 := hb.l9
  have h1 := hb.ne
  have h40 := hb.m40
  refine q_when (b := false) (et_is (et_test (ev_op (ev_lenLL hA (ev_var rfl)) ev_c (rv_eq rfl))) (by rw [ll]; exact decide_eq_false fun z => by have := V.int.inj z; omega)) (fun h => nomatch h) fun _ H1 e1 => ?_
  refine q_when (b := false) (et_is (et_test (ev_op (ev_lenLL (hA.mono e1) (ev_var rfl)) ev_c rv_I0)) (by rw [ll]; exact decide_eq_false (by omega))) (fun h => nomatch h) fun _ H2 e2 => ?_
  have hA2 := hA.mono (e1.trans e2)
  obtain ⟨q0, hq0, hs0⟩ := ev_row (σ := [some (.ref a), none, none]) (ta := tVar 0) (tb := tC (.int 0)) (i := 0) hA2 h1 (ev_var rfl) ev_c
  refine q_asg (v := .int m) (ev_is (ev_lenI hs0 hq0) (by rw [hb.at_ h1])) fun H3 e3 => ?_
  refine q_when (b := false) (et_is (et_test (ev_op (ev_var rfl) ev_c rv_I0)) (decide_eq_false (by omega))) (fun h => nomatch h) fun _ H4 e4 => ?_
  have e14 := ((e1.trans e2).trans e3).trans e4
  obtain ⟨ps, hps, hpl, hpa⟩ := hA
  refine s_forLn (ev_var rfl) (ex_l e14 hps) (fun i σ H' => ∃ z, σ = [some (.ref a), some (.int m), z] ∧ Ex H H') (fun H2 e2 => ⟨none, rfl, e14.trans e2⟩) (fun i σ' H' _ h => by obtain ⟨z, _, e⟩ := h; exact ex_l e hps) ?_ ?_
  · rintro i x σ' H' hi ⟨z, rfl, e⟩
    rw [List.getElem?_map] at hi
    cases ei : ps[i]? with
    | none =>
      rw [ei] at hi
      cases hi
    | some p =>
      rw [ei] at hi
      obtain rfl : V.ref p = x := Option.some.inj hi
      have hil : i < rows.length := by
        have := (List.getElem?_eq_some_iff.mp ei).1
        omega
      have hs := hpa i p _ ei (by rw [List.getElem?_map, List.getElem?_eq_getElem hil]; rfl)
      have hmem := List.getElem_mem hil
      exact s_drop (v := .non) (ev_call (ea_cons (ev_var rfl) (ea_cons (ev_var rfl) ea_nil)) fun H5 e5 Q q E => ⟨_, _, rfl, p, rows[i], m, rfl, rfl, ex_l (e.trans e5) hs, ⟨by rw [hb.len _ hmem], hb.ok _ hmem⟩, fun H6 e6 => q H6 e6⟩) fun H5 e5 => ⟨_, rfl, e.trans e5⟩
  · rintro σ' H' ⟨z, rfl, e⟩
    exact q H' e
end
/-! ### first_of_most -/
abbrev s_first_of_most : Stmt := topS 25
theorem sc_first_of_most : FnScope ["bids", "good", "column", "row"] ["bids", "good"] (defScope s_first_of_most) := ⟨rfl, rfl, rfl, by decide +kernel, rfl, by decide +kernel, by decide +kernel⟩
theorem least_at {ns : List Int} {m : Int} (h : m ∈ ns) : ∃ j : Nat, ns[j]? = some m ∧ ∀ (k : Nat) z, k < j → ns[k]? = some z → z ≠ m := by
  induction ns with
  | nil => cases h
  | cons x r ih =>
    by_cases e : x = m
    · exact ⟨0, by rw [e]; rfl, fun k z hk => by omega⟩
    · rcases List.mem_cons.mp h with h | h
      · exact absurd h.symm e
      · obtain ⟨j, h1, h2⟩ := ih h
        refine ⟨j + 1, h1, fun k z hk hz => ?_⟩
        cases k with
        | zero =>
          obtain rfl : x = z := Option.some.inj hz
          exact e
        | succ k => exact h2 k z (by omega) hz
def sp_first_of_most (K : PySem.W.Frag) : Sp := sp2 fun x y H Q => ∃ (a : Addr) (rows : List (List Int)) (m g : Nat), x = .ref a ∧ y = .int g ∧ LL K H a rows ∧ Bids rows m ∧ g < m ∧ ∀ j H2, Ex H H2 → j < rows.length → firstB rows j g = true → Q (.int (j : Nat)) H2
section
variable {P : Program} {w : World} {K : PySem.W.Frag} {mg : Str → Option Value} {base : Heap}
theorem ok_first_of_most (D : DnX K mg "first_of_most" s_first_of_most ["bids", "good"]) (B : Bt mg) : Ok P w K mg base CX0 1 "first_of_most" ["bids", "good"] (sp_first_of_most K) := by
  refine ok_of D sc_first_of_most (fun vs H Q E h => by obtain ⟨_, _, rfl, _⟩ := h; rfl) (fun f cdv A outer s H vs Q E hr h => ⟨_, (pss_cons (ps_setLc (own := [("row", 3)]) (i := 2) rfl sc_first_of_most.nd rfl rfl (sw_true rfl rfl rfl (by decide +kernel))  (pi_listK (K := K) (pv 0)) (blkOk_by (own := [("row", 3)]) (N := ["bids", "good", "column", "row"]) (sc := (defScope s_first_of_most)) (by decide +kernel)) (fun _ _ _ _ _ => (pg_name (i := 3) sc_first_of_most.nd rfl (Or.inl rfl))) (fun _ _ _ _ _ => pts_nil) (fun _ _ _ _ _ => (pe_ix (ixL (K := K)) (pv 3) (pv 1) (fun _ _ => rfl))))
      (pss_one (ps_ret (pe_bm PySem.F.plainAttrs_list PySem.F.slot_list_index PySem.F.type_list_index (indexK (K := K)) (pv 2) (pa_cons (pe_callB (maxK (K := K) rfl) (by rfl) B.max (by decide +kernel) (pa_cons (pv 2) pa_nil)) pa_nil))))), ?_⟩)
  obtain ⟨x, y, rfl, a, rows, m, g, rfl, rfl, hA, hb, hg, q⟩ := h
  have l9 := hb.l9
  have hne := hb.ne
  refine q_asgL (el_rows (rows := rows) (fun r => .int (r.getD g 0)) (ev_var rfl) hA (by omega) (fun _ => rfl) (fun i p H1 hi hp e1 => ev_op (ev_var rfl) (ev_var rfl) (rv_ixL hp (at_ints (i := (g : Int)) (by omega) (by rw [hb.at_ hi]; omega))))) fun c H1 hc e1 h1 => ?_
  generalize hcol : rows.map (fun r => r.getD g 0) = col
  have h1' : H1 c = some (.lst (col.map V.int)) := by
    rw [h1, ← hcol, List.map_map]
    rfl
  have cl : col.length = rows.length := by rw [← hcol, List.length_map]
  have cat : ∀ {k : Nat}, k < rows.length → col[k]? = some (bidAt rows k g) := by
    intro k hk
    rw [← hcol, List.getElem?_map, List.getElem?_eq_getElem hk]
    simp [bidAt, List.getD_eq_getElem?_getD, hk]
  refine g_ret ⟨.ref c, rfl, .inl ⟨rfl, _, sq_of h1'⟩, ?_⟩
  refine ⟨.ref c, rfl, c, col, rfl, sq_of h1', by omega, fun mx hmx hle => ?_⟩
  obtain ⟨j, hj, hmin⟩ := least_at hmx
  have hjl : j < rows.length := by
    have := (List.getElem?_eq_some_iff.mp hj).1
    omega
  refine ⟨c, col.map V.int, .int mx, j, .int mx, rfl, rfl, sq_of h1', rfl, ?_, by rw [List.getElem?_map, hj]; rfl, by show (mx == mx) = true; exact beq_self_eq_true mx, fun k z hk hz => ?_, q j H1 e1 hjl ?_⟩
  · exact List.all_eq_true.mpr fun x hx => by
      obtain ⟨y, _, rfl⟩ := List.mem_map.mp hx
      rfl
  · rw [List.getElem?_map] at hz
    cases ek : col[k]? with
    | none =>
      rw [ek] at hz
      cases hz
    | some w =>
      rw [ek] at hz
      obtain rfl : V.int w = z := Option.some.inj hz
      exact beq_eq_false_iff_ne.mpr (hmin k w hk ek)
  · have ej : bidAt rows j g = mx := Option.some.inj ((cat hjl).symm.trans hj)
    refine firstB_iff.mpr fun k hk => ?_
    have ck := cat hk
    refine ⟨by rw [ej]; exact hle _ (List.mem_of_getElem? ck), fun e => ?_⟩
    by_cases hkj : k < j
    · exact absurd (e.trans ej) (hmin k _ hkj ck)
    · omega
end
/-! ### given -/
abbrev s_given : Stmt := topS 24
theorem sc_given : FnScope ["bids", "heaps", "good", "row"] ["bids"] (defScope s_given) := ⟨rfl, rfl, rfl, by decide +kernel, rfl, by decide +kernel, by decide +kernel⟩
def sp_given (K : PySem.W.Frag) : Sp := sp1 fun x H Q => ∃ (a : Addr) (rows : List (List Int)) (m : Nat), x = .ref a ∧ LL K H a rows ∧ Bids rows m ∧ ∀ p ps H2, LNew H H2 p ps (iv (heapsM rows m)) → Ex H H2 → Q (.ref p) H2
section
variable {P : Program} {w : World} {K : PySem.W.Frag} {mg : Str → Option Value} {base : Heap}
theorem ok_given (D : DnX K mg "given" s_given ["bids"]) (B : Bt mg) (h_first_of_most : Ok P w K mg base CX0 1 "first_of_most" ["bids", "good"] (sp_first_of_most K)) : Ok P w K mg base CX0 2 "given" ["bids"] (sp_given K) := by
  refine ok_of D sc_given (fun vs H Q E h => by obtain ⟨_, rfl, _⟩ := h; rfl) (fun f cdv A outer s H vs Q E hr h => ⟨_, (pss_cons (ps_setLc (own := [("row", 3)]) (i := 1) rfl sc_given.nd rfl rfl (sw_true rfl rfl rfl (by decide +kernel))  (pi_listK (K := K) (pv 0)) (blkOk_by (own := [("row", 3)]) (N := ["bids", "heaps", "good", "row"]) (sc := (defScope s_given)) (by decide +kernel)) (fun _ _ _ _ _ => (pg_name (i := 3) sc_given.nd rfl (Or.inl rfl))) (fun _ _ _ _ _ => pts_nil) (fun _ _ _ _ _ => (pe_lst pa_nil)))
      (pss_cons (ps_for PassesOwn.never rfl (pi_range1 (by rfl) B.range (pa_cons (pe_callB (lenK (K := K)) (by rfl) B.len PySem.boot_len (pa_cons (pe_ix (ixL (K := K)) (pv 0) pe_int (fun _ _ => rfl)) pa_nil)) pa_nil)) (pg_name (i := 2) sc_given.nd rfl (Or.inl rfl))
        (pss_one (ps_expr (pe_bm PySem.F.plainAttrs_list PySem.F.slot_list_append PySem.F.type_list_append mt_append (pe_ix (ixL (K := K)) (pv 1) (pe_ok h_first_of_most hr (by rfl) pass0 (pa_cons (pv 0) (pa_cons (pv 2) pa_nil))) (fun _ _ => rfl)) (pa_cons (pv 2) pa_nil)))))
      (pss_one (ps_ret (pv 1))))), ?_⟩)
  obtain ⟨x, rfl, a, rows, m, rfl, hA, hb, q⟩ := h
  have ll : (iv rows).length = rows.length := List.length_map _
  have l9 := hb.l9
  have hne := hb.ne
  have h40 := hb.m40
  obtain ⟨as, hAs, hAl, _⟩ := id hA
  refine q_asgN (ys := iv (List.replicate rows.length [])) (en_ys (xs := as) (enc := V.ref) (ev_var rfl) hAs (by omega) (by rw [List.length_map, List.length_replicate]; omega) (fun _ => rfl) fun i x y H5 hi hy e5 => ?_) fun hp hps H1 L1 e1 => ?_
  · have ey : y = [] := by
      rw [List.getElem?_map, List.getElem?_replicate] at hy
      split at hy
      · exact (Option.some.inj hy).symm
      · cases hy
    rw [ey]
    exact el_lst ea_nil (by decide)
  have h0 : Hps H H1 hp hps (heapsM rows 0) rows.length m 0 := by
    have e0 : heapsM rows 0 = List.replicate rows.length [] := by
      refine List.ext_getElem (by simp [heapsM]) fun k h1 h2 => ?_
      simp [heapsM]
    rw [e0]
    exact ⟨L1, e1, by simp, fun h hh => by rw [(List.mem_replicate.mp hh).2]; exact fun g hg => (by cases hg), by simp⟩
  obtain ⟨q0, hq0, hs0⟩ := ev_row (σ := [some (.ref a), some (.ref hp), none, none]) (ta := tVar 0) (tb := tC (.int 0)) (i := 0) (hA.mono e1) hne (ev_var rfl) ev_c
  refine q_forR1 (n := m) (ea_cons (ev_is (ev_lenI hs0 hq0) (by rw [hb.at_ hne])) ea_nil) ⟨by omega, by omega⟩ (fun i σ H' => ∃ z : Option V, σ = [some (.ref a), some (.ref hp), z, none] ∧ Hps H H' hp hps (heapsM rows i) rows.length m i) (fun H2 e2 => ⟨none, rfl, h0.ext e2⟩) ?_ ?_
  · rintro i σ' H' hi ⟨z, rfl, hH⟩
    refine g_drop ⟨.ref hp, rfl, g_call ?_⟩
    refine ea_cons (ev_var rfl) (ea_cons (ev_var rfl) ea_nil) H' (Ex.refl _) _ fun H2 e2 => ?_
    refine ⟨_, _, rfl, a, rows, m, i, rfl, rfl, hA.mono (hH.ex.trans e2), hb, by omega, fun j H3 e3 hj hf => ?_⟩
    obtain ⟨p, hp1, hp2, happ⟩ := hH.app (i := j) (j := i) hj (by omega)
    have e23 := e2.trans e3
    have hl : ((heapsM rows i).getD j []).length ≤ 1000 := by
      rw [heapsM_at hj, List.length_map]
      have := List.length_filter_le (firstB rows j) (List.range i)
      rw [List.length_range] at this
      omega
    refine ⟨hp, hps.map V.ref, (j : Int), .ref p, rfl, rfl, sq_of (e23 _ _ hH.L.top), at_refs hp1, .inl ⟨rfl, _, sq_of (e23 _ _ hp2)⟩, ?_⟩
    refine ⟨_, rfl, p, _, _, rfl, rfl, e23 _ _ hp2, sz_lt (by rw [List.length_map]; omega), ?_⟩
    have := happ H3 e23
    rw [heapsM_succ hj hf] at this
    exact ⟨_, rfl, this⟩
  · rintro σ' H' ⟨z, rfl, hH⟩
    rw [Int.toNat_natCast] at hH
    exact s_ret (ev_var rfl) fun H2 e2 => q hp hps H2 (hH.L.ext e2) (hH.ex.trans e2)
end
/-! ### is_place -/
abbrev s_is_place : Stmt := topS 12
theorem sc_is_place : FnScope ["thing", "many"] ["thing", "many"] (defScope s_is_place) := ⟨rfl, rfl, rfl, by decide +kernel, rfl, by decide +kernel, by decide +kernel⟩
def sp_is_place (K : PySem.W.Frag) : Sp := sp2 fun x y H Q => ∃ m, y = .int m ∧ Any H x ∧ Q (.bl (place x m)) H
section
variable {P : Program} {w : World} {K : PySem.W.Frag} {mg : Str → Option Value} {base : Heap}
theorem ok_is_place (D : DnX K mg "is_place" s_is_place ["thing", "many"]) (B : Bt mg) (h_is_number : Ok P w K mg base CX0 1 "is_number" ["thing"] (sp_is_number K)) : Ok P w K mg base CX0 2 "is_place" ["thing", "many"] (sp_is_place K) := by
  refine ok_of D sc_is_place (fun vs H Q E h => by obtain ⟨_, _, rfl, _⟩ := h; rfl) (fun f cdv A outer s H vs Q E hr h => ⟨_, (pss_one (ps_ret (pe_and (pe_ok h_is_number hr (by rfl) pass0 (pa_cons (pv 0) pa_nil)) (pe_one (pe_chain op_le op_lt pe_int (pv 0) (pv 1)))))), ?_⟩)
  obtain ⟨x, y, rfl, m, rfl, ha, q⟩ := h
  refine ⟨x, rfl, x, rfl, ha, isInt x, rfl, ?_⟩
  cases x with
  | int i =>
    refine iteT ⟨_, rfl, _, _, rfl, rfl, _, rfl, ?_⟩
    by_cases h0 : 0 ≤ i
    · rw [decide_eq_true h0]
      refine iteT ⟨_, rfl, _, _, rfl, rfl, ?_⟩
      have e : place (.int i) m = decide (i < m) := by simp [place, h0]
      rw [e] at q
      exact q
    · rw [decide_eq_false h0]
      refine iteF ?_
      have e : place (.int i) m = false := by simp [place, h0]
      rw [e] at q
      exact q
  | _ => exact q
end
/-! ### worth -/
abbrev s_worth : Stmt := topS 21
theorem sc_worth : FnScope ["row", "heap", "good"] ["row", "heap"] (defScope s_worth) := ⟨rfl, rfl, rfl, by decide +kernel, rfl, by decide +kernel, by decide +kernel⟩
def sp_worth (K : PySem.W.Frag) : Sp := sp2 fun x y H Q => ∃ (a b : Addr) (row heap : List Int), x = .ref a ∧ y = .ref b ∧ SqL K H a (row.map V.int) ∧ SqL K H b (heap.map V.int) ∧ heap.length ≤ 4000 ∧ Inside row.length heap ∧ RetV (.int (worthM row heap)) H Q
section
variable {P : Program} {w : World} {K : PySem.W.Frag} {mg : Str → Option Value} {base : Heap}
theorem ok_worth (D : DnX K mg "worth" s_worth ["row", "heap"]) (B : Bt mg) (h_is_place : Ok P w K mg base CX0 2 "is_place" ["thing", "many"] (sp_is_place K)) : Ok P w K mg base CX0 3 "worth" ["row", "heap"] (sp_worth K) := by
  refine ok_of D sc_worth (fun vs H Q E h => by obtain ⟨_, _, rfl, _⟩ := h; rfl) (fun f cdv A outer s H vs Q E hr h => ⟨_, (pss_one (ps_ret (pe_callB (sumK (K := K) rfl) (by rfl) B.sum (by decide +kernel) (pa_cons (pe_lc (own := [("good", 2)]) rfl sc_worth.nd  (pi_listK (K := K) (pv 1)) (blkOk_by (own := [("good", 2)]) (N := ["row", "heap", "good"]) (sc := (defScope s_worth)) (by decide +kernel)) (fun _ _ _ _ _ => (pg_name (i := 2) sc_worth.nd rfl (Or.inl rfl))) (fun _ _ _ _ _ => (pts_one (pt_val (pe_ok h_is_place hr (by rfl) pass0 (pa_cons (pv 2) (pa_cons (pe_callB (lenK (K := K)) (by rfl) B.len PySem.boot_len (pa_cons (pv 0) pa_nil)) pa_nil)))))) (fun _ _ _ _ _ => (pe_ix (ixL (K := K)) (pv 0) (pv 2) (fun _ _ => rfl)))) pa_nil)))), ?_⟩)
  obtain ⟨x, y, rfl, a, b, row, heap, rfl, rfl, hr1, hh, hl, hw, q⟩ := h
  refine g_ret (g_cb1 ?_)
  refine go_by (xs := heap) (enc := V.int) (fun _ => true) (fun g => .int (row.getD g.toNat 0)) (ev_var rfl) hh (by omega) (fun _ => rfl) (fun g hg H1 e1 => ?_) (fun g hg H1 e1 _ => ?_) fun p H2 hp e2 h2 => ?_
  · obtain ⟨g0, g1⟩ := hw g hg
    have e : place (.int g) (row.length : Int) = true := by simp [place, g0, g1]
    rw [← e]
    refine et_B ?_
    intro H2 e2 Q q
    refine ⟨_, rfl, _, rfl, a, _, rfl, .inl (ex_l (e1.trans e2) hr1), _, _, rfl, _, rfl, .int g, ?_⟩
    rw [List.length_map]
    exact q H2 (Ex.refl H2)
  · obtain ⟨g0, g1⟩ := hw g hg
    exact ev_op (ev_var rfl) (ev_var rfl) (rv_ixL (ex_l e1 hr1) (at_ints g0 g1))
  · rw [List.filter_eq_self.mpr (fun _ _ => rfl)] at h2
    refine ⟨p, heap.map (fun g : Int => row.getD g.toNat 0), rfl, .inl (.inl ?_), q H2 e2⟩
    rw [h2, List.map_map]
    rfl
end
/-! ### in_heaps -/
abbrev s_in_heaps : Stmt := topS 23
theorem sc_in_heaps : FnScope ["bids", "heaps", "worths", "together", "sums", "row", "heap", "own"] ["bids"] (defScope s_in_heaps) := ⟨rfl, rfl, rfl, by decide +kernel, rfl, by decide +kernel, by decide +kernel⟩
def sp_in_heaps (K : PySem.W.Frag) : Sp := sp1 fun x H Q => ∃ (a : Addr) (rows : List (List Int)) (m : Nat), x = .ref a ∧ LL K H a rows ∧ Bids rows m ∧ ∀ p hp sp hps H2, DNew H H2 p hp sp hps (heapsM rows m) (payM rows (heapsM rows m)) → Ex H H2 → Q (.ref p) H2
section
variable {P : Program} {w : World} {K : PySem.W.Frag} {mg : Str → Option Value} {base : Heap}
theorem ok_in_heaps (D : DnX K mg "in_heaps" s_in_heaps ["bids"]) (B : Bt mg) (h_check_bids : Ok P w K mg base CX0 4 "check_bids" ["bids"] (sp_check_bids K)) (h_given : Ok P w K mg base CX0 2 "given" ["bids"] (sp_given K)) (h_worth : Ok P w K mg base CX0 3 "worth" ["row", "heap"] (sp_worth K)) : Ok P w K mg base CX0 5 "in_heaps" ["bids"] (sp_in_heaps K) := by
  refine ok_of D sc_in_heaps (fun vs H Q E h => by obtain ⟨_, rfl, _⟩ := h; rfl) (fun f cdv A outer s H vs Q E hr h => ⟨_, (pss_cons (ps_expr (pe_ok h_check_bids hr (by rfl) pass0 (pa_cons (pv 0) pa_nil)))
      (pss_cons (ps_set (i := 1) sc_in_heaps.nd rfl (Or.inl rfl) (pe_ok h_given (hr.mono (by decide)) (by rfl) pass0 (pa_cons (pv 0) pa_nil)))
      (pss_cons (ps_setLc (own := [("row", 5), ("heap", 6)]) (i := 2) rfl sc_in_heaps.nd rfl rfl (sw_true rfl rfl rfl (by decide +kernel))  (pi_zip (by rfl) B.zip (pa_cons (pv 0) (pa_cons (pv 1) pa_nil))) (blkOk_by (own := [("row", 5), ("heap", 6)]) (N := ["bids", "heaps", "worths", "together", "sums", "row", "heap", "own"]) (sc := (defScope s_in_heaps)) (by decide +kernel)) (fun _ _ _ _ _ => (pg_tupK (K := K) (n := 2) rfl (pgs_cons (pg_name (i := 5) sc_in_heaps.nd rfl (Or.inl rfl)) (pgs_cons (pg_name (i := 6) sc_in_heaps.nd rfl (Or.inl rfl)) pgs_nil)))) (fun _ _ _ _ _ => pts_nil) (fun _ _ _ _ _ => (pe_ok h_worth (hr.mono (by decide)) (by rfl) pass0 (pa_cons (pv 5) (pa_cons (pv 6) pa_nil)))))
      (pss_cons (ps_set (i := 3) sc_in_heaps.nd rfl (Or.inr rfl) (pe_callB (sumK (K := K) rfl) (by rfl) B.sum (by decide +kernel) (pa_cons (pv 2) pa_nil)))
      (pss_cons (ps_setLc (own := [("own", 7)]) (i := 4) rfl sc_in_heaps.nd rfl rfl (sw_true rfl rfl rfl (by decide +kernel))  (pi_listK (K := K) (pv 2)) (blkOk_by (own := [("own", 7)]) (N := ["bids", "heaps", "worths", "together", "sums", "row", "heap", "own"]) (sc := (defScope s_in_heaps)) (by decide +kernel)) (fun _ _ _ _ _ => (pg_name (i := 7) sc_in_heaps.nd rfl (Or.inl rfl))) (fun _ _ _ _ _ => pts_nil) (fun _ _ _ _ _ => (pe_op op_sub (pe_op op_mul (pv 7) (pe_callB (lenK (K := K)) (by rfl) B.len PySem.boot_len (pa_cons (pv 0) pa_nil))) (pv 3))))
      (pss_one (ps_ret (pe_tup (pa_cons (pv 1) (pa_cons (pv 4) pa_nil)))))))))), ?_⟩)
  obtain ⟨x, rfl, a, rows, m, rfl, hA, hb, q⟩ := h
  have ll : (iv rows).length = rows.length := List.length_map _
  have l9 := hb.l9
  have F := heaps_fit hb
  refine q_drop (v := .non) (ev_call (ea_cons (ev_var rfl) ea_nil) fun H2 e2 Q q E => ⟨_, rfl, a, rows, m, rfl, hA.mono e2, hb, fun H3 e3 => q H3 e3⟩) fun H1 e1 => ?_
  refine q_asgN (ys := iv (heapsM rows m)) (fun H2 e2 Q q => g_call (ea_cons (ev_var rfl) ea_nil H2 (Ex.refl _) _ fun H3 e3 => ⟨_, rfl, a, rows, m, rfl, hA.mono ((e1.trans e2).trans e3), hb, fun p ps H4 L e4 => q p ps H4 (L.back e3) (e3.trans e4)⟩)) fun hp hps H2 L2 e2 => ?_
  have e12 := e1.trans e2
  obtain ⟨as, hAs, hAl, hAa⟩ := hA
  have hpl := L2.len
  rw [List.length_map, heapsM_len] at hpl
  refine q_asgL (xs := (ownM rows (heapsM rows m)).map V.int) ?_ fun wp H3 hwp e3 hw => ?_
  · have hz := el_zip (K := K) (σ := [some (.ref a), some (.ref hp), none, none, none, none, none, none]) (H := H2) (te := tCall (sp_worth K) [] E0 (tCons (tVar 5) (tCons (tVar 6) tNil))) (ta := tCons (tVar 0) (tCons (tVar 1) tNil)) (j1 := 5) (j2 := 6) (vs := [5, 6]) (xs := as.map V.ref) (ys := hps.map V.ref) (fun i => .int (worthM (rows.getD i []) ((heapsM rows m).getD i []))) (ea_cons (ev_var rfl) (ea_cons (ev_var rfl) ea_nil)) (ex_l e12 hAs) (sq_of L2.top) (by rw [List.length_map, List.length_map]; omega) (by rw [List.length_map]; omega) (fun _ _ => rfl) (fun i x y H4 hx hy e4 => ?_)
    · have er : (ownM rows (heapsM rows m)).map V.int = (List.range (as.map V.ref).length).map fun i => V.int (worthM (rows.getD i []) ((heapsM rows m).getD i [])) := by
        unfold ownM
        rw [List.map_map, List.length_map, hAl, ll]
        rfl
      rw [er]
      exact hz
    · rw [List.getElem?_map] at hx hy
      cases ex : as[i]? with
      | none =>
        rw [ex] at hx
        cases hx
      | some u =>
        cases ey : hps[i]? with
        | none =>
          rw [ey] at hy
          cases hy
        | some v =>
          rw [ex] at hx
          rw [ey] at hy
          obtain rfl : V.ref u = x := Option.some.inj hx
          obtain rfl : V.ref v = y := Option.some.inj hy
          have hi : i < rows.length := by
            have := (List.getElem?_eq_some_iff.mp ex).1
            omega
          have hi2 : i < (heapsM rows m).length := by rw [heapsM_len]; exact hi
          have r1 : rows.getD i [] = rows[i] := by simp [List.getD_eq_getElem?_getD, hi]
          have r2 : (heapsM rows m).getD i [] = (heapsM rows m)[i] := by simp [List.getD_eq_getElem?_getD, hi2]
          have s1 : SqL K H4 u ((rows.getD i []).map V.int) := ex_l (e12.trans e4) (hAa i u _ ex (by rw [List.getElem?_map, List.getElem?_eq_getElem hi, r1]; rfl))
          have s2 : SqL K H4 v (((heapsM rows m).getD i []).map V.int) := sq_of (e4 _ _ (L2.at_ i v _ ey (by rw [List.getElem?_map, List.getElem?_eq_getElem hi2, r2]; rfl)).2)
          exact ev_call (ea_cons (ev_var rfl) (ea_cons (ev_var rfl) ea_nil)) fun H5 e5 Q q E => ⟨_, _, rfl, u, v, _, _, rfl, rfl, ex_l e5 s1, ex_l e5 s2, F.few_at hi, by rw [hb.at_ hi]; exact F.at_ hi, fun H6 e6 => q H6 e6⟩
  have hA3 : LL K H3 a rows := ⟨as, ex_l (e12.trans e3) hAs, hAl, fun i q y h1 h2 => ex_l (e12.trans e3) (hAa i q y h1 h2)⟩
  refine q_asg (v := .int (ownM rows (heapsM rows m)).sum) (ev_cb (ea_cons (ev_var rfl) ea_nil) fun H4 e4 Q q => ⟨wp, _, rfl, sq_of (e4 _ _ hw), q H4 (Ex.refl H4)⟩) fun H4 e4 => ?_
  refine q_asgL (el_all (xs := ownM rows (heapsM rows m)) (enc := V.int) (fun o => .int (o * rows.length - (ownM rows (heapsM rows m)).sum)) (ev_var rfl) (sq_of (e4 _ _ hw)) (by rw [ownM_len]; omega) (fun _ => rfl) (fun o ho H5 e5 => ?_)) fun sp H5 hsp e5 hs => ?_
  · refine ev_is (ev_op (ev_op (ev_var rfl) (ev_lenLL (hA3.mono (e4.trans e5)) (ev_var rfl)) (rv_I (mulR (by rw [ll]; omega)))) (ev_var rfl) rv_I0) (by rw [ll])
  have e25 := (e3.trans e4).trans e5
  refine g_ret (g_tup ⟨.ref hp, rfl, .ref sp, rfl, sz_of (by show 2 ≤ 100000; omega), fun p hp5 => ?_⟩)
  have x1 := Ex.new (o := .tup [V.ref hp, V.ref sp]) hp5
  have hs' : H5 sp = some (.lst ((payM rows (heapsM rows m)).map V.int)) := by
    rw [hs]
    unfold payM
    rw [List.map_map]
    rfl
  refine q p hp sp hps _ ⟨fresh_back (e12.trans e25) hp5, (L2.back e1).ext (e25.trans x1), fresh_back (((e1.trans e2).trans e3).trans e4) hsp, x1 _ _ hs', upd_same, fun mem => ?_⟩ ((e12.trans e25).trans x1)
  have h2s : H2 sp = none := fresh_back (e3.trans e4) hsp
  rcases List.mem_cons.mp mem with rfl | mem
  · rw [L2.top] at h2s
    cases h2s
  · obtain ⟨k, hk⟩ := List.getElem?_of_mem mem
    have hkl : k < (iv (heapsM rows m)).length := by
      rw [← L2.len]
      exact (List.getElem?_eq_some_iff.mp hk).1
    rw [(L2.at_ k sp _ hk (List.getElem?_eq_getElem hkl)).2] at h2s
    cases h2s
end
/-! ### with_one_more -/
abbrev s_with_one_more : Stmt := topS 18
theorem sc_with_one_more : FnScope ["best", "row", "found", "taken", "together", "rooms", "room", "more", "amount"] ["best", "row"] (defScope s_with_one_more) := ⟨rfl, rfl, rfl, by decide +kernel, rfl, by decide +kernel, by decide +kernel⟩
theorem steps_small {row : List Int} {e : Nat × (Int × List Nat)} {t : Tab} (h : Small t) (he : e.1 < 2 ^ 9) (hl : e.2.2.length < 20) (h9 : row.length ≤ 9) (k : Nat) (hk : k ≤ row.length) : Small (steps row e t k) := by
  have h1 := steps_all (row := row) (e := e) (t := t) (n := row.length) (P := fun x => x.1 < 2 ^ 9 ∧ x.2.2.length ≤ 20) (fun x hx => ⟨h.lt x hx, h.few x hx⟩) (fun j hj _ => ⟨?_, ?_⟩) k hk
  · exact ⟨steps_keys h.keys k, fun x hx => (h1 x hx).1, fun x hx => (h1 x hx).2⟩
  · exact Nat.or_lt_two_pow he (Nat.pow_lt_pow_right (by decide) (by omega))
  · show (e.2.2 ++ [j]).length ≤ 20
    rw [List.length_append]
    show e.2.2.length + 1 ≤ 20
    omega
theorem more_small {row : List Int} (h9 : row.length ≤ 9) : ∀ {t found : Tab}, Small found → (∀ e ∈ t, e.1 < 2 ^ 9 ∧ e.2.2.length < 20) → Small (moreT row found t)
  | [], _, h, _ => h
  | e :: r, _, h, hp => more_small h9 (t := r) (steps_small h (hp e List.mem_cons_self).1 (hp e List.mem_cons_self).2 h9 _ (Nat.le_refl _)) fun x hx => hp x (List.mem_cons_of_mem _ hx)
theorem moreT_snoc (row : List Int) (e : Nat × (Int × List Nat)) : ∀ (t found : Tab), moreT row found (t ++ [e]) = steps row e (moreT row found t) row.length
  | [], _ => rfl
  | _ :: r, _ => moreT_snoc row e r _
theorem small0 : Small [] := ⟨by simp, fun e h => (by cases h), fun e h => (by cases h)⟩
def sp_with_one_more (K : PySem.W.Frag) : Sp := sp2 fun x y H Q => ∃ (d a : Addr) (kvs : List (Key × V)) (t : Tab) (row : List Int), x = .ref d ∧ y = .ref a ∧ H d = some (.dK kvs) ∧ Tb H kvs t ∧ SqL K H a (row.map V.int) ∧ row.length ≤ 9 ∧ (∀ e ∈ t, e.1 < 2 ^ 9 ∧ e.2.2.length < 20) ∧
  ∀ p kvs2 H2, H p = none → Ex H H2 → H2 p = some (.dK kvs2) → Tb H2 kvs2 (oneMore t row) → Q (.ref p) H2
section
variable {P : Program} {w : World} {K : PySem.W.Frag} {mg : Str → Option Value} {base : Heap}
theorem ok_with_one_more (D : DnX K mg "with_one_more" s_with_one_more ["best", "row"]) (B : Bt mg) : Ok P w K mg base CX0 1 "with_one_more" ["best", "row"] (sp_with_one_more K) := by
  refine ok_of D sc_with_one_more (fun vs H Q E h => by obtain ⟨_, _, rfl, _⟩ := h; rfl) (fun f cdv A outer s H vs Q E hr h => ⟨_, (pss_cons (ps_set (i := 2) sc_with_one_more.nd rfl (Or.inl rfl) pe_dnewK)
      (pss_cons (ps_lock (ps_for PassesOwn.never rfl (pi_items (pv 0)) (pg_tupK (K := K) (n := 2) rfl (pgs_cons (pg_name (i := 3) sc_with_one_more.nd rfl (Or.inl rfl)) (pgs_cons (pg_tupK (K := K) (n := 2) rfl (pgs_cons (pg_name (i := 4) sc_with_one_more.nd rfl (Or.inl rfl)) (pgs_cons (pg_name (i := 5) sc_with_one_more.nd rfl (Or.inl rfl)) pgs_nil))) pgs_nil)))
        (pss_one (ps_for PassesOwn.never rfl (pi_range1 (by rfl) B.range (pa_cons (pe_callB (lenK (K := K)) (by rfl) B.len PySem.boot_len (pa_cons (pv 1) pa_nil)) pa_nil)) (pg_name (i := 6) sc_with_one_more.nd rfl (Or.inl rfl))
          (pss_one (ps_if (pt_cmpR op_eq (pe_op op_and (pv 3) (pe_op op_shl pe_int (pv 6))) pe_int (nomark _))
            (pss_cons (ps_set (i := 7) sc_with_one_more.nd rfl (Or.inl rfl) (pe_op op_or (pv 3) (pe_op op_shl pe_int (pv 6))))
            (pss_cons (ps_set (i := 8) sc_with_one_more.nd rfl (Or.inl rfl) (pe_op op_add (pv 4) (pe_ix (ixL (K := K)) (pv 1) (pv 6) (fun _ _ => rfl))))
            (pss_one (ps_if (PW.pt (pw_or (pt_cmp (pc_dnotin (u1 hr.units) (pv 7) (pv 2))) (pw_or1 (pt_cmpR op_gt (pv 8) (pe_ix (ixT (K := K)) (pe_dget (u1 hr.units) (pv 2) (pv 7) (fun _ _ => rfl)) pe_int (fun _ _ => rfl)) (nomark _)))))
              (pss_one (ps_dput (u1 hr.units) (pv 2) (pv 7) (pe_tup (pa_cons (pv 8) (pa_cons (pe_op op_cat (pv 5) (pe_lst (pa_cons (pv 6) pa_nil))) pa_nil))) (by rfl)))
              pss_nil))))
            pss_nil))))))
      (pss_one (ps_ret (pv 2))))), ?_⟩)
  obtain ⟨x, y, rfl, d, a, kvs, t, row, rfl, rfl, hd, hT, hA, h9, hs, q⟩ := h
  refine q_set fun p hp => ?_
  have dp : d ≠ p := ne_of_none hd hp
  have e0 := Ex.new (o := .dK []) hp
  refine g_seq ⟨d, .dK kvs, e0 _ _ hd, trivial, fun od => ?_⟩
  refine ⟨.ref d, rfl, d, od, kvs, rfl, upd_same, ?_⟩
  generalize hHm : msk H [d] = Hm
  have mp : Hm p = none := by rw [← hHm, msk_at fun m => dp (List.mem_singleton.mp m).symm]; exact hp
  have hTm : Tb Hm kvs t := by rw [← hHm]; exact tb_mskD hd hT
  have hAm : SqL K Hm a (row.map V.int) := by rw [← hHm]; exact sq_mskD hd hA
  have hlen := hT.length
  refine for_it (walk_items (kvs := kvs) (d := d) (o := od)) (fun i σ' H' => ∃ kvs' z3 z4 z5 z6 z7 z8, σ' = [some (.ref d), some (.ref a), some (.ref p), z3, z4, z5, z6, z7, z8] ∧ Ex Hm H' ∧ H' d = some (.frz od (.dK kvs)) ∧ H' p = some (.dK kvs') ∧ Tb H' kvs' (moreT row [] (t.take i))) ?_ ?_ ?_ ?_
  · refine ⟨[], none, none, none, none, none, none, rfl, ?_, upd_same, by rw [upd_ne fun z => dp z.symm, upd_same], .nil⟩
    rw [← hHm]
    exact msk_ex fun b o h n => by
      rw [upd_ne fun z => n (List.mem_singleton.mpr z)]
      exact e0 _ _ h
  · rintro i σ' H' hi ⟨kvs', z3, z4, z5, z6, z7, z8, rfl, hk, hd', hp', hT'⟩
    exact hd'
  · rintro i x σ' H' H'' hi ⟨kvs', z3, z4, z5, z6, z7, z8, rfl, hk, hd', hp', hT'⟩ hy
    obtain ⟨T, k, v, rfl, hTn, rfl, hk1, hv1⟩ := hy
    have hit : i < t.length := by omega
    have hkv : kvs[i]? = some kvs[i] := List.getElem?_eq_getElem hi
    have hte : t[i]? = some t[i] := List.getElem?_eq_getElem hit
    have hk1 : Option.map (fun kv => kV kv.1) kvs[i]? = some k := hk1
    have hv1 : Option.map Prod.snd kvs[i]? = some v := hv1
    rw [hkv] at hk1 hv1
    have hen := paired_at hTm hkv hte
    rcases he : t[i] with ⟨m, amt, ρ⟩
    rw [he] at hen
    obtain ⟨h1, b, l, h2, h3, h4⟩ := hen
    have hke : kV kvs[i].1 = k := Option.some.inj hk1
    have hve : kvs[i].2 = v := Option.some.inj hv1
    rw [h1] at hke
    rw [h2] at hve
    subst hke
    subst hve
    have hmem : (m, amt, ρ) ∈ t := he ▸ List.getElem_mem hit
    have eT := Ex.new (o := .tup [kV (.inl (m : Int)), .ref b]) hTn
    have hkT := hk.trans eT
    refine ⟨T, _, rfl, st_of upd_same, rfl, _, _, rfl, _, _, rfl, b, _, rfl, st_of (hkT _ _ h3), rfl, _, _, rfl, _, _, rfl, rfl, rfl, ?_⟩
    have S0 : Small (moreT row [] (t.take i)) := more_small h9 small0 fun x hx => hs x (List.mem_of_mem_take hx)
    have esn : moreT row [] (t.take (i + 1)) = steps row (m, amt, ρ) (moreT row [] (t.take i)) row.length := by
      rw [List.take_add_one, hte, he]
      exact moreT_snoc row _ _ _
    rw [esn]
    generalize moreT row [] (t.take i) = F at hT' S0
    have hd2 := eT _ _ hd'
    have hp2 := eT _ _ hp'
    have hT2 := hT'.mono eT
    generalize upd H' T (.tup [kV (.inl (m : Int)), .ref b]) = H2 at hkT hd2 hp2 hT2
    refine s_forR1 (n := row.length) (ea_cons (ev_lenI (ex_l hkT hAm) (ev_var rfl)) ea_nil) ⟨by omega, by omega⟩ (fun j σ' H' => ∃ kvs' z6 z7 z8, σ' = [some (.ref d), some (.ref a), some (.ref p), some (.int (m : Int)), some (.int amt), some (.ref l), z6, z7, z8] ∧ Ex Hm H' ∧ H' d = some (.frz od (.dK kvs)) ∧ H' p = some (.dK kvs') ∧ Tb H' kvs' (steps row (m, amt, ρ) F j)) (fun H3 e3 => ⟨kvs', z6, z7, z8, rfl, hkT.trans e3, e3 _ _ hd2, e3 _ _ hp2, hT2.mono e3⟩) ?_ ?_
    · rintro j σ' H3 hj ⟨kvs3, z6, z7, z8, rfl, hk3, hd3, hp3, hT3⟩
      have hj : j < row.length := by omega
      have S3 : Small (steps row (m, amt, ρ) F j) := steps_small S0 (hs _ hmem).1 (hs _ hmem).2 h9 j (by omega)
      have hρ : ρ.length < 20 := (hs _ hmem).2
      have esj := steps_succ row (m, amt, ρ) F j
      have hl3 : kvs3.length ≤ 512 := by rw [hT3.length]; exact S3.len
      generalize steps row (m, amt, ρ) F j = G at hT3 esj S3
      rw [esj]
      refine s_when (b := !m.testBit j) (et_is (et_test (ev_op (ev_op (ev_var rfl) (ev_op ev_c (ev_var rfl) (rv_I ⟨by omega, by omega, by decide⟩)) rv_I0) ev_c (rv_eq rfl))) (by rw [shl_pow]; exact and_bit m j)) (fun hb H4 e4 => ?_) fun hb H4 e4 => ?_
      · have hb : m.testBit j = false := by cases z : m.testBit j with | false => rfl | true => (rw [z] at hb; cases hb)
        refine q_asg (v := .int ((m ||| 2 ^ j : Nat) : Int)) (ev_is (ev_op (ev_var rfl) (ev_op ev_c (ev_var rfl) (rv_I ⟨by omega, by omega, by decide⟩)) rv_I0) (by rw [shl_pow, or_bit])) fun H5 e5 => ?_
        have e35 := e4.trans e5
        refine q_asg (v := .int (amt + row.getD j 0)) (ev_op (ev_var rfl) (ev_op (ev_var rfl) (ev_var rfl) (rv_ixL (ex_l (hk3.trans e35) hAm) (at_ints (i := (j : Int)) (by omega) (by omega)))) rv_I0) fun H6 e6 => ?_
        have e36 := e35.trans e6
        have hT6 := hT3.mono e36
        have hp6 := e36 _ _ hp3
        have put : ∀ H7, Ex H6 H7 → step1 row (m, amt, ρ) G j = putT G (m ||| 2 ^ j) (amt + row.getD j 0, ρ ++ [j]) → ∀ D : Ends, (∀ kvs' H', Ex Hm H' → H' d = some (.frz od (.dK kvs)) → H' p = some (.dK kvs') → Tb H' kvs' (step1 row (m, amt, ρ) G j) → D.nx [some (.ref d), some (.ref a), some (.ref p), some (.int (m : Int)), some (.int amt), some (.ref l), some (.int (j : Int)), some (.int ((m ||| 2 ^ j : Nat) : Int)), some (.int (amt + row.getD j 0))] H') →
            sDPut (tVar 2) (tVar 7) (tTup (tCons (tVar 8) (tCons (tOp rCat (tVar 5) (tLst (tCons (tVar 6) tNil))) tNil))) D [some (.ref d), some (.ref a), some (.ref p), some (.int (m : Int)), some (.int amt), some (.ref l), some (.int (j : Int)), some (.int ((m ||| 2 ^ j : Nat) : Int)), some (.int (amt + row.getD j 0))] H7 := by
          intro H7 e7 es D hD
          have hl7 := ((hk3.trans e36).trans e7) _ _ h4
          refine g_tup ⟨_, rfl, el_catV (ys := [V.int (j : Int)]) (ev_var rfl) hl7 (el_lst (ea_cons (ev_var rfl) ea_nil) (by show 1 ≤ 100000; omega)) (by rw [List.length_map]; show ρ.length + 1 ≤ 100000; omega) H7 (Ex.refl H7) _ fun r H8 hr e8 h8 => ⟨sz_of (by show 2 ≤ 100000; omega), fun tp htp => ?_⟩⟩
          have et := Ex.new (o := .tup [V.int (amt + row.getD j 0), .ref r]) htp
          have e79 := e8.trans et
          have e69 := e7.trans e79
          have hp9 := e69 _ _ hp6
          refine ⟨_, rfl, _, rfl, p, _, rfl, DPut.k (k := .inl ((m ||| 2 ^ j : Nat) : Int)) hp9 (sz_lt (by omega)), hD (putK kvs3 (.inl ((m ||| 2 ^ j : Nat) : Int)) (.ref tp)) _ (Ex.mut (((hk3.trans e36).trans e69)) mp) ?_ upd_same ?_⟩
          · rw [upd_ne dp]
            exact e69 _ _ (e36 _ _ hd3)
          · rw [es]
            have nv2 : nv (ρ ++ [j]) = nv ρ ++ [V.int (j : Int)] := by
              show List.map _ _ = _
              rw [List.map_append]
              rfl
            have := tb_put (m := m ||| 2 ^ j) (v := (amt + row.getD j 0, ρ ++ [j])) (a := tp) (l := r) (hT6.mono e69) (upd_same : upd H8 tp (.tup [V.int (amt + row.getD j 0), .ref r]) tp = _) (by rw [nv2]; exact et _ _ h8) (Ex.refl _)
            exact Paired.mapP this fun _ _ ⟨h1, a, l, h2, h3, h4⟩ => ⟨h1, a, l, h2, by rw [upd_ne (ne_of h3 hp9 (by intro z; cases z))]; exact h3, by rw [upd_ne (ne_of h4 hp9 (by intro z; cases z))]; exact h4⟩
        have keep : ∀ H7, Ex H6 H7 → step1 row (m, amt, ρ) G j = G → Ex Hm H7 ∧ H7 d = some (.frz od (.dK kvs)) ∧ H7 p = some (.dK kvs3) ∧ Tb H7 kvs3 (step1 row (m, amt, ρ) G j) := fun H7 e7 es => by
          rw [es]
          exact ⟨(hk3.trans e36).trans e7, e7 _ _ (e36 _ _ hd3), e7 _ _ hp6, hT6.mono e7⟩
        cases hL : lookT G (m ||| 2 ^ j) with
        | none =>
          have es : step1 row (m, amt, ρ) G j = putT G (m ||| 2 ^ j) (amt + row.getD j 0, ρ ++ [j]) := by
            unfold step1
            rw [if_neg (by rw [hb]; decide), hL]
          have hvn := tb_none hT6 hL
          refine s_when (b := true) (et_is (et_or (a := true) (b := true) (et_B (ev_is (ev_dnin (ev_var rfl) (ev_var rfl) hp6) (by rw [hvn]; rfl))) fun z => by cases z) rfl) (fun _ H7 e7 => put H7 e7 es _ fun kvs' H' a1 a2 a3 a4 => ⟨kvs', _, _, _, rfl, a1, a2, a3, a4⟩) fun z => by cases z
        | some v =>
          obtain ⟨b2, l2, hv, hb2, hl2⟩ := (tb_val hT6).2 v hL
          refine s_when (b := decide (v.1 < amt + row.getD j 0)) (et_is (et_or (a := false) (b := decide (v.1 < amt + row.getD j 0)) (et_B (ev_is (ev_dnin (ev_var rfl) (ev_var rfl) hp6) (by rw [hv]; rfl))) fun _ => et_test (ev_op (ev_var rfl) (ev_op (ev_dget (ev_var rfl) (ev_var rfl) hp6 hv) ev_c (rv_ixT (st_of hb2) rfl)) rv_I0)) rfl) (fun h H7 e7 => put H7 e7 ?_ _ fun kvs' H' a1 a2 a3 a4 => ⟨kvs', _, _, _, rfl, a1, a2, a3, a4⟩) fun h H7 e7 => ?_
          · unfold step1
            rw [if_neg (by rw [hb]; decide), hL]
            exact if_pos (of_decide_eq_true h)
          · obtain ⟨a1, a2, a3, a4⟩ := keep H7 e7 (by
              unfold step1
              rw [if_neg (by rw [hb]; decide), hL]
              exact if_neg (of_decide_eq_false h))
            exact ⟨kvs3, _, _, _, rfl, a1, a2, a3, a4⟩
      · have hs1 : step1 row (m, amt, ρ) G j = G := by
          have hb : m.testBit j = true := by cases z : m.testBit j with | true => rfl | false => (rw [z] at hb; cases hb)
          unfold step1
          rw [if_pos hb]
        rw [hs1]
        exact ⟨kvs3, _, z7, z8, rfl, hk3.trans e4, e4 _ _ hd3, e4 _ _ hp3, hT3.mono e4⟩
    · rintro σ' H3 ⟨kvs3, z6, z7, z8, rfl, hk3, hd3, hp3, hT3⟩
      rw [Int.toNat_natCast] at hT3
      exact ⟨kvs3, _, _, _, z6, z7, z8, rfl, hk3, hd3, hp3, hT3⟩
  · rintro σ' H' ⟨kvs', z3, z4, z5, z6, z7, z8, rfl, hk, hd', hp', hT'⟩
    rw [hlen, List.take_length] at hT'
    refine ⟨hd', ?_⟩
    have ef : Ex H (upd H' d (.dK kvs)) := fun b o h => by
      by_cases z : b = d
      · rw [z, upd_same]
        rw [z, hd] at h
        exact h
      · rw [upd_ne z]
        refine hk _ _ ?_
        rw [← hHm, msk_at fun m => z (List.mem_singleton.mp m)]
        exact h
    have hu : upd H' d (.dK kvs) p = some (.dK kvs') := by rw [upd_ne fun z => dp z.symm]; exact hp'
    have hTu : Tb (upd H' d (.dK kvs)) kvs' (oneMore t row) := Paired.mapP hT' fun _ _ ⟨h1, a, l, h2, h3, h4⟩ =>
      ⟨h1, a, l, h2, by rw [upd_ne (ne_of h3 hd' (by intro z; cases z))]; exact h3, by rw [upd_ne (ne_of h4 hd' (by intro z; cases z))]; exact h4⟩
    refine s_ret (ev_var rfl) fun H2 e2 => q p kvs' H2 hp (ef.trans e2) (e2 _ _ hu) (hTu.mono e2)
end
/-! ### best_rooms -/
abbrev s_best_rooms : Stmt := topS 17
theorem sc_best_rooms : FnScope ["rows", "best", "row", "every_room", "_", "rooms"] ["rows"] (defScope s_best_rooms) := ⟨rfl, rfl, rfl, by decide +kernel, rfl, by decide +kernel, by decide +kernel⟩
def sp_best_rooms (K : PySem.W.Frag) : Sp := sp1 fun x H Q => ∃ (a : Addr) (rows : List (List Int)), x = .ref a ∧ LL K H a rows ∧ rows.length ≤ 9 ∧ (∀ r ∈ rows, r.length = rows.length) ∧
  ∀ l H2, Ex H H2 → H2 l = some (.lst (nv (roomsM rows))) → Q (.ref l) H2
section
variable {P : Program} {w : World} {K : PySem.W.Frag} {mg : Str → Option Value} {base : Heap}
theorem ok_best_rooms (D : DnX K mg "best_rooms" s_best_rooms ["rows"]) (B : Bt mg) (h_with_one_more : Ok P w K mg base CX0 1 "with_one_more" ["best", "row"] (sp_with_one_more K)) : Ok P w K mg base CX0 2 "best_rooms" ["rows"] (sp_best_rooms K) := by
  refine ok_of D sc_best_rooms (fun vs H Q E h => by obtain ⟨_, rfl, _⟩ := h; rfl) (fun f cdv A outer s H vs Q E hr h => ⟨_, (pss_cons (ps_set (i := 1) sc_best_rooms.nd rfl (Or.inl rfl) (pe_disp (pps_cons pe_int (pe_tup (pa_cons pe_int (pa_cons (pe_lst pa_nil) pa_nil))) pps_nil) rfl rfl (by intro z; cases z) (by decide)))
      (pss_cons (ps_for PassesOwn.never rfl (pi_listK (K := K) (pv 0)) (pg_name (i := 2) sc_best_rooms.nd rfl (Or.inl rfl))
        (pss_one (ps_set (i := 1) sc_best_rooms.nd rfl (Or.inl rfl) (pe_ok h_with_one_more hr (by rfl) pass0 (pa_cons (pv 1) (pa_cons (pv 2) pa_nil))))))
      (pss_cons (ps_set (i := 3) sc_best_rooms.nd rfl (Or.inl rfl) (pe_op op_sub (pe_op op_shl pe_int (pe_callB (lenK (K := K)) (by rfl) B.len PySem.boot_len (pa_cons (pv 0) pa_nil))) pe_int))
      (pss_cons (ps_asg (pe_dget (u1 hr.units) (pv 1) (pv 3) (fun _ _ => rfl)) (pg_tupK (K := K) (n := 2) rfl (pgs_cons (pg_name (i := 4) sc_best_rooms.nd rfl (Or.inl rfl)) (pgs_cons (pg_name (i := 5) sc_best_rooms.nd rfl (Or.inl rfl)) pgs_nil))))
      (pss_one (ps_ret (pv 5))))))), ?_⟩)
  obtain ⟨x, rfl, a, rows, rfl, hA, h9, hl, q⟩ := h
  have ll : (iv rows).length = rows.length := List.length_map _
  refine q_set fun p hp => ?_
  refine ⟨by show 0 ≤ sizeLine; decide, fun l hlf => ⟨sz_of (by show 2 ≤ 100000; omega), fun t ht => ?_⟩⟩
  have e1 := Ex.new (o := .dK []) hp
  have e2 := Ex.new (o := .lst []) hlf
  have e3 := Ex.new (o := .tup [V.int 0, .ref l]) ht
  have hp3 := e3 _ _ (e2 _ _ (upd_same : upd H p (.dK []) p = _))
  refine ⟨hp3, [(.inl 0, .ref t)], rfl, by show 1 ≤ 15; omega, ?_⟩
  have T0 : Tb (upd (upd (upd (upd H p (.dK [])) l (.lst [])) t (.tup [V.int 0, .ref l])) p (.dK [(.inl 0, .ref t)])) [(.inl 0, .ref t)] [(0, (0, []))] := by
    have tp : t ≠ p := fun z => by
      rw [z, e2 _ _ (upd_same : upd H p (.dK []) p = _)] at ht
      cases ht
    have lp : l ≠ p := fun z => by
      rw [z, upd_same] at hlf
      cases hlf
    refine .cons ⟨rfl, t, l, rfl, by rw [upd_ne tp, upd_same], ?_⟩ .nil
    rw [upd_ne lp]
    exact e3 _ _ upd_same
  have eM : mergeK [] [((.inl 0 : Key), V.ref t)] = [(.inl 0, .ref t)] := rfl
  rw [eM]
  have E0 : Ex H (upd (upd (upd (upd H p (.dK [])) l (.lst [])) t (.tup [V.int 0, .ref l])) p (.dK [(.inl 0, .ref t)])) := Ex.mut ((e1.trans e2).trans e3) hp
  have P0 : upd (upd (upd (upd H p (.dK [])) l (.lst [])) t (.tup [V.int 0, .ref l])) p (.dK [(.inl 0, .ref t)]) p = some (.dK [(.inl 0, .ref t)]) := upd_same
  generalize upd (upd (upd (upd H p (.dK [])) l (.lst [])) t (.tup [V.int 0, .ref l])) p (.dK [(.inl 0, .ref t)]) = H1 at T0 E0 P0
  obtain ⟨as, hAs, hAl, hAa⟩ := id hA
  have hok := fun k hk => bestT_ok (rows := rows) (n := rows.length) hl k hk
  refine q_forLn (ev_var rfl) (ex_l E0 hAs) (fun i σ' H' => ∃ d kvs z, σ' = [some (.ref a), some (.ref d), z, none, none, none] ∧ Ex H H' ∧ H' d = some (.dK kvs) ∧ Tb H' kvs (bestT (rows.take i))) (fun H2 e2 => ⟨p, _, none, rfl, E0.trans e2, e2 _ _ P0, T0.mono e2⟩) (fun i σ' H' _ h => by obtain ⟨_, _, _, _, e, _⟩ := h; exact ex_l e hAs) ?_ ?_
  · rintro i x σ' H' hi ⟨d, kvs, z, rfl, ex, hd, hT⟩
    rw [List.getElem?_map] at hi
    cases ei : as[i]? with
    | none =>
      rw [ei] at hi
      cases hi
    | some r =>
      rw [ei] at hi
      obtain rfl : V.ref r = x := Option.some.inj hi
      have hil : i < rows.length := by
        have := (List.getElem?_eq_some_iff.mp ei).1
        omega
      have hs := hAa i r _ ei (by rw [List.getElem?_map, List.getElem?_eq_getElem hil]; rfl)
      have hlr := hl _ (List.getElem_mem hil)
      have ok := hok i (by omega)
      have eb : bestT (rows.take (i + 1)) = oneMore (bestT (rows.take i)) rows[i] := by
        unfold bestT
        rw [List.take_add_one, List.getElem?_eq_getElem hil, List.foldl_append]
        rfl
      refine g_set (g_call (ea_cons (ev_var rfl) (ea_cons (ev_var rfl) ea_nil) H' (Ex.refl _) _ fun H2 e2 => ?_))
      refine ⟨_, _, rfl, d, r, kvs, _, rows[i], rfl, rfl, e2 _ _ hd, hT.mono e2, ex_l (ex.trans e2) hs, by omega, fun e he => ?_, fun p2 kvs2 H3 hp2 e3 h3 hT3 => ?_⟩
      · have g := ok.good e he
        refine ⟨Nat.lt_of_lt_of_le (key_lt g) (Nat.pow_le_pow_right (by decide) h9), ?_⟩
        rw [g.way.len]
        omega
      · rw [← eb] at hT3
        exact ⟨p2, kvs2, _, rfl, (ex.trans e2).trans e3, h3, hT3⟩
  · rintro σ' H' ⟨d, kvs, z, rfl, ex, hd, hT⟩
    rw [List.length_map, hAl, ll, List.take_length] at hT
    obtain ⟨v, hv, hw, _⟩ := best_at (rows := rows) (n := rows.length) hl rfl
    have er : roomsM rows = v.2 := by
      unfold roomsM
      rw [hv]
      rfl
    rw [er] at q
    refine q_asg (v := .int ((2 ^ rows.length - 1 : Nat) : Int)) (ev_is (ev_op (ev_op ev_c (ev_lenLL (hA.mono ex) (ev_var rfl)) (rv_I ⟨by omega, by rw [ll]; omega, by decide⟩)) ev_c rv_I0) ?_) fun H2 e2 => ?_
    · rw [ll, shl_pow]
      have : 1 ≤ 2 ^ rows.length := Nat.one_le_two_pow
      congr 1
      omega
    · obtain ⟨t2, l2, hk, ht2, hl2⟩ := (tb_val hT).2 v hv
      refine g_seq (ev_dget (ev_var rfl) (ev_var rfl) (e2 _ _ hd) hk H2 (Ex.refl _) _ fun H3 e3 => ?_)
      have e23 := e2.trans e3
      refine ⟨t2, _, rfl, st_of (e23 _ _ ht2), rfl, _, _, rfl, _, _, rfl, rfl, ?_⟩
      exact s_ret (ev_var rfl) fun H4 e4 => q l2 H4 ((ex.trans e23).trans e4) ((e23.trans e4) _ _ hl2)
end
/-! ### prices -/
abbrev s_prices : Stmt := topS 19
theorem sc_prices : FnScope ["rows", "rooms", "paid", "_", "person", "other", "dearer", "row"] ["rows", "rooms"] (defScope s_prices) := ⟨rfl, rfl, rfl, by decide +kernel, rfl, by decide +kernel, by decide +kernel⟩
def sp_prices (K : PySem.W.Frag) : Sp := sp2 fun x y H Q => ∃ (a b : Addr) (rows : List (List Int)) (ρ : List Nat), x = .ref a ∧ y = .ref b ∧ LL K H a rows ∧ SqL K H b (nv ρ) ∧ rows.length ≤ 9 ∧ (∀ r ∈ rows, r.length = rows.length) ∧ ρ.length = rows.length ∧ (∀ x ∈ ρ, x < rows.length) ∧
  RetL ((roundsM (dOf (rAt rows) fun i => ρ.getD i 0) rows.length rows.length).map V.int) H Q
section
variable {P : Program} {w : World} {K : PySem.W.Frag} {mg : Str → Option Value} {base : Heap}
theorem ok_prices (D : DnX K mg "prices" s_prices ["rows", "rooms"]) (B : Bt mg) : Ok P w K mg base CX0 1 "prices" ["rows", "rooms"] (sp_prices K) := by
  refine ok_of D sc_prices (fun vs H Q E h => by obtain ⟨_, _, rfl, _⟩ := h; rfl) (fun f cdv A outer s H vs Q E hr h => ⟨_, (pss_cons (ps_setLc (own := [("row", 7)]) (i := 2) rfl sc_prices.nd rfl rfl (sw_true rfl rfl rfl (by decide +kernel))  (pi_listK (K := K) (pv 0)) (blkOk_by (own := [("row", 7)]) (N := ["rows", "rooms", "paid", "_", "person", "other", "dearer", "row"]) (sc := (defScope s_prices)) (by decide +kernel)) (fun _ _ _ _ _ => (pg_name (i := 7) sc_prices.nd rfl (Or.inl rfl))) (fun _ _ _ _ _ => pts_nil) (fun _ _ _ _ _ => pe_int))
      (pss_cons (ps_for PassesOwn.never rfl (pi_range1 (by rfl) B.range (pa_cons (pe_callB (lenK (K := K)) (by rfl) B.len PySem.boot_len (pa_cons (pv 0) pa_nil)) pa_nil)) (pg_name (i := 3) sc_prices.nd rfl (Or.inl rfl))
        (pss_one (ps_for PassesOwn.never rfl (pi_range1 (by rfl) B.range (pa_cons (pe_callB (lenK (K := K)) (by rfl) B.len PySem.boot_len (pa_cons (pv 0) pa_nil)) pa_nil)) (pg_name (i := 4) sc_prices.nd rfl (Or.inl rfl))
          (pss_one (ps_for PassesOwn.never rfl (pi_range1 (by rfl) B.range (pa_cons (pe_callB (lenK (K := K)) (by rfl) B.len PySem.boot_len (pa_cons (pv 0) pa_nil)) pa_nil)) (pg_name (i := 5) sc_prices.nd rfl (Or.inl rfl))
            (pss_cons (ps_set (i := 6) sc_prices.nd rfl (Or.inl rfl) (pe_op op_sub (pe_ix (ixL (K := K)) (pe_ix (ixL (K := K)) (pv 0) (pv 4) (fun _ _ => rfl)) (pe_ix (ixL (K := K)) (pv 1) (pv 5) (fun _ _ => rfl)) (fun _ _ => rfl)) (pe_ix (ixL (K := K)) (pe_ix (ixL (K := K)) (pv 0) (pv 4) (fun _ _ => rfl)) (pe_ix (ixL (K := K)) (pv 1) (pv 4) (fun _ _ => rfl)) (fun _ _ => rfl))))
            (pss_one (ps_asg (pe_callB (call_max2 rfl) (by rfl) B.max (by decide +kernel) (pa_cons (pe_ix (ixL (K := K)) (pv 2) (pv 5) (fun _ _ => rfl)) (pa_cons (pe_op op_add (pe_ix (ixL (K := K)) (pv 2) (pv 4) (fun _ _ => rfl)) (pv 6)) pa_nil))) (pg_sub (pv 2) (pv 5) set_list)))))))))
      (pss_one (ps_ret (pv 2))))), ?_⟩)
  obtain ⟨x, y, rfl, a, b, rows, ρ, rfl, rfl, hA, hB, h9, hl, hρ, hlt, q⟩ := h
  have ll : (iv rows).length = rows.length := List.length_map _
  generalize hd : dOf (rAt rows) (fun i => ρ.getD i 0) = d at q
  refine q_asgL (xs := (List.replicate rows.length (0 : Int)).map V.int) ?_ fun p H1 hp e1 h1 => ?_
  · have h := el_rows (K := K) (σ := [some (.ref a), some (.ref b), none, none, none, none, none, none]) (H := H) (te := tC (.int 0)) (tl := tVar 0) (j := 7) (vs := [7]) (rows := rows) (fun _ => .int 0) (ev_var rfl) hA (by omega) (fun _ => rfl) fun i p H1 hi hs e1 => ev_c
    have e : (List.replicate rows.length (0 : Int)).map V.int = rows.map fun _ => V.int 0 := by
      rw [List.map_replicate, List.map_const']
    rw [e]
    exact h
  have hlen := rounds_len d rows.length
  refine q_forR1 (n := rows.length) (ea_cons (ev_is (ev_lenLL (hA.mono e1) (ev_var rfl)) (by rw [ll])) ea_nil) ⟨by omega, by omega⟩ (fun i σ' H' => ∃ z3 z4 z5 z6, σ' = [some (.ref a), some (.ref b), some (.ref p), z3, z4, z5, z6, none] ∧ Ex H H' ∧ H' p = some (.lst ((roundsM d rows.length i).map V.int))) (fun H2 e2 => ⟨none, none, none, none, rfl, e1.trans e2, e2 _ _ h1⟩) ?_ ?_
  · rintro i σ' H' hi ⟨z3, z4, z5, z6, rfl, ex, hp'⟩
    have hli := hlen i
    refine s_forR1 (n := rows.length) (ea_cons (ev_is (ev_lenLL (hA.mono ex) (ev_var rfl)) (by rw [ll])) ea_nil) ⟨by omega, by omega⟩ (fun j σ' H' => ∃ z4 z5 z6, σ' = [some (.ref a), some (.ref b), some (.ref p), some (.int (i : Int)), z4, z5, z6, none] ∧ Ex H H' ∧ H' p = some (.lst ((sweepP d rows.length (roundsM d rows.length i) j).map V.int))) (fun H2 e2 => ⟨_, _, _, rfl, ex.trans e2, e2 _ _ hp'⟩) ?_ ?_
    · rintro j σ' H2 hj ⟨z4, z5, z6, rfl, ex2, hp2⟩
      have hlj : (sweepP d rows.length (roundsM d rows.length i) j).length = rows.length := by rw [← (sweepP_le d rows.length (roundsM d rows.length i) j).1]; exact hli
      show tFor _ _ _ { nx := fun σ' H' => ∃ z4 z5 z6, σ' = [some (V.ref a), some (.ref b), some (.ref p), some (.int (i : Int)), z4, z5, z6, none] ∧ Ex H H' ∧ H' p = some (.lst ((sweepO d j (sweepP d rows.length (roundsM d rows.length i) j) rows.length).map V.int)), rt := _, bk := _, ct := _ } _ _
      generalize sweepP d rows.length (roundsM d rows.length i) j = P0 at hp2 hlj
      have hj : j < rows.length := by omega
      refine s_forR1 (n := rows.length) (ea_cons (ev_is (ev_lenLL (hA.mono ex2) (ev_var rfl)) (by rw [ll])) ea_nil) ⟨by omega, by omega⟩ (fun k σ' H' => ∃ z5 z6, σ' = [some (.ref a), some (.ref b), some (.ref p), some (.int (i : Int)), some (.int (j : Int)), z5, z6, none] ∧ Ex H H' ∧ H' p = some (.lst ((sweepO d j P0 k).map V.int))) (fun H3 e3 => ⟨_, _, rfl, ex2.trans e3, e3 _ _ hp2⟩) ?_ ?_
      · rintro k σ' H3 hk ⟨z5, z6, rfl, ex3, hp3⟩
        have hk : k < rows.length := by omega
        have hlk : (sweepO d j P0 k).length = rows.length := by rw [← (sweepO_le d j P0 k).1]; exact hlj
        generalize hsw : sweepO d j P0 k = P1 at hp3 hlk
        have ho : (rows.getD j []).length = rows.length := by
          have e : rows.getD j [] = rows[j] := by simp [List.getD_eq_getElem?_getD, hj]
          rw [e]
          exact hl _ (List.getElem_mem hj)
        have hr : ∀ k, k < rows.length → ρ.getD k 0 < rows.length := fun k hk => by
          have h : k < ρ.length := by omega
          have e : ρ.getD k 0 = ρ[k] := by simp [List.getD_eq_getElem?_getD, h]
          rw [e]
          exact hlt _ (List.getElem_mem h)
        have hB3 := ex_l ex3 hB
        refine q_asg (v := .int (d j k)) (ev_is (ev_op (ev_cell2 (hA.mono ex3) hB3 hj (k := k) (by omega) (by rw [ho]; exact hr k hk) (ev_var rfl) (ev_var rfl) (ev_var rfl) (ev_var rfl)) (ev_cell2 (hA.mono ex3) hB3 hj (k := j) (by omega) (by rw [ho]; exact hr j hj) (ev_var rfl) (ev_var rfl) (ev_var rfl) (ev_var rfl)) rv_I0) (by rw [← hd]; rfl)) fun H4 e4 => ?_
        refine s_setL (j := k) (v := .int (if P1.getD j 0 + d j k > P1.getD k 0 then P1.getD j 0 + d j k else P1.getD k 0)) (e4 _ _ hp3) (ev_max2 (ev_op (ev_var rfl) (ev_var rfl) (rv_ixL (sq_of (e4 _ _ hp3)) (at_ints (i := (k : Int)) (by omega) (by omega)))) (ev_op (ev_op (ev_var rfl) (ev_var rfl) (rv_ixL (sq_of (e4 _ _ hp3)) (at_ints (i := (j : Int)) (by omega) (by omega)))) (ev_var rfl) rv_I0)) (ev_var rfl) (ev_var rfl) (by rw [List.length_map]; omega) fun H5 e5 => ?_
        refine ⟨_, _, rfl, Ex.mut (ex3.trans (e4.trans e5)) hp, ?_⟩
        rw [upd_same, ← List.map_set]
        show _ = some (HO.lst ((relax d (sweepO d j P0 k) j k).map V.int))
        rw [hsw]
        rfl
      · rintro σ' H3 ⟨z5, z6, rfl, ex3, hp3⟩
        rw [Int.toNat_natCast] at hp3
        exact ⟨_, z5, z6, rfl, ex3, hp3⟩
    · rintro σ' H2 ⟨z4, z5, z6, rfl, ex2, hp2⟩
      rw [Int.toNat_natCast] at hp2
      exact ⟨_, z4, z5, z6, rfl, ex2, hp2⟩
  · rintro σ' H' ⟨z3, z4, z5, z6, rfl, ex, hp'⟩
    rw [Int.toNat_natCast] at hp'
    refine s_ret (ev_var rfl) fun H2 e2 => q p H2 hp (ex.trans e2) (e2 _ _ hp')
end
/-! ### in_rooms -/
abbrev s_in_rooms : Stmt := topS 16
theorem sc_in_rooms : FnScope ["bids", "people", "goods", "rows", "rooms", "paid", "heaps", "sums", "row", "room", "price"] ["bids"] (defScope s_in_rooms) := ⟨rfl, rfl, rfl, by decide +kernel, rfl, by decide +kernel, by decide +kernel⟩
def sp_in_rooms (K : PySem.W.Frag) : Sp := sp1 fun x H Q => ∃ (a : Addr) (rows : List (List Int)) (m : Nat), x = .ref a ∧ TV H a (iv rows) ∧ Bids rows m ∧ m ≤ rows.length ∧ ∀ p hp sp hps H2, DNew H H2 p hp sp hps (heapsR rows m) (payR rows m) → Ex H H2 → Q (.ref p) H2
section
variable {P : Program} {w : World} {K : PySem.W.Frag} {mg : Str → Option Value} {base : Heap}
theorem ok_in_rooms (D : DnX K mg "in_rooms" s_in_rooms ["bids"]) (B : Bt mg) (h_check_bids : Ok P w K mg base CX0 4 "check_bids" ["bids"] (sp_check_bids K)) (h_best_rooms : Ok P w K mg base CX0 2 "best_rooms" ["rows"] (sp_best_rooms K)) (h_prices : Ok P w K mg base CX0 1 "prices" ["rows", "rooms"] (sp_prices K)) : Ok P w K mg base CX0 5 "in_rooms" ["bids"] (sp_in_rooms K) := by
  refine ok_of D sc_in_rooms (fun vs H Q E h => by obtain ⟨_, rfl, _⟩ := h; rfl) (fun f cdv A outer s H vs Q E hr h => ⟨_, (pss_cons (ps_expr (pe_ok h_check_bids hr (by rfl) pass0 (pa_cons (pv 0) pa_nil)))
      (pss_cons (ps_set (i := 1) sc_in_rooms.nd rfl (Or.inr rfl) (pe_callB (lenK (K := K)) (by rfl) B.len PySem.boot_len (pa_cons (pv 0) pa_nil)))
      (pss_cons (ps_set (i := 2) sc_in_rooms.nd rfl (Or.inr rfl) (pe_callB (lenK (K := K)) (by rfl) B.len PySem.boot_len (pa_cons (pe_ix (ixL (K := K)) (pv 0) pe_int (fun _ _ => rfl)) pa_nil)))
      (pss_cons (ps_if (pt_cmpR op_gt (pv 2) (pv 1) (nomark _))
        (pss_one ps_never)
        pss_nil)
      (pss_cons (ps_setLc (own := [("row", 8)]) (i := 3) rfl sc_in_rooms.nd rfl rfl (sw_true rfl rfl rfl (by decide +kernel))  (pi_listK (K := K) (pv 0)) (blkOk_by (own := [("row", 8)]) (N := ["bids", "people", "goods", "rows", "rooms", "paid", "heaps", "sums", "row", "room", "price"]) (sc := (defScope s_in_rooms)) (by decide +kernel)) (fun _ _ _ _ _ => (pg_name (i := 8) sc_in_rooms.nd rfl (Or.inl rfl))) (fun _ _ _ _ _ => pts_nil) (fun _ _ _ _ _ => (pe_op op_cat (pv 8) (pe_op op_rep (pe_lst (pa_cons pe_int pa_nil)) (pe_op op_sub (pv 1) (pv 2))))))
      (pss_cons (ps_set (i := 4) sc_in_rooms.nd rfl (Or.inl rfl) (pe_ok h_best_rooms (hr.mono (by decide)) (by rfl) pass0 (pa_cons (pv 3) pa_nil)))
      (pss_cons (ps_set (i := 5) sc_in_rooms.nd rfl (Or.inr rfl) (pe_ok h_prices (hr.mono (by decide)) (by rfl) pass0 (pa_cons (pv 3) (pa_cons (pv 4) pa_nil))))
      (pss_cons (ps_setLc (own := [("room", 9)]) (i := 6) rfl sc_in_rooms.nd rfl rfl (sw_true rfl rfl rfl (by decide +kernel))  (pi_listK (K := K) (pv 4)) (blkOk_by (own := [("room", 9)]) (N := ["bids", "people", "goods", "rows", "rooms", "paid", "heaps", "sums", "row", "room", "price"]) (sc := (defScope s_in_rooms)) (by decide +kernel)) (fun _ _ _ _ _ => (pg_name (i := 9) sc_in_rooms.nd rfl (Or.inl rfl))) (fun _ _ _ _ _ => pts_nil) (fun _ _ _ _ _ => (pe_ifExp (pt_cmpR op_lt (pv 9) (pv 2) (nomark _)) (pe_lst (pa_cons (pv 9) pa_nil)) (pe_lst pa_nil))))
      (pss_cons (ps_setLc (own := [("price", 10)]) (i := 7) rfl sc_in_rooms.nd rfl rfl (sw_true rfl rfl rfl (by decide +kernel))  (pi_listK (K := K) (pv 5)) (blkOk_by (own := [("price", 10)]) (N := ["bids", "people", "goods", "rows", "rooms", "paid", "heaps", "sums", "row", "room", "price"]) (sc := (defScope s_in_rooms)) (by decide +kernel)) (fun _ _ _ _ _ => (pg_name (i := 10) sc_in_rooms.nd rfl (Or.inl rfl))) (fun _ _ _ _ _ => pts_nil) (fun _ _ _ _ _ => (pe_op op_sub (pe_op op_mul (pv 10) (pv 1)) (pe_callB (sumK (K := K) rfl) (by rfl) B.sum (by decide +kernel) (pa_cons (pv 5) pa_nil)))))
      (pss_one (ps_ret (pe_tup (pa_cons (pv 6) (pa_cons (pv 7) pa_nil)))))))))))))), ?_⟩)
  obtain ⟨x, rfl, a, rows, m, rfl, hT, hb, hm, q⟩ := h
  have ll : (iv rows).length = rows.length := List.length_map _
  have l9 := hb.l9
  have hne := hb.ne
  have hA : ∀ {H'}, Ex H H' → LL K H' a rows := fun e => (hT.mono e).lv
  refine q_drop (v := .non) (ev_call (ea_cons (ev_var rfl) ea_nil) fun H2 e2 Q q E => ⟨_, rfl, a, rows, m, rfl, hA e2, hb, fun H3 e3 => q H3 e3⟩) fun H1 e1 => ?_
  refine q_asg (v := .int (rows.length : Int)) (ev_is (ev_lenLL (hA e1) (ev_var rfl)) (by rw [ll])) fun H2 e2 => ?_
  have e12 := e1.trans e2
  obtain ⟨q0, hq0, hs0⟩ := ev_row (σ := [some (.ref a), some (.int (rows.length : Int)), none, none, none, none, none, none, none, none, none]) (ta := tVar 0) (tb := tC (.int 0)) (i := 0) (hA e12) hne (ev_var rfl) ev_c
  refine q_asg (v := .int (m : Int)) (ev_is (ev_lenI hs0 hq0) (by rw [hb.at_ hne])) fun H3 e3 => ?_
  have e13 := e12.trans e3
  refine q_when (b := false) (et_is (et_test (ev_op (ev_var rfl) (ev_var rfl) rv_I0)) (decide_eq_false (by omega))) (fun h => nomatch h) fun _ H4 e4 => ?_
  have e14 := e13.trans e4
  obtain ⟨as, hAs, hAl, hAa⟩ := hT.mono e14
  refine q_asgN (ys := iv (padM rows m)) (en_ys (xs := as) (enc := V.ref) (ev_var rfl) (sq_of hAs) (by omega) (by rw [List.length_map, pad_len]; omega) (fun _ => rfl) fun i x y H5 hi hy e5 => ?_) fun pp pps H5 L5 e5 => ?_
  · rw [List.getElem?_map] at hy
    have hil : i < rows.length := by
      have := (List.getElem?_eq_some_iff.mp hi).1
      omega
    unfold padM at hy
    rw [List.getElem?_map, List.getElem?_eq_getElem hil] at hy
    have ey : (rows[i] ++ List.replicate (rows.length - m) 0).map V.int = y := Option.some.inj hy
    rw [← ey, List.map_append]
    have hr := hAa i x _ hi (by rw [List.getElem?_map, List.getElem?_eq_getElem hil]; rfl)
    have hlr := hb.len _ (List.getElem_mem hil)
    refine el_catV (ev_var rfl) (e5 _ _ hr) (el_rep (g := rows.length - m) (ev_is (ev_op (ev_var rfl) (ev_var rfl) rv_I0) (by congr 1; omega)) (by omega)) (by rw [List.length_map, List.length_map, List.length_replicate]; omega)
  have hpl := pad_row hb.len hm
  have ok := rm_ok hb.len hm
  have hL : ∀ {H'}, Ex H5 H' → LL K H' pp (padM rows m) := fun e => (L5.ext e).lv
  refine q_set (g_call (ea_cons (ev_var rfl) ea_nil H5 (Ex.refl _) _ fun H6 e6 => ?_))
  refine ⟨_, rfl, pp, padM rows m, rfl, hL e6, by rw [pad_len]; omega, hpl, fun rl H7 e7 h7 => ?_⟩
  replace h7 : H7 rl = some (.lst (nv (rmOf rows m))) := h7
  have e57 := e6.trans e7
  refine q_asgL (xs := (paidM rows m).map V.int) (el_call (ea_cons (ev_var rfl) (ea_cons (ev_var rfl) ea_nil)) fun H8 e8 Q q E => ?_) fun dp H9 hdp e9 h9 => ?_
  · refine ⟨_, _, rfl, pp, rl, padM rows m, rmOf rows m, rfl, rfl, hL (e57.trans e8), sq_of (e8 _ _ h7), by rw [pad_len]; omega, hpl, by rw [pad_len, ok.way.len], fun x hx => by rw [pad_len]; exact ok.way.lt x hx, fun p H10 hp e10 h10 => q p H10 hp e10 ?_⟩
    rw [pad_len] at h10
    exact h10
  have hln := ok.way.len
  have hpd := paid_len rows m
  refine q_asgN (ys := iv (heapsR rows m)) (en_ys (xs := rmOf rows m) (enc := fun n : Nat => V.int (n : Int)) (ev_var rfl) (sq_of (e9 _ _ h7)) (by omega) (by rw [List.length_map]; unfold heapsR; rw [List.length_map]) (fun _ => rfl) fun i x y H10 hi hy e10 => ?_) fun hp hps H10 L10 e10 => ?_
  · unfold heapsR at hy
    rw [List.getElem?_map, List.getElem?_map, hi] at hy
    have ey : (if x < m then [(x : Int)] else []).map V.int = y := Option.some.inj hy
    subst ey
    refine el_if (b := decide (x < m)) (et_is (et_test (ev_op (ev_var rfl) (ev_var rfl) rv_I0)) (decide_eq_decide.mpr (by omega))) (fun h => ?_) fun h => ?_
    · rw [if_pos (of_decide_eq_true h)]
      exact el_lst (ea_cons (ev_var rfl) ea_nil) (by show 1 ≤ 100000; omega)
    · rw [if_neg (of_decide_eq_false h)]
      exact el_lst ea_nil (by decide)
  have e9x := e9.trans e10
  refine q_asgL (el_all (xs := paidM rows m) (enc := V.int) (fun z => .int (z * rows.length - (paidM rows m).sum)) (ev_var rfl) (sq_of (e10 _ _ h9)) (by omega) (fun _ => rfl) (fun z hz H11 e11 => ?_)) fun sp H11 hsp e11 hs => ?_
  · exact ev_op (ev_op (ev_var rfl) (ev_var rfl) (rv_I (mulR (by omega)))) (ev_cb (ea_cons (ev_var rfl) ea_nil) fun H12 e12 Q q => ⟨dp, _, rfl, sq_of ((e10.trans (e11.trans e12)) _ _ h9), q H12 (Ex.refl H12)⟩) rv_I0
  have e5x := (e57.trans e9).trans (e10.trans e11)
  have eHx := (e14.trans e5).trans e5x
  refine g_ret (g_tup ⟨.ref hp, rfl, .ref sp, rfl, sz_of (by show 2 ≤ 100000; omega), fun p hpn => ?_⟩)
  have x1 := Ex.new (o := .tup [V.ref hp, V.ref sp]) hpn
  have hs' : H11 sp = some (.lst ((payR rows m).map V.int)) := by
    rw [hs]
    unfold payR
    rw [List.map_map]
    rfl
  refine q p hp sp hps _ ⟨fresh_back eHx hpn, (L10.back ((e14.trans e5).trans (e57.trans e9))).ext (e11.trans x1), fresh_back (((e14.trans e5).trans (e57.trans e9)).trans e10) hsp, x1 _ _ hs', upd_same, fun mem => ?_⟩ (eHx.trans x1)
  obtain ⟨_, zs, hz⟩ := L10.out sp mem
  rw [hsp] at hz
  cases hz
end
/-! ### _law_dealt -/
abbrev s__law_dealt : Stmt := topS 38
theorem sc__law_dealt : FnScope ["_law_bids_here", "_law_rooms", "_law_row"] ["_law_bids_here", "_law_rooms"] (defScope s__law_dealt) := ⟨rfl, rfl, rfl, by decide +kernel, rfl, by decide +kernel, by decide +kernel⟩
def sp__law_dealt (K : PySem.W.Frag) : Sp := sp2 fun x y H Q => ∃ (a : Addr) (rows : List (List Int)) (m : Nat) (b : Bool), x = .ref a ∧ y = .bl b ∧ LL K H a rows ∧ Bids rows m ∧ (b = true → m ≤ rows.length) ∧ ∀ p hp sp hps hs ss H2, DNew H H2 p hp sp hps hs ss → FairD rows m hs ss → Ex H H2 → Q (.ref p) H2
section
variable {P : Program} {w : World} {K : PySem.W.Frag} {mg : Str → Option Value} {base : Heap}
theorem ok__law_dealt (D : DnX K mg "_law_dealt" s__law_dealt ["_law_bids_here", "_law_rooms"]) (B : Bt mg) (h_in_heaps : Ok P w K mg base CX0 5 "in_heaps" ["bids"] (sp_in_heaps K)) (h_in_rooms : Ok P w K mg base CX0 5 "in_rooms" ["bids"] (sp_in_rooms K)) : Ok P w K mg base CX0 6 "_law_dealt" ["_law_bids_here", "_law_rooms"] (sp__law_dealt K) := by
  refine ok_of D sc__law_dealt (fun vs H Q E h => by obtain ⟨_, _, rfl, _⟩ := h; rfl) (fun f cdv A outer s H vs Q E hr h => ⟨_, (pss_cons (ps_if (pt_val (pv 1))
        (pss_one (ps_ret (pe_ok h_in_rooms hr (by rfl) pass0 (pa_cons (pe_lc (own := [("_law_row", 2)]) rfl sc__law_dealt.nd  (pi_listK (K := K) (pv 0)) (blkOk_by (own := [("_law_row", 2)]) (N := ["_law_bids_here", "_law_rooms", "_law_row"]) (sc := (defScope s__law_dealt)) (by decide +kernel)) (fun _ _ _ _ _ => (pg_name (i := 2) sc__law_dealt.nd rfl (Or.inl rfl))) (fun _ _ _ _ _ => pts_nil) (fun _ _ _ _ _ => (pe_callTy (listK (K := K)) (by rfl) B.list (by decide +kernel) (pa_cons (pv 2) pa_nil)))) pa_nil))))
        pss_nil)
      (pss_one (ps_ret (pe_ok h_in_heaps hr (by rfl) pass0 (pa_cons (pe_lc (own := [("_law_row", 2)]) rfl sc__law_dealt.nd  (pi_listK (K := K) (pv 0)) (blkOk_by (own := [("_law_row", 2)]) (N := ["_law_bids_here", "_law_rooms", "_law_row"]) (sc := (defScope s__law_dealt)) (by decide +kernel)) (fun _ _ _ _ _ => (pg_name (i := 2) sc__law_dealt.nd rfl (Or.inl rfl))) (fun _ _ _ _ _ => pts_nil) (fun _ _ _ _ _ => (pe_callTy (listK (K := K)) (by rfl) B.list (by decide +kernel) (pa_cons (pv 2) pa_nil)))) pa_nil))))), ?_⟩)
  obtain ⟨x, y, rfl, a, rows, m, b, rfl, rfl, hA, hb, hbm, q⟩ := h
  have l9 := hb.l9
  have ll : (iv rows).length = rows.length := List.length_map _
  refine q_when (b := b) (et_B (ev_var rfl)) (fun h H1 e1 => ?_) fun _ H1 e1 => ?_
  · have hm := hbm h
    exact g_ret (g_call (g_cons (en_copy (ev_var rfl) (hA.mono e1) (by omega) (fun _ => rfl) (fun _ => rfl) H1 (Ex.refl _) _ fun b2 bs2 H5 Lw e5 => ⟨_, rfl, b2, rows, m, rfl, Lw.tv, hb, hm, fun p hp sp hps H6 Dd e6 => q p hp sp hps _ _ H6 (Dd.back (e1.trans e5)) (rooms_fairD hb hm) ((e1.trans e5).trans e6)⟩)))
  · exact g_ret (g_call (g_cons (en_copy (ev_var rfl) (hA.mono e1) (by omega) (fun _ => rfl) (fun _ => rfl) H1 (Ex.refl _) _ fun b2 bs2 H5 Lw e5 => ⟨_, rfl, b2, rows, m, rfl, Lw.lv, hb, fun p hp sp hps H6 Dd e6 => q p hp sp hps _ _ H6 (Dd.back (e1.trans e5)) (heaps_fairD hb) ((e1.trans e5).trans e6)⟩)))
end
/-! ### _law_draws -/
abbrev s__law_draws : Stmt := topS 29
theorem sc__law_draws : FnScope ["_law_cell_here", "_law_many", "_law_found", "_law_k"] ["_law_cell_here", "_law_many"] (defScope s__law_draws) := ⟨rfl, rfl, rfl, by decide +kernel, rfl, by decide +kernel, by decide +kernel⟩
def nextM (c : Int) : Int := (c * 48271 + 12345) % 2147483647
/-- the cell behind so many turns, and what was drawn -/
def drawnM (c : Int) : Nat → Int
  | 0 => c
  | n + 1 => nextM (drawnM c n)
def drawsM (c : Int) (n : Nat) : List Int := (List.range n).map fun i => drawnM c (i + 1) / 16
theorem drawsM_len (c : Int) (n : Nat) : (drawsM c n).length = n := by simp [drawsM]
theorem drawsM_nn (c : Int) (n : Nat) : ∀ x ∈ drawsM c n, 0 ≤ x := by
  intro x hx
  obtain ⟨i, _, rfl⟩ := List.mem_map.mp hx
  have h : 0 ≤ drawnM c (i + 1) := by
    show 0 ≤ nextM (drawnM c i)
    exact Int.emod_nonneg _ (by decide)
  omega
theorem drawsM_succ (c : Int) (n : Nat) : drawsM c (n + 1) = drawsM c n ++ [drawnM c (n + 1) / 16] := by
  simp [drawsM, List.range_succ]
def sp__law_draws (K : PySem.W.Frag) : Sp := sp2 fun x y H Q => ∃ (c : Int) (n : Nat), x = .int c ∧ y = .int n ∧ n ≤ 4000 ∧ RetL ((drawsM c n).map V.int) H Q
section
variable {P : Program} {w : World} {K : PySem.W.Frag} {mg : Str → Option Value} {base : Heap}
theorem ok__law_draws (D : DnX K mg "_law_draws" s__law_draws ["_law_cell_here", "_law_many"]) (B : Bt mg) : Ok P w K mg base CX0 1 "_law_draws" ["_law_cell_here", "_law_many"] (sp__law_draws K) := by
  refine ok_of D sc__law_draws (fun vs H Q E h => by obtain ⟨_, _, rfl, _⟩ := h; rfl) (fun f cdv A outer s H vs Q E hr h => ⟨_, (pss_cons (ps_set (i := 2) sc__law_draws.nd rfl (Or.inl rfl) (pe_lst pa_nil))
      (pss_cons (ps_for PassesOwn.never rfl (pi_range1 (by rfl) B.range (pa_cons (pv 1) pa_nil)) (pg_name (i := 3) sc__law_draws.nd rfl (Or.inl rfl))
        (pss_cons (ps_set (i := 0) sc__law_draws.nd rfl (Or.inl rfl) (pe_op op_mod (pe_op op_add (pe_op op_mul (pv 0) pe_int) pe_int) pe_int))
        (pss_one (ps_expr (pe_bm PySem.F.plainAttrs_list PySem.F.slot_list_append PySem.F.type_list_append mt_append (pv 2) (pa_cons (pe_op op_fdiv (pv 0) pe_int) pa_nil))))))
      (pss_one (ps_ret (pv 2))))), ?_⟩)
  obtain ⟨x, y, rfl, c, n, rfl, rfl, hn, q⟩ := h
  refine q_asgL (el_lst ea_nil (by decide)) fun l H1 hl e1 h1 => ?_
  refine q_forR1 (n := n) (ea_cons (ev_var rfl) ea_nil) ⟨by omega, by omega⟩ (fun i σ H' => ∃ z, σ = [some (.int (drawnM c i)), some (.int n), some (.ref l), z] ∧ Ex H H' ∧ H' l = some (.lst ((drawsM c i).map V.int))) (fun H2 e2 => ⟨none, rfl, e1.trans e2, e2 _ _ h1⟩) ?_ ?_
  · rintro i σ' H' hi ⟨z, rfl, e, hl'⟩
    refine q_asg (v := .int (drawnM c (i + 1))) (ev_op (ev_op (ev_op (ev_var rfl) ev_c (rv_I (mulR ⟨by decide, by decide⟩))) ev_c rv_I0) ev_c (rv_I (by show (0 : Int) < 2147483647; decide))) fun H2 e2 => ?_
    refine s_app (v := .int (drawnM c (i + 1) / 16)) (e2 _ _ hl') (ev_var rfl) (ev_op (ev_var rfl) ev_c (rv_I ⟨by decide, by decide⟩)) (by rw [List.length_map, drawsM_len]; omega) fun H3 e3 => ?_
    refine ⟨some (.int i), rfl, Ex.mut ((e.trans e2).trans e3) hl, ?_⟩
    rw [upd_same, drawsM_succ, List.map_append]
    rfl
  · rintro σ' H' ⟨z, rfl, e, hl'⟩
    exact s_ret (ev_var rfl) fun H2 e2 => q l H2 hl (e.trans e2) (e2 _ _ (by simpa using hl'))
end
/-! ### _law_whole -/
abbrev s__law_whole : Stmt := topS 27
theorem sc__law_whole : FnScope ["_law_found"] ["_law_found"] (defScope s__law_whole) := ⟨rfl, rfl, rfl, by decide +kernel, rfl, by decide +kernel, by decide +kernel⟩
def sp__law_whole (K : PySem.W.Frag) : Sp := spWhole
section
variable {P : Program} {w : World} {K : PySem.W.Frag} {mg : Str → Option Value} {base : Heap}
theorem ok__law_whole (D : DnX K mg "_law_whole" s__law_whole ["_law_found"]) (B : Bt mg) : Ok P w K mg base CX0 1 "_law_whole" ["_law_found"] (sp__law_whole K) := by
  refine ok_of D sc__law_whole (fun vs H Q E h => by obtain ⟨_, rfl, _⟩ := h; rfl) (fun f cdv A outer s H vs Q E hr h => ⟨_, (pss_one (ps_ret (pe_and (pe_callB (isiK (K := K)) (by rfl) B.isinstance (by decide +kernel) (pa_cons (pv 0) (pa_cons (pe_bltn (v := .ty "int") (by rfl) B.int (by decide +kernel) rfl) pa_nil))) (pe_one (pe_not (pe_callB (isiK (K := K)) (by rfl) B.isinstance (by decide +kernel) (pa_cons (pv 0) (pa_cons (pe_bltn (v := .ty "bool") (by rfl) B.bool (by decide +kernel) rfl) pa_nil)))))))), ?_⟩)
  obtain ⟨x, rfl, ha, q⟩ := h
  exact rd_whole ha q fun Q q => ⟨x, rfl, q⟩
end
/-! ### _law_heaps -/
abbrev s__law_heaps : Stmt := topS 34
theorem sc__law_heaps : FnScope ["_law_found", "_law_people_here", "_law_goods", "_law_seen", "_law_heap", "_law_good"] ["_law_found", "_law_people_here", "_law_goods"] (defScope s__law_heaps) := ⟨rfl, rfl, rfl, by decide +kernel, rfl, by decide +kernel, by decide +kernel⟩
def sp__law_heaps (K : PySem.W.Frag) : Sp := sp3 fun x y z H Q => ∃ (a : Addr) (yss : List (List V)) (n : Int) (g : Nat), x = .ref a ∧ y = .int n ∧ z = .int g ∧ TV H a yss ∧ (∀ y ∈ yss.flatten, Any H y) ∧ g ≤ 1000 ∧ RetV (.bl (heapsB yss n g)) H Q
section
variable {P : Program} {w : World} {K : PySem.W.Frag} {mg : Str → Option Value} {base : Heap}
theorem ok__law_heaps (D : DnX K mg "_law_heaps" s__law_heaps ["_law_found", "_law_people_here", "_law_goods"]) (B : Bt mg) (h__law_whole : Ok P w K mg base CX0 1 "_law_whole" ["_law_found"] (sp__law_whole K)) : Ok P w K mg base CX0 2 "_law_heaps" ["_law_found", "_law_people_here", "_law_goods"] (sp__law_heaps K) := by
  refine ok_of D sc__law_heaps (fun vs H Q E h => by obtain ⟨_, _, _, rfl, _⟩ := h; rfl) (fun f cdv A outer s H vs Q E hr h => ⟨_, (pss_cons (ps_if (PW.pt (pw_or (pt_not (pt_val (pe_callB (isiK (K := K)) (by rfl) B.isinstance (by decide +kernel) (pa_cons (pv 0) (pa_cons (pe_bltn (v := .ty "list") (by rfl) B.list (by decide +kernel) rfl) pa_nil))))) (pw_or1 (pt_cmpR op_ne (pe_callB (lenK (K := K)) (by rfl) B.len PySem.boot_len (pa_cons (pv 0) pa_nil)) (pv 1) (nomark _)))))
        (pss_one (ps_ret pe_bl))
        pss_nil)
      (pss_cons (ps_set (i := 3) sc__law_heaps.nd rfl (Or.inl rfl) (pe_op op_rep (pe_lst (pa_cons pe_int pa_nil)) (pv 2)))
      (pss_cons (ps_for PassesOwn.never rfl (pi_listK (K := K) (pv 0)) (pg_name (i := 4) sc__law_heaps.nd rfl (Or.inl rfl))
        (pss_cons (ps_if (pt_not (pt_val (pe_callB (isiK (K := K)) (by rfl) B.isinstance (by decide +kernel) (pa_cons (pv 4) (pa_cons (pe_bltn (v := .ty "list") (by rfl) B.list (by decide +kernel) rfl) pa_nil)))))
          (pss_one (ps_ret pe_bl))
          pss_nil)
        (pss_one (ps_for PassesOwn.never rfl (pi_listK (K := K) (pv 4)) (pg_name (i := 5) sc__law_heaps.nd rfl (Or.inl rfl))
          (pss_cons (ps_if (PW.pt (pw_or (pt_not (pt_val (pe_ok h__law_whole hr (by rfl) pass0 (pa_cons (pv 5) pa_nil)))) (pw_or (pt_cmpR op_lt (pv 5) pe_int (nomark _)) (pw_or1 (pt_cmpR op_ge (pv 5) (pv 2) (nomark _))))))
            (pss_one (ps_ret pe_bl))
            pss_nil)
          (pss_one (ps_asg (pe_op op_add (pe_ix (ixL (K := K)) (pv 3) (pv 5) (fun _ _ => rfl)) pe_int) (pg_sub (pv 3) (pv 5) set_list))))))))
      (pss_one (ps_ret (pe_cmpR (eqK (K := K) hr.units) (pv 3) (pe_op op_rep (pe_lst (pa_cons pe_int pa_nil)) (pv 2)) (nomark _))))))), ?_⟩)
  obtain ⟨x, y, z, rfl, a, yss, n, g, rfl, rfl, rfl, hT, hy, hg, q⟩ := h
  obtain ⟨ps, h1, h2, h3⟩ := hT
  refine q_when (et_or (a := false) (et_not (et_B (b := true) (ev_isList (ev_var rfl) h1))) fun _ => et_test (ev_op (ev_len (ev_var rfl) (sq_of h1)) (ev_var rfl) (rv_ne rfl))) (fun hb H1 e1 => ?_) fun hb H1 e1 => ?_
  · refine s_ret ev_c fun H2 e2 => ?_
    have e : heapsB yss n g = false := by
      unfold heapsB
      rw [decide_eq_false fun z => ?_]
      · rfl
      · rw [List.length_map, h2, z, decide_eq_true rfl] at hb
        cases hb
    rw [e] at q
    exact q H2 (e1.trans e2)
  have hn : (yss.length : Int) = n := by
    by_cases e : (yss.length : Int) = n
    · exact e
    · rw [List.length_map, h2, decide_eq_false fun z => e (V.int.inj z)] at hb
      cases hb
  refine q_asgL (el_rep (ev_var rfl) hg) fun s H2 hs e2 hs2 => ?_
  have e12 := e1.trans e2
  have hb0 : ∀ {k j : Nat} (hk : k < yss.length) (hj : j < (yss[k]'hk).length), (yss[k]'hk)[j]'hj ∈ yss.flatten := fun hk hj => List.mem_flatten.mpr ⟨_, List.getElem_mem hk, List.getElem_mem hj⟩
  have bad : yss.flatten.all (fun y => place y g) = false → ∀ H3, Ex H H3 → Q (.bl false) H3 := fun hbad H3 e3 => by
    have e : heapsB yss n g = false := by
      unfold heapsB
      rw [hbad]
      simp
    rw [e] at q
    exact q H3 e3
  refine q_forLn (ev_var rfl) (sq_of (e12 _ _ h1)) (fun i σ H' => ∃ z4 z5, σ = [some (.ref a), some (.int n), some (.int g), some (.ref s), z4, z5] ∧ Ex H H' ∧ H' s = some (.lst ((seenM (yss.take i).flatten g).map V.int)) ∧ (yss.take i).flatten.all (fun y => place y g) = true)
    (fun H3 e3 => ⟨none, none, rfl, e12.trans e3, by rw [List.take_zero, List.flatten_nil, seenM_nil]; exact e3 _ _ hs2, rfl⟩) (fun i σ' H' _ h => by obtain ⟨_, _, _, e, _⟩ := h; exact sq_of (e _ _ h1)) ?_ ?_
  · rintro i x σ' H' hi ⟨z4, z5, rfl, ex, hseen, hall⟩
    rw [List.getElem?_map] at hi
    cases ei : ps[i]? with
    | none =>
      rw [ei] at hi
      cases hi
    | some p =>
      rw [ei] at hi
      obtain rfl : V.ref p = x := Option.some.inj hi
      have hil : i < yss.length := by
        have := (List.getElem?_eq_some_iff.mp ei).1
        omega
      have hp := ex _ _ (h3 i p _ ei (List.getElem?_eq_getElem hil))
      refine q_when (b := false) (et_not (et_B (b := true) (ev_isList (ev_var rfl) hp))) (fun h => nomatch h) fun _ H3 e3 => ?_
      refine s_forLn (ev_var rfl) (sq_of (e3 _ _ hp)) (fun j σ H' => ∃ z5, σ = [some (.ref a), some (.int n), some (.int g), some (.ref s), some (.ref p), z5] ∧ Ex H H' ∧ H' s = some (.lst ((seenM ((yss.take i).flatten ++ yss[i].take j) g).map V.int)) ∧ ((yss.take i).flatten ++ yss[i].take j).all (fun y => place y g) = true)
        (fun H4 e4 => ⟨z5, rfl, (ex.trans e3).trans e4, by rw [List.take_zero, List.append_nil]; exact e4 _ _ (e3 _ _ hseen), by rw [List.take_zero, List.append_nil]; exact hall⟩) (fun j σ' H' _ h => by obtain ⟨_, _, e, _⟩ := h; exact sq_of (e _ _ (h3 i p _ ei (List.getElem?_eq_getElem hil)))) ?_ ?_
      · rintro j y σ' H4 hj ⟨z5, rfl, e4, hseen4, hall4⟩
        have hjl : j < yss[i].length := (List.getElem?_eq_some_iff.mp hj).1
        obtain rfl : yss[i][j] = y := (List.getElem?_eq_some_iff.mp hj).2
        generalize hyv : yss[i][j] = y at *
        have hmem : y ∈ yss.flatten := by rw [← hyv]; exact hb0 hil hjl
        have hAny := hy y hmem
        have et : (yss.take i).flatten ++ yss[i].take (j + 1) = ((yss.take i).flatten ++ yss[i].take j) ++ [y] := by
          rw [List.take_add_one, hj, List.append_assoc]
          rfl
        have tw : EvT (tNot (tB (tCall (sp__law_whole K) [] E0 (tCons (tVar 5) tNil)))) [some (.ref a), some (.int n), some (.int g), some (.ref s), some (.ref p), some y] H4 (!isInt y) := et_not (et_B (ev_call (ea_cons (ev_var rfl) ea_nil) fun H5 e5 Q q E => ⟨_, rfl, hAny.mono (e4.trans e5), q H5 (Ex.refl H5)⟩))
        by_cases hpl : place y g = true
        · obtain ⟨k, rfl, hk⟩ : ∃ k : Nat, y = V.int k ∧ k < g := by
            cases y with
            | int v =>
              have := of_decide_eq_true hpl
              exact ⟨v.toNat, by rw [Int.toNat_of_nonneg this.1], by omega⟩
            | _ => cases hpl
          refine q_when (b := false) (et_or (a := false) (b := false) (et_is tw rfl) fun _ => et_or (a := false) (b := false) (et_is (et_test (ev_op (ev_var rfl) ev_c rv_I0)) (decide_eq_false (by omega))) fun _ => et_is (et_test (ev_op (ev_var rfl) (ev_var rfl) rv_I0)) (decide_eq_false (by omega))) (fun h => nomatch h) fun _ H5 e5 => ?_
          have hs5 := e5 _ _ hseen4
          refine s_setL (j := k) hs5 (ev_op (ev_op (ev_var rfl) (ev_var rfl) (rv_ixL (sq_of hs5) (at_ints (i := (k : Int)) (by omega) (by rw [seenM_len]; omega)))) ev_c rv_I0) (ev_var rfl) (ev_var rfl) (by rw [List.length_map, seenM_len]; exact hk) fun H6 e6 => ⟨_, rfl, Ex.mut ((e4.trans e5).trans e6) (fresh_back e1 hs), ?_, ?_⟩
          · rw [upd_same, et, ← seenM_push hk, List.map_set]
            rfl
          · rw [et, List.all_append, hall4]
            simp [hpl]
        · have hpf : place y g = false := by
            cases h : place y g with
            | true => exact absurd h hpl
            | false => rfl
          have hbad : yss.flatten.all (fun y => place y g) = false := by
            cases h : yss.flatten.all (fun y => place y g) with
            | false => rfl
            | true => exact absurd (List.all_eq_true.mp h y hmem) hpl
          refine q_when (b := true) ?_ (fun _ H5 e5 => s_ret ev_c fun H6 e6 => bad hbad H6 ((e4.trans e5).trans e6)) (fun h => nomatch h)
          cases y with
          | int v =>
            by_cases h0 : v < 0
            · exact et_is (et_or (a := false) (b := true) (et_is tw rfl) fun _ => et_is (et_or (a := true) (b := true) (et_is (et_test (ev_op (ev_var rfl) ev_c rv_I0)) (decide_eq_true h0)) (fun h => nomatch h)) rfl) rfl
            · have h1 : (g : Int) ≤ v := by
                have : ¬ (0 ≤ v ∧ v < (g : Int)) := of_decide_eq_false hpf
                omega
              exact et_is (et_or (a := false) (b := true) (et_is tw rfl) fun _ => et_is (et_or (a := false) (b := true) (et_is (et_test (ev_op (ev_var rfl) ev_c rv_I0)) (decide_eq_false h0)) fun _ => et_is (et_test (ev_op (ev_var rfl) (ev_var rfl) rv_I0)) (decide_eq_true h1)) rfl) rfl
          | _ => exact et_is (et_or (a := true) (b := true) (et_is tw rfl) (fun h => nomatch h)) rfl
      · rintro σ' H4 ⟨z5, rfl, e4, hseen4, hall4⟩
        rw [List.take_length, ← flat_take yss hil] at hseen4 hall4
        exact ⟨_, _, rfl, e4, hseen4, hall4⟩
  · rintro σ' H' ⟨z4, z5, rfl, ex, hseen, hall⟩
    have el : (ps.map V.ref).length = yss.length := by rw [List.length_map, h2]
    rw [el, List.take_length] at hseen hall
    refine s_ret (v := .bl (heapsB yss n g)) (ev_is (ev_opL (xs := (List.replicate g (1 : Int)).map V.int) (ev_var rfl) (el_rep (ev_var rfl) hg) fun p H3 hp3 e3 => rv_eqD (x := seenM yss.flatten g) (y := List.replicate g 1) encI (by decide) (dp_ints (sq_of (e3 _ _ hseen))) (dp_ints (sq_of hp3))) ?_) fun H3 e3 => q H3 (ex.trans e3)
    unfold heapsB
    rw [decide_eq_true hn, hall]
    simp
end
/-! ### _law_numbers -/
abbrev s__law_numbers : Stmt := topS 33
theorem sc__law_numbers : FnScope ["_law_found", "_law_many", "_law_one"] ["_law_found", "_law_many"] (defScope s__law_numbers) := ⟨rfl, rfl, rfl, by decide +kernel, rfl, by decide +kernel, by decide +kernel⟩
def sp__law_numbers (K : PySem.W.Frag) : Sp := sp2 fun x y H Q => ∃ (a : Addr) (ns : List Int) (m : Int), x = .ref a ∧ y = .int m ∧ H a = some (.lst (ns.map V.int)) ∧ RetV (.bl (decide ((ns.length : Int) = m))) H Q
section
variable {P : Program} {w : World} {K : PySem.W.Frag} {mg : Str → Option Value} {base : Heap}
theorem ok__law_numbers (D : DnX K mg "_law_numbers" s__law_numbers ["_law_found", "_law_many"]) (B : Bt mg) (h__law_whole : Ok P w K mg base CX0 1 "_law_whole" ["_law_found"] (sp__law_whole K)) : Ok P w K mg base CX0 2 "_law_numbers" ["_law_found", "_law_many"] (sp__law_numbers K) := by
  refine ok_of D sc__law_numbers (fun vs H Q E h => by obtain ⟨_, _, rfl, _⟩ := h; rfl) (fun f cdv A outer s H vs Q E hr h => ⟨_, (pss_cons (ps_if (PW.pt (pw_or (pt_not (pt_val (pe_callB (isiK (K := K)) (by rfl) B.isinstance (by decide +kernel) (pa_cons (pv 0) (pa_cons (pe_bltn (v := .ty "list") (by rfl) B.list (by decide +kernel) rfl) pa_nil))))) (pw_or1 (pt_cmpR op_ne (pe_callB (lenK (K := K)) (by rfl) B.len PySem.boot_len (pa_cons (pv 0) pa_nil)) (pv 1) (nomark _)))))
        (pss_one (ps_ret pe_bl))
        pss_nil)
      (pss_cons (ps_for PassesOwn.never rfl (pi_listK (K := K) (pv 0)) (pg_name (i := 2) sc__law_numbers.nd rfl (Or.inl rfl))
        (pss_one (ps_if (pt_not (pt_val (pe_ok h__law_whole hr (by rfl) pass0 (pa_cons (pv 2) pa_nil))))
          (pss_one (ps_ret pe_bl))
          pss_nil)))
      (pss_one (ps_ret pe_bl)))), ?_⟩)
  obtain ⟨x, y, rfl, a, ns, m, rfl, rfl, hA, q⟩ := h
  refine q_when (et_or (a := false) (et_not (et_B (ev_isList (ev_var rfl) hA))) fun _ => et_test (ev_op (ev_lenI (sq_of hA) (ev_var rfl)) (ev_var rfl) (rv_ne rfl))) (fun hb H1 e1 => ?_) fun hb H1 e1 => ?_
  · refine s_ret ev_c fun H2 e2 => ?_
    have e : decide ((ns.length : Int) = m) = false := decide_eq_false fun z => by
      rw [z, decide_eq_true rfl] at hb
      cases hb
    rw [e] at q
    exact q H2 (e1.trans e2)
  · have e : (ns.length : Int) = m := by
      by_cases e : (ns.length : Int) = m
      · exact e
      · rw [decide_eq_false fun z => e (V.int.inj z)] at hb
        cases hb
    rw [decide_eq_true e] at q
    refine q_forLn (ev_var rfl) (sq_of (e1 _ _ hA)) (fun i σ H' => ∃ z, σ = [some (.ref a), some (.int m), z] ∧ Ex H H') (fun H2 e2 => ⟨none, rfl, e1.trans e2⟩) (fun i σ' H' _ h => by obtain ⟨z, _, e⟩ := h; exact sq_of (e _ _ hA)) ?_ ?_
    · rintro i x σ' H' hi ⟨z, rfl, e⟩
      obtain ⟨hj, rfl⟩ := get_ints hi
      exact s_when (b := false) (et_not (et_B (ev_call (z := .bl true) (ea_cons (ev_var rfl) ea_nil) fun H2 e2 Q q E => ⟨_, rfl, .int ns[i], q H2 (Ex.refl H2)⟩))) (fun h => nomatch h) fun _ H2 e2 => ⟨_, rfl, e.trans e2⟩
    · rintro σ' H' ⟨z, rfl, e⟩
      exact s_ret ev_c fun H2 e2 => q H2 (e.trans e2)
end
/-! ### _law_deal -/
abbrev s__law_deal : Stmt := topS 35
theorem sc__law_deal : FnScope ["_law_found", "_law_people_here", "_law_goods"] ["_law_found", "_law_people_here", "_law_goods"] (defScope s__law_deal) := ⟨rfl, rfl, rfl, by decide +kernel, rfl, by decide +kernel, by decide +kernel⟩
def sp__law_deal (K : PySem.W.Frag) : Sp := sp3 fun x y z H Q => ∃ (p hp sp : Addr) (yss : List (List V)) (ss : List Int) (n : Int) (g : Nat), x = .ref p ∧ y = .int n ∧ z = .int g ∧ H p = some (.tup [.ref hp, .ref sp]) ∧ TV H hp yss ∧ (∀ y ∈ yss.flatten, Any H y) ∧ H sp = some (.lst (ss.map V.int)) ∧ g ≤ 1000 ∧ RetV (.bl (dealB yss ss n g)) H Q
section
variable {P : Program} {w : World} {K : PySem.W.Frag} {mg : Str → Option Value} {base : Heap}
theorem ok__law_deal (D : DnX K mg "_law_deal" s__law_deal ["_law_found", "_law_people_here", "_law_goods"]) (B : Bt mg) (h__law_heaps : Ok P w K mg base CX0 2 "_law_heaps" ["_law_found", "_law_people_here", "_law_goods"] (sp__law_heaps K)) (h__law_numbers : Ok P w K mg base CX0 2 "_law_numbers" ["_law_found", "_law_many"] (sp__law_numbers K)) : Ok P w K mg base CX0 3 "_law_deal" ["_law_found", "_law_people_here", "_law_goods"] (sp__law_deal K) := by
  refine ok_of D sc__law_deal (fun vs H Q E h => by obtain ⟨_, _, _, rfl, _⟩ := h; rfl) (fun f cdv A outer s H vs Q E hr h => ⟨_, (pss_cons (ps_if (PW.pt (pw_or (pt_not (pt_val (pe_callB (isiK (K := K)) (by rfl) B.isinstance (by decide +kernel) (pa_cons (pv 0) (pa_cons (pe_bltn (v := .ty "tuple") (by rfl) B.tuple (by decide +kernel) rfl) pa_nil))))) (pw_or1 (pt_cmpR op_ne (pe_callB (lenK (K := K)) (by rfl) B.len PySem.boot_len (pa_cons (pv 0) pa_nil)) pe_int (nomark _)))))
        (pss_one (ps_ret pe_bl))
        pss_nil)
      (pss_one (ps_ret (pe_and (pe_ok h__law_heaps hr (by rfl) pass0 (pa_cons (pe_ix (ixT (K := K)) (pv 0) pe_int (fun _ _ => rfl)) (pa_cons (pv 1) (pa_cons (pv 2) pa_nil)))) (pe_and (pe_ok h__law_numbers hr (by rfl) pass0 (pa_cons (pe_ix (ixT (K := K)) (pv 0) pe_int (fun _ _ => rfl)) (pa_cons (pv 1) pa_nil))) (pe_one (pe_cmpR op_eq (pe_callB (sumK (K := K) rfl) (by rfl) B.sum (by decide +kernel) (pa_cons (pe_ix (ixT (K := K)) (pv 0) pe_int (fun _ _ => rfl)) pa_nil)) pe_int (nomark _)))))))), ?_⟩)
  obtain ⟨x, y, z, rfl, p, hp, sp, yss, ss, n, g, rfl, rfl, rfl, hT, hH, hy, hS, hg, q⟩ := h
  have i0 : atI [V.ref hp, V.ref sp] 0 = some (.ref hp) := atI_nat (j := 0) rfl
  have i1 : atI [V.ref hp, V.ref sp] 1 = some (.ref sp) := atI_nat (j := 1) rfl
  refine q_when (b := false) (et_or (a := false) (b := false) (et_not (et_B (b := true) (ev_isTuple (ev_var rfl) hT))) fun _ => et_is (et_test (ev_op (ev_lenT (ev_var rfl) hT) ev_c (rv_ne rfl))) (by rfl)) (fun h => nomatch h) fun _ H1 e1 => ?_
  have hT1 := st_of (K := K) (e1 _ _ hT)
  refine s_ret (v := .bl (dealB yss ss n g)) (ev_andV (a := heapsB yss n g) (b := decide ((ss.length : Int) = n) && decide (ss.sum = 0)) (ev_call (ea_cons (ev_op (ev_var rfl) ev_c (rv_ixT hT1 i0)) (ea_cons (ev_var rfl) (ea_cons (ev_var rfl) ea_nil))) fun H2 e2 Q q E => ⟨_, _, _, rfl, hp, yss, n, g, rfl, rfl, rfl, hH.mono (e1.trans e2), fun y hy' => (hy y hy').mono (e1.trans e2), hg, fun H3 e3 => q H3 e3⟩) fun _ => ?_) fun H2 e2 => q H2 (e1.trans e2)
  refine ev_andV (ev_call (ea_cons (ev_op (ev_var rfl) ev_c (rv_ixT hT1 i1)) (ea_cons (ev_var rfl) ea_nil)) fun H2 e2 Q q E => ⟨_, _, rfl, sp, ss, n, rfl, rfl, e2 _ _ (e1 _ _ hS), fun H3 e3 => q H3 e3⟩) fun _ => ?_
  refine ev_is (ev_op (ev_cb (ea_cons (ev_op (ev_var rfl) ev_c (rv_ixT hT1 i1)) ea_nil) fun H2 e2 Q q => ⟨sp, ss, rfl, sq_of (e2 _ _ (e1 _ _ hS)), q H2 (Ex.refl H2)⟩) ev_c (rv_eq rfl)) ?_
  congr 1
  by_cases e : ss.sum = 0
  · rw [e, decide_eq_true rfl, decide_eq_true rfl]
  · rw [decide_eq_false e, decide_eq_false fun z => e (V.int.inj z)]
end
/-! ### _law_worth -/
abbrev s__law_worth : Stmt := topS 32
theorem sc__law_worth : FnScope ["_law_row", "_law_heap", "_law_total", "_law_good"] ["_law_row", "_law_heap"] (defScope s__law_worth) := ⟨rfl, rfl, rfl, by decide +kernel, rfl, by decide +kernel, by decide +kernel⟩
def sp__law_worth (K : PySem.W.Frag) : Sp := sp2 fun x y H Q => ∃ (a b : Addr) (row heap : List Int), x = .ref a ∧ y = .ref b ∧ SqL K H a (row.map V.int) ∧ SqL K H b (heap.map V.int) ∧ Inside row.length heap ∧ RetV (.int (worthM row heap)) H Q
/-- people * worth(bids[i], heaps[j]) - sums[j] -/
theorem ev_gain {K : PySem.W.Frag} {σ : L2.St} {H : Hp} {ta tb tc tn ti tj : TE} {a b c : Addr} {rows hs : List (List Int)} {ss : List Int} {m i j : Nat} (hA : LL K H a rows) (hb : Bids rows m) (hB : LL K H b hs) (hC : SqL K H c (ss.map V.int)) (hf : Fits rows m hs ss)
    (ha : Ev ta σ H (.ref a)) (hbb : Ev tb σ H (.ref b)) (hc : Ev tc σ H (.ref c)) (hn : Ev tn σ H (.int (rows.length : Int))) (hi : Ev ti σ H (.int (i : Int))) (hj : Ev tj σ H (.int (j : Int))) (li : i < rows.length) (lj : j < rows.length) :
    Ev (tOp (rI0 fun i j => .int (i - j)) (tOp (rI CMul fun i j => .int (i * j)) tn (tCall (sp__law_worth K) [] E0 (tCons (tOp (rIxL K) ta ti) (tCons (tOp (rIxL K) tb tj) tNil)))) (tOp (rIxL K) tc tj)) σ H (.int (gainM rows hs ss i j)) := by
  obtain ⟨p, hp1, hp2⟩ := ev_row (σ := σ) (ta := ta) (tb := ti) hA li ha hi
  obtain ⟨r, hr1, hr2⟩ := ev_row (σ := σ) (ta := tb) (tb := tj) hB (by rw [hf.hl]; exact lj) hbb hj
  have l9 := hb.l9
  have sl := hf.sl
  refine ev_is (ev_op (ev_op hn (ev_call (ea_cons hp1 (ea_cons hr1 ea_nil)) fun H16 e16 Q q E => ⟨_, _, rfl, p, r, _, _, rfl, rfl, ex_l e16 hp2, ex_l e16 hr2, by rw [hb.at_ li]; exact hf.at_ lj, fun H17 e17 => q H17 e17⟩) (rv_I (mulL ⟨by omega, by omega⟩))) (ev_op hc hj (rv_ixL hC (at_ints (i := (j : Int)) (by omega) (by omega)))) rv_I0) ?_
  unfold gainM
  rw [Int.mul_comm]
  rfl
section
variable {P : Program} {w : World} {K : PySem.W.Frag} {mg : Str → Option Value} {base : Heap}
theorem ok__law_worth (D : DnX K mg "_law_worth" s__law_worth ["_law_row", "_law_heap"]) (B : Bt mg) : Ok P w K mg base CX0 1 "_law_worth" ["_law_row", "_law_heap"] (sp__law_worth K) := by
  refine ok_of D sc__law_worth (fun vs H Q E h => by obtain ⟨_, _, rfl, _⟩ := h; rfl) (fun f cdv A outer s H vs Q E hr h => ⟨_, (pss_cons (ps_set (i := 2) sc__law_worth.nd rfl (Or.inl rfl) pe_int)
      (pss_cons (ps_for PassesOwn.never rfl (pi_listK (K := K) (pv 1)) (pg_name (i := 3) sc__law_worth.nd rfl (Or.inl rfl))
        (pss_one (ps_set (i := 2) sc__law_worth.nd rfl (Or.inl rfl) (pe_op op_add (pv 2) (pe_ix (ixL (K := K)) (pv 0) (pv 3) (fun _ _ => rfl))))))
      (pss_one (ps_ret (pv 2))))), ?_⟩)
  obtain ⟨x, y, rfl, a, b, row, heap, rfl, rfl, hA, hB, hw, q⟩ := h
  refine q_asg ev_c fun H1 e1 => ?_
  refine q_forLn (ev_var rfl) (ex_l e1 hB) (fun i σ H' => ∃ z, σ = [some (.ref a), some (.ref b), some (.int (worthM row (heap.take i))), z] ∧ Ex H H') (fun H2 e2 => ⟨none, rfl, e1.trans e2⟩) (fun i σ' H' _ h => by obtain ⟨z, _, e⟩ := h; exact ex_l e hB) ?_ ?_
  · rintro i x σ' H' hi ⟨z, rfl, e⟩
    obtain ⟨hj, rfl⟩ := get_ints hi
    obtain ⟨g0, g1⟩ := hw _ (List.getElem_mem hj)
    refine s_asg (v := .int (worthM row (heap.take (i + 1)))) ?_ fun H2 e2 => ⟨some (.int heap[i]), rfl, e.trans e2⟩
    rw [worthM_take hj]
    exact ev_op (ev_var rfl) (ev_op (ev_var rfl) (ev_var rfl) (rv_ixL (ex_l e hA) (at_ints g0 g1))) rv_I0
  · rintro σ' H' ⟨z, rfl, e⟩
    refine s_ret (ev_var rfl) fun H2 e2 => ?_
    have et : heap.take (heap.map V.int).length = heap := by rw [List.length_map, List.take_length]
    rw [et]
    exact q H2 (e.trans e2)
end
/-! ### law -/
abbrev s_law : Stmt := topS 39
theorem sc_law : FnScope ["_law_script", "_law_people_here", "_law_rooms", "_law_goods", "_law_bids_here", "_law_found", "_law_kept", "_law_i", "_law_draws_here", "_law_j"] ["_law_script"] (defScope s_law) := ⟨rfl, rfl, rfl, by decide +kernel, rfl, by decide +kernel, by decide +kernel⟩
/-- rows whose list may have got other rows -/
structure TVx (H : Hp) (a : Addr) (ps : List Addr) (ys : List (List V)) : Prop where
  top : H a = some (.lst (ps.map V.ref))
  len : ps.length = ys.length
  out : a ∉ ps
  at_ : ∀ (i : Nat) (q : Addr) (y : List V), ps[i]? = some q → ys[i]? = some y → H q = some (.lst y)
theorem TVx.ext {H H' : Hp} {a : Addr} {ps : List Addr} {ys : List (List V)} (h : TVx H a ps ys) (e : Ex H H') : TVx H' a ps ys := ⟨e _ _ h.top, h.len, h.out, fun i q y h1 h2 => e _ _ (h.at_ i q y h1 h2)⟩
theorem TVx.tv {H : Hp} {a : Addr} {ps : List Addr} {ys : List (List V)} (h : TVx H a ps ys) : TV H a ys := ⟨ps, h.top, h.len, h.at_⟩
theorem TVx.set {H : Hp} {a q : Addr} {ps : List Addr} {ys : List (List V)} {i : Nat} {y : List V} (h : TVx H a ps ys) (hq : H q = some (.lst y)) (qa : q ≠ a) : TVx (upd H a (.lst ((ps.map V.ref).set i (.ref q)))) a (ps.set i q) (ys.set i y) := by
  refine ⟨by rw [upd_same, List.map_set], by rw [List.length_set, List.length_set]; exact h.len, fun m => ?_, fun k r z h1 h2 => ?_⟩
  · rcases List.mem_or_eq_of_mem_set m with m | m
    · exact h.out m
    · exact qa m.symm
  · have hr : r ≠ a := fun z => by
      have m := List.mem_of_getElem? h1
      rw [z] at m
      rcases List.mem_or_eq_of_mem_set m with m | m
      · exact h.out m
      · exact qa m.symm
    rw [upd_ne hr]
    rw [List.getElem?_set] at h1 h2
    by_cases e : i = k
    · rw [if_pos e] at h1 h2
      by_cases hl : i < ps.length
      · rw [if_pos hl] at h1
        rw [if_pos (by rw [← h.len]; exact hl)] at h2
        rw [← Option.some.inj h1, ← Option.some.inj h2]
        exact hq
      · rw [if_neg hl] at h1
        cases h1
    · rw [if_neg e] at h1 h2
      exact h.at_ k r z h1 h2
def sp_law (K : PySem.W.Frag) : Sp := sp1 fun x H Q => ∃ (a : Addr) (ns : List Int), x = .ref a ∧ SqL K H a (ns.map V.int) ∧ ∀ H', Q (.bl true) H'
theorem law_start {K : PySem.W.Frag} {H : Hp} {a : Addr} {ns : List Int} (hl : ns.length ≤ 63) (hS : SqL K H a (ns.map V.int)) : sp_law K [.ref a] H (fun v _ => v = .bl true) (fun _ _ _ => False) := ⟨.ref a, rfl, a, ns, rfl, hS, fun _ => rfl⟩
section
variable {P : Program} {w : World} {K : PySem.W.Frag} {mg : Str → Option Value} {base : Heap}
theorem ok_law (D : DnX K mg "law" s_law ["_law_script"]) (B : Bt mg) (h__law_people : Ok P w K mg base CX0 2 "_law_people" ["_law_script"] (sp__law_people K)) (h__law_bids : Ok P w K mg base CX0 2 "_law_bids" ["_law_script", "_law_first", "_law_people_here", "_law_goods", "_law_kind"] (sp__law_bids K)) (h__law_dealt : Ok P w K mg base CX0 6 "_law_dealt" ["_law_bids_here", "_law_rooms"] (sp__law_dealt K)) (h__law_cell : Ok P w K mg base CX0 1 "_law_cell" ["_law_script", "_law_k"] (sp__law_cell K)) (h__law_draws : Ok P w K mg base CX0 1 "_law_draws" ["_law_cell_here", "_law_many"] (sp__law_draws K)) (h__law_deal : Ok P w K mg base CX0 3 "_law_deal" ["_law_found", "_law_people_here", "_law_goods"] (sp__law_deal K)) (h__law_worth : Ok P w K mg base CX0 1 "_law_worth" ["_law_row", "_law_heap"] (sp__law_worth K)) : Ok P w K mg base CX0 7 "law" ["_law_script"] (sp_law K) := by
  refine ok_of D sc_law (fun vs H Q E h => by obtain ⟨_, rfl, _⟩ := h; rfl) (fun f cdv A outer s H vs Q E hr h => ⟨_, (pss_cons (ps_set (i := 1) sc_law.nd rfl (Or.inr rfl) (pe_ok h__law_people (hr.mono (by decide)) (by rfl) pass0 (pa_cons (pv 0) pa_nil)))
      (pss_cons (ps_set (i := 2) sc_law.nd rfl (Or.inl rfl) (pe_cmpR op_eq (pe_op op_mod (pe_op op_fdiv (pe_ok h__law_cell (hr.mono (by decide)) (by rfl) pass0 (pa_cons (pv 0) (pa_cons pe_int pa_nil))) pe_int) pe_int) pe_int (nomark _)))
      (pss_cons (ps_set (i := 3) sc_law.nd rfl (Or.inl rfl) (pe_op op_mod (pe_ok h__law_cell (hr.mono (by decide)) (by rfl) pass0 (pa_cons (pv 0) (pa_cons pe_int pa_nil))) (pe_op op_add (pv 1) pe_int)))
      (pss_cut (ps_if (pt_not (pt_val (pv 2)))
        (pss_one (ps_set (i := 3) sc_law.nd rfl (Or.inl rfl) (pe_callB (call_min2 rfl) (by rfl) B.min (by decide +kernel) (pa_cons pe_int (pa_cons (pe_op op_add (pv 3) (pe_op op_mul (pv 1) (pe_op op_mod (pe_op op_fdiv (pe_ok h__law_cell (hr.mono (by decide)) (by rfl) pass0 (pa_cons (pv 0) (pa_cons pe_int pa_nil))) pe_int) pe_int))) pa_nil)))))
        pss_nil)
      (pss_cons (ps_set (i := 4) sc_law.nd rfl (Or.inr rfl) (pe_ok h__law_bids (hr.mono (by decide)) (by rfl) pass0 (pa_cons (pv 0) (pa_cons pe_int (pa_cons (pv 1) (pa_cons (pv 3) (pa_cons (pe_op op_mod (pe_ok h__law_cell (hr.mono (by decide)) (by rfl) pass0 (pa_cons (pv 0) (pa_cons pe_int pa_nil))) pe_int) pa_nil)))))))
      (pss_cut (ps_if (pt_cmpR op_eq (pe_op op_mod (pe_op op_fdiv (pe_ok h__law_cell (hr.mono (by decide)) (by rfl) pass0 (pa_cons (pv 0) (pa_cons pe_int pa_nil))) pe_int) pe_int) pe_int (nomark _))
        (pss_cons (ps_set (i := 8) sc_law.nd rfl (Or.inl rfl) (pe_ok h__law_draws (hr.mono (by decide)) (by rfl) pass0 (pa_cons (pe_ok h__law_cell (hr.mono (by decide)) (by rfl) pass0 (pa_cons (pv 0) (pa_cons pe_int pa_nil))) (pa_cons (pv 1) pa_nil))))
        (pss_one (ps_for PassesOwn.never rfl (pi_range1 (by rfl) B.range (pa_cons (pv 1) pa_nil)) (pg_name (i := 7) sc_law.nd rfl (Or.inl rfl))
          (pss_one (ps_if (pt_cmpR op_eq (pe_op op_mod (pe_ix (ixL (K := K)) (pv 8) (pv 7) (fun _ _ => rfl)) pe_int) pe_int (nomark _))
            (pss_one (ps_asg (pe_callTy (listK (K := K)) (by rfl) B.list (by decide +kernel) (pa_cons (pe_ix (ixL (K := K)) (pv 4) (pe_op op_mod (pe_op op_fdiv (pe_ix (ixL (K := K)) (pv 8) (pv 7) (fun _ _ => rfl)) pe_int) (pv 1)) (fun _ _ => rfl)) pa_nil)) (pg_sub (pv 4) (pv 7) set_list)))
            pss_nil)))))
        pss_nil)
      (pss_cons (ps_set (i := 5) sc_law.nd rfl (Or.inr rfl) (pe_ok h__law_dealt hr (by rfl) pass0 (pa_cons (pv 4) (pa_cons (pv 2) pa_nil))))
      (pss_cons (ps_if (pt_not (pt_val (pe_ok h__law_deal (hr.mono (by decide)) (by rfl) pass0 (pa_cons (pv 5) (pa_cons (pv 1) (pa_cons (pv 3) pa_nil))))))
        (pss_one (ps_ret pe_bl))
        pss_nil)
      (pss_cons (ps_setLc (own := [("_law_i", 7)]) (i := 6) rfl sc_law.nd rfl rfl (sw_true rfl rfl rfl (by decide +kernel))  (pi_range1 (by rfl) B.range (pa_cons (pv 1) pa_nil)) (blkOk_by (own := [("_law_i", 7)]) (N := ["_law_script", "_law_people_here", "_law_rooms", "_law_goods", "_law_bids_here", "_law_found", "_law_kept", "_law_i", "_law_draws_here", "_law_j"]) (sc := (defScope s_law)) (by decide +kernel)) (fun _ _ _ _ _ => (pg_name (i := 7) sc_law.nd rfl (Or.inl rfl))) (fun _ _ _ _ _ => pts_nil) (fun _ _ _ _ _ => (pe_op op_sub (pe_op op_mul (pv 1) (pe_ok h__law_worth (hr.mono (by decide)) (by rfl) pass0 (pa_cons (pe_ix (ixL (K := K)) (pv 4) (pv 7) (fun _ _ => rfl)) (pa_cons (pe_ix (ixL (K := K)) (pe_ix (ixT (K := K)) (pv 5) pe_int (fun _ _ => rfl)) (pv 7) (fun _ _ => rfl)) pa_nil)))) (pe_ix (ixL (K := K)) (pe_ix (ixT (K := K)) (pv 5) pe_int (fun _ _ => rfl)) (pv 7) (fun _ _ => rfl)))))
      (pss_cons (ps_for PassesOwn.never rfl (pi_range1 (by rfl) B.range (pa_cons (pv 1) pa_nil)) (pg_name (i := 7) sc_law.nd rfl (Or.inl rfl))
        (pss_cons (ps_if (pt_cmpR op_lt (pe_ix (ixL (K := K)) (pv 6) (pv 7) (fun _ _ => rfl)) (pe_callB (sumK (K := K) rfl) (by rfl) B.sum (by decide +kernel) (pa_cons (pe_ix (ixL (K := K)) (pv 4) (pv 7) (fun _ _ => rfl)) pa_nil)) (nomark _))
          (pss_one (ps_ret pe_bl))
          pss_nil)
        (pss_one (ps_for PassesOwn.never rfl (pi_range1 (by rfl) B.range (pa_cons (pv 7) pa_nil)) (pg_name (i := 9) sc_law.nd rfl (Or.inl rfl))
          (pss_one (ps_if (PW.pt (pw_and (pt_cmpR (eqK (K := K) hr.units) (pe_ix (ixL (K := K)) (pv 4) (pv 7) (fun _ _ => rfl)) (pe_ix (ixL (K := K)) (pv 4) (pv 9) (fun _ _ => rfl)) (nomark _)) (pw_and1 (pt_cmpR op_ne (pe_ix (ixL (K := K)) (pv 6) (pv 7) (fun _ _ => rfl)) (pe_ix (ixL (K := K)) (pv 6) (pv 9) (fun _ _ => rfl)) (nomark _)))))
            (pss_one (ps_ret pe_bl))
            pss_nil))))))
      (pss_one (ps_ret pe_bl)))))))))))), ?_⟩)
  obtain ⟨x, rfl, a, ns, rfl, hS, q⟩ := h
  refine q_set (g_call (ea_cons (ev_var rfl) ea_nil H (Ex.refl _) _ fun H1' e1' => ⟨_, rfl, a, ns, rfl, ex_l e1' hS, fun pn H1 hp1 hp9 e1'' => ?_⟩))
  have e1 := e1'.trans e1''
  refine q_asg (ev_op (ev_op (ev_op (ev_cell rfl (ex_l e1 hS) ev_c (by decide)) ev_c (rv_I ⟨by decide, by decide⟩)) ev_c (rv_I (by show (0 : Int) < 2; decide))) ev_c (rv_eq rfl)) fun H1b e1b => ?_
  generalize decide (V.int (cellM ns 2 / 4 % 2) = V.int 0) = rm
  replace e1 := e1.trans e1b
  -- goods
  obtain ⟨g0, hg0, hg0l⟩ := mod_range (cellM ns 1) (m := (pn : Int) + 1) (by omega)
  refine q_asg (v := .int (g0 : Int)) (ev_is (ev_op (ev_cell rfl (ex_l e1 hS) ev_c (by decide)) (ev_op (ev_var rfl) ev_c rv_I0) (rv_I (by show (0 : Int) < (pn : Int) + 1; omega))) (by rw [hg0])) fun H2 e2 => ?_
  have e12 := e1.trans e2
  refine q_cut (M := fun σ H' => ∃ gn : Nat, gn ≤ 40 ∧ (rm = true → gn ≤ pn) ∧ Ex H H' ∧ σ = [some (.ref a), some (.int (pn : Int)), some (.bl rm), some (.int (gn : Int)), none, none, none, none, none, none]) ?_ ?_
  · refine s_when (et_not (et_B (ev_var rfl))) (fun hb H3 e3 => ?_) (fun _ H3 e3 => ⟨g0, by omega, fun _ => by omega, e12.trans e3, rfl⟩)
    have hrm : rm = false := by cases rm with | false => rfl | true => cases hb
    obtain ⟨c3, hc3, hc3l⟩ := mod_range (cellM ns 1 / 10) (m := 3) (by decide)
    have hS3 := ex_l (e12.trans e3) hS
    refine s_asg (v := .int (min 40 (g0 + pn * c3) : Nat)) (fun H4 e4 Q q => ?_) fun H4 e4 => ⟨min 40 (g0 + pn * c3), by omega, fun z => (by rw [hrm] at z; cases z), (e12.trans e3).trans e4, rfl⟩
    refine g_cb (ea_cons ev_c (ea_cons (ev_op (ev_var rfl) (ev_op (ev_var rfl) (ev_op (ev_op (ev_cell rfl hS3 ev_c (by decide)) ev_c (rv_I ⟨by decide, by decide⟩)) ev_c (rv_I (by show (0 : Int) < 3; decide))) (rv_I (mulL ⟨by omega, by omega⟩))) rv_I0) ea_nil) H4 e4 _ fun H5 e5 => ⟨_, _, rfl, ?_⟩)
    have ev : (if (g0 : Int) + (pn : Int) * (cellM ns 1 / 10 % 3) < 40 then (g0 : Int) + (pn : Int) * (cellM ns 1 / 10 % 3) else 40) = ((min 40 (g0 + pn * c3) : Nat) : Int) := by
      rw [hc3]
      have : (pn : Int) * (c3 : Int) = ((pn * c3 : Nat) : Int) := by simp
      rw [this]
      generalize pn * c3 = z
      split <;> omega
    rw [ev]
    exact q H5 e5
  rintro σ H3 ⟨gn, hg40, hgp, e03, rfl⟩
  have hS3 := ex_l e03 hS
  generalize hk : cellM ns 2 % 4 = kind
  refine q_asgN (ys := iv (bidsM ns 4 pn gn kind)) (fun H4 e4 Q q => ?_) fun bp bs H4 Lb e4 => ?_
  · refine g_call ?_
    refine ea_cons (ev_var rfl) (ea_cons ev_c (ea_cons (ev_var rfl) (ea_cons (ev_var rfl) (ea_cons (ev_is (ev_op (ev_cell rfl hS3 ev_c (by decide)) ev_c (rv_I (by show (0 : Int) < 4; decide))) (by rw [hk])) ea_nil)))) H4 e4 _ fun H5 e5 => ?_
    exact ⟨_, _, _, _, _, rfl, a, ns, 4, pn, gn, kind, rfl, rfl, rfl, rfl, rfl, ex_l (e4.trans e5) hS3, by decide, by omega, by omega, fun p ps H6 L e6 => q p ps H6 (L.back e5) (e5.trans e6)⟩
  have hB0 : Bids (bidsM ns 4 pn gn kind) gn := bidsM_ok ns 4 pn gn kind hp1 hp9 hg40
  have hBl0 := bidsM_len ns 4 pn gn kind
  generalize bidsM ns 4 pn gn kind = rows0 at Lb hB0 hBl0
  have hbpn : H bp = none := fresh_back e03 Lb.new
  have e04 := e03.trans e4
  have X0 : TVx H4 bp bs (iv rows0) := ⟨Lb.top, Lb.len, (List.nodup_cons.mp Lb.nd).1, fun i q y h1 h2 => (Lb.at_ i q y h1 h2).2⟩
  -- some rows are copies of others
  refine q_cut (M := fun σ H' => ∃ ps rows z7 z8, Ex H H' ∧ TVx H' bp ps (iv rows) ∧ Bids rows gn ∧ rows.length = pn ∧ σ = [some (.ref a), some (.int (pn : Int)), some (.bl rm), some (.int (gn : Int)), some (.ref bp), none, none, z7, z8, none]) ?_ ?_
  · refine s_when (et_test (ev_op (ev_op (ev_op (ev_cell rfl (ex_l e04 hS) ev_c (by decide)) ev_c (rv_I ⟨by decide, by decide⟩)) ev_c (rv_I (by show (0 : Int) < 3; decide))) ev_c (rv_eq rfl))) (fun _ H5 e5 => ?_) (fun _ H5 e5 => ⟨bs, rows0, none, none, e04.trans e5, X0.ext e5, hB0, hBl0, rfl⟩)
    have e05 := e04.trans e5
    refine q_asgL (xs := (drawsM (cellM ns 3) pn).map V.int) (el_call (ea_cons (ev_cell rfl (ex_l e05 hS) ev_c (by decide)) (ea_cons (ev_var rfl) ea_nil)) fun H6 e6 Q q E => ⟨_, _, rfl, _, pn, rfl, rfl, by omega, fun p H7 hp e7 h7 => q p H7 hp e7 h7⟩) fun dp H6 hdp e6 hd6 => ?_
    have hdl := drawsM_len (cellM ns 3) pn
    have hdnn := drawsM_nn (cellM ns 3) pn
    generalize drawsM (cellM ns 3) pn = ds at hd6 hdl hdnn
    have dbp : dp ≠ bp := fun z => by
      rw [z, e5 _ _ X0.top] at hdp
      cases hdp
    refine s_forR1 (n := pn) (ea_cons (ev_var rfl) ea_nil) ⟨by omega, by omega⟩ (fun i σ H' => ∃ ps rows z7, Ex H H' ∧ TVx H' bp ps (iv rows) ∧ Bids rows gn ∧ rows.length = pn ∧ H' dp = some (.lst (ds.map V.int)) ∧ σ = [some (.ref a), some (.int (pn : Int)), some (.bl rm), some (.int (gn : Int)), some (.ref bp), none, none, z7, some (.ref dp), none]) (fun H7 e7 => ⟨bs, rows0, none, (e05.trans e6).trans e7, X0.ext ((e5.trans e6).trans e7), hB0, hBl0, e7 _ _ hd6, rfl⟩) ?_ ?_
    · rintro i σ' H' hi ⟨ps, rows, z7, ex, X, hB, hBl, hd, rfl⟩
      have hi : i < pn := by omega
      have hds : ∀ {σ : L2.St}, σ[8]? = some (some (.ref dp)) → σ[7]? = some (some (.int (i : Int))) → ∀ {H''}, Ex H' H'' → Ev (tOp (rIxL K) (tVar 8) (tVar 7)) σ H'' (.int (ds.getD i 0)) := fun {σ} h8 h7 {H''} e => ev_op (ev_var h8) (ev_var h7) (rv_ixL (sq_of (e _ _ hd)) (at_ints (i := (i : Int)) (by omega) (by omega)))
      refine s_when (et_test (ev_op (ev_op (hds rfl rfl (Ex.refl _)) ev_c (rv_I (by show (0 : Int) < 2; decide))) ev_c (rv_eq rfl))) (fun _ H7 e7 => ?_) (fun _ H7 e7 => ⟨ps, rows, _, ex.trans e7, X.ext e7, hB, hBl, e7 _ _ hd, rfl⟩)
      obtain ⟨j, hj, hjl⟩ := mod_range (ds.getD i 0 / 2) (m := (pn : Int)) (by omega)
      have hjr : j < rows.length := by omega
      obtain ⟨q0, hq0, hs0⟩ := ev_row (σ := [some (.ref a), some (.int (pn : Int)), some (.bl rm), some (.int (gn : Int)), some (.ref bp), none, none, some (.int (i : Int)), some (.ref dp), none]) (ta := tVar 4) (tb := tOp (rI (fun _ j => 0 < j) fun i j => .int (i % j)) (tOp (rI CDiv fun i j => .int (i / j)) (tOp (rIxL K) (tVar 8) (tVar 7)) (tC (.int 2))) (tVar 1)) ((X.ext e7).tv.lv (K := K)) hjr (ev_var rfl) (ev_is (ev_op (ev_op (hds rfl rfl e7) ev_c (rv_I ⟨by decide, by decide⟩)) (ev_var rfl) (rv_I (by show (0 : Int) < (pn : Int); omega))) (by rw [hj]))
      have hpl := X.len
      rw [List.length_map] at hpl
      refine s_setLL (e7 _ _ X.top) (el_list hq0 hs0) (ev_var rfl) (ev_var rfl) (by rw [List.length_map]; omega) fun q2 H8 hq2 e8 h8 => ?_
      have qa : q2 ≠ bp := fun z => by
        rw [z, e7 _ _ X.top] at hq2
        cases hq2
      have X8 := ((X.ext (e7.trans e8)).set (i := i) h8 qa)
      have er : (iv rows).set i ((rows.getD j []).map V.int) = iv (rows.set i (rows.getD j [])) := by
        show _ = List.map _ _
        rw [List.map_set]
      rw [er] at X8
      have hrj : rows.getD j [] ∈ rows := by
        have e : rows.getD j [] = rows[j] := by simp [List.getD_eq_getElem?_getD, hjr]
        rw [e]
        exact List.getElem_mem hjr
      refine ⟨_, _, _, Ex.mut (ex.trans (e7.trans e8)) hbpn, X8, ⟨by rw [List.length_set]; exact hB.ne, by rw [List.length_set]; exact hB.l9, hB.m40, fun r hr => ?_, fun r hr => ?_⟩, by rw [List.length_set]; exact hBl, by rw [upd_ne dbp]; exact (e7.trans e8) _ _ hd, rfl⟩
      · rcases List.mem_or_eq_of_mem_set hr with hr | rfl
        · exact hB.len r hr
        · exact hB.len _ hrj
      · rcases List.mem_or_eq_of_mem_set hr with hr | rfl
        · exact hB.ok r hr
        · exact hB.ok _ hrj
    · rintro σ' H' ⟨ps, rows, z7, ex, X, hB, hBl, hd, rfl⟩
      exact ⟨ps, rows, _, _, ex, X, hB, hBl, rfl⟩
  rintro σ H5 ⟨ps, rows, z7, z8, e05, X, hB, hBl, rfl⟩
  have k1 : LL K H5 bp rows := X.tv.lv
  have ll : (iv rows).length = rows.length := List.length_map _
  -- the deal
  refine q_set (g_call (ea_cons (ev_var rfl) (ea_cons (ev_var rfl) ea_nil) H5 (Ex.refl _) _ fun H5' e5' => ⟨_, _, rfl, bp, rows, gn, rm, rfl, rfl, k1.mono e5', hB, fun h => by rw [hBl]; exact hgp h, fun p hp sp hps hs ss H6 Dd F e6 => ?_⟩))
  have k6 := k1.mono (e5'.trans e6)
  have hF := F.fit
  have hdeal := F.deal
  have hl := hF.hl
  have sl := hF.sl
  have p0 : atI [V.ref hp, V.ref sp] 0 = some (.ref hp) := atI_nat (j := 0) rfl
  have p1 : atI [V.ref hp, V.ref sp] 1 = some (.ref sp) := atI_nat (j := 1) rfl
  refine q_when (b := false) (et_is (et_not (et_B (ev_call (ea_cons (ev_var rfl) (ea_cons (ev_var rfl) (ea_cons (ev_var rfl) ea_nil))) fun H7 e7 Q q E => ⟨_, _, _, rfl, p, hp, sp, iv hs, ss, pn, gn, rfl, rfl, rfl, e7 _ _ Dd.t, Dd.L.tv.mono e7, any_flat hs, e7 _ _ Dd.s, by omega, fun H8 e8 => q H8 e8⟩))) (by rw [← hBl, hdeal]; rfl)) (fun h => nomatch h) fun _ H7 e7 => ?_
  have D7 := Dd.ext e7
  have k7 := k6.mono e7
  refine q_asgL (xs := (List.range pn).map fun i => V.int (gainM rows hs ss i i)) (el_rngA (fun i => V.int (gainM rows hs ss i i)) (ea_cons (ev_var rfl) ea_nil) (by omega) (fun _ => rfl) fun i H8 e8 hi => ?_) fun kp H8 hkp e8 hk8 => ?_
  · have D8 := D7.ext e8
    exact ev_gain (k7.mono e8) hB (D8.L.lv) (sq_of D8.s) hF (ev_var rfl) (ev_op (ev_var rfl) ev_c (rv_ixT (st_of D8.t) p0)) (ev_op (ev_var rfl) ev_c (rv_ixT (st_of D8.t) p1)) (ev_is (ev_var rfl) (by rw [hBl])) (ev_var rfl) (ev_var rfl) (by omega) (by omega)
  have k8 := k7.mono e8
  have hkat : ∀ {i : Nat}, i < pn → atI ((List.range pn).map fun i => V.int (gainM rows hs ss i i)) (i : Int) = some (.int (gainM rows hs ss i i)) := fun {i} hi => atI_nat (by rw [List.getElem?_map, List.getElem?_range hi]; rfl)
  refine q_forR1 (n := pn) (ea_cons (ev_var rfl) ea_nil) ⟨by omega, by omega⟩ (fun i σ H' => ∃ z7 z9, σ = [some (.ref a), some (.int (pn : Int)), some (.bl rm), some (.int (gn : Int)), some (.ref bp), some (.ref p), some (.ref kp), z7, z8, z9] ∧ Ex H8 H') (fun H9 e9 => ⟨z7, none, rfl, e9⟩) ?_ ?_
  · rintro i σ' H' hi ⟨z7, z9, rfl, ex⟩
    have hi : i < pn := by omega
    have hir : i < rows.length := by omega
    obtain ⟨q0, hq0, hs0⟩ := ev_row (σ := [some (.ref a), some (.int (pn : Int)), some (.bl rm), some (.int (gn : Int)), some (.ref bp), some (.ref p), some (.ref kp), some (.int (i : Int)), z8, z9]) (ta := tVar 4) (tb := tVar 7) (k8.mono ex) hir (ev_var rfl) (ev_var rfl)
    have hpart := F.part hB hir
    refine q_when (b := false) (et_is (et_test (ev_op (ev_op (ev_var rfl) (ev_var rfl) (rv_ixL (sq_of (ex _ _ hk8)) (hkat hi))) (ev_cb (ea_cons hq0 ea_nil) fun H10 e10 Q q => ⟨q0, _, rfl, ex_l e10 hs0, q H10 (Ex.refl H10)⟩) rv_I0)) (decide_eq_false (by omega))) (fun h => nomatch h) fun _ H9 e9 => ?_
    have ex9 := ex.trans e9
    refine s_forR1 (n := i) (ea_cons (ev_var rfl) ea_nil) ⟨by omega, by omega⟩ (fun j σ H' => ∃ z9, σ = [some (.ref a), some (.int (pn : Int)), some (.bl rm), some (.int (gn : Int)), some (.ref bp), some (.ref p), some (.ref kp), some (.int (i : Int)), z8, z9] ∧ Ex H8 H') (fun H10 e10 => ⟨z9, rfl, ex9.trans e10⟩) ?_ ?_
    · rintro j σ' H10 hj ⟨z9, rfl, ex10⟩
      have hj : j < pn := by omega
      have hjr : j < rows.length := by omega
      obtain ⟨q1, hq1, hs1⟩ := ev_row (σ := [some (.ref a), some (.int (pn : Int)), some (.bl rm), some (.int (gn : Int)), some (.ref bp), some (.ref p), some (.ref kp), some (.int (i : Int)), z8, some (.int (j : Int))]) (ta := tVar 4) (tb := tVar 7) (k8.mono ex10) hir (ev_var rfl) (ev_var rfl)
      obtain ⟨q2, hq2, hs2⟩ := ev_row (σ := [some (.ref a), some (.int (pn : Int)), some (.bl rm), some (.int (gn : Int)), some (.ref bp), some (.ref p), some (.ref kp), some (.int (i : Int)), z8, some (.int (j : Int))]) (ta := tVar 4) (tb := tVar 9) (k8.mono ex10) hjr (ev_var rfl) (ev_var rfl)
      refine s_when (b := false) (et_is (et_and (a := decide (rows.getD i [] = rows.getD j [])) (b := !decide (V.int (gainM rows hs ss i i) = V.int (gainM rows hs ss j j))) (et_test (ev_op hq1 hq2 (rv_eqD encI (by decide) (dp_ints hs1) (dp_ints hs2)))) fun _ => et_test (ev_op (ev_op (ev_var rfl) (ev_var rfl) (rv_ixL (sq_of (ex10 _ _ hk8)) (hkat hi))) (ev_op (ev_var rfl) (ev_var rfl) (rv_ixL (sq_of (ex10 _ _ hk8)) (hkat hj))) (rv_ne rfl))) ?_) (fun h => nomatch h) fun _ H11 e11 => ⟨_, rfl, ex10.trans e11⟩
      by_cases e : rows.getD i [] = rows.getD j []
      · rw [F.same hir hjr e, decide_eq_true (rfl : V.int (gainM rows hs ss j j) = _)]
        simp
      · rw [decide_eq_false e]
        rfl
    · rintro σ' H10 ⟨z9, rfl, ex10⟩
      exact ⟨_, _, rfl, ex10⟩
  · rintro σ' H' ⟨z7, z9, rfl, ex⟩
    exact s_ret ev_c fun H9 e9 => q H9
end
end Fk12
namespace Fk12
open PySem PySem.Spec PyProof.Rows L2 Evl Fs Rm Rx
theorem all_mk {l : PySem.W.OpenLaw} {w : World} {K : PySem.W.Frag} {h : Heap} {mg : Str → Option Value} {fa f0 f1 f2 f3 f4 f5 f6 f7 f8 f9 f10 f11 f12 f13 f14 f15 f16 f17 f18 f19 f20 f21 f22 f23 f24 : Addr} (X : K.In h) (G : h.Ns mainGlobals mg) (hfa : mg "law" = some (.ref fa))
    {od0 an0 od1 an1 od2 an2 od3 an3 od4 an4 od5 an5 od6 an6 od7 an7 od8 an8 od9 an9 od10 an10 od11 an11 od12 an12 od13 an13 od14 an14 od15 an15 od16 an16 od17 an17 od18 an18 od19 an19 od20 an20 od21 an21 od22 an22 od23 an23 od24 an24 : Option Addr} {sl0 sl1 sl2 sl3 sl4 sl5 sl6 sl7 sl8 sl9 sl10 sl11 sl12 sl13 sl14 sl15 sl16 sl17 sl18 sl19 sl20 sl21 sl22 sl23 sl24 : Array (Option Value)} {oc0 kV0 dc0 pm0 cd0 ct0 oc1 kV1 dc1 pm1 cd1 ct1 oc2 kV2 dc2 pm2 cd2 ct2 oc3 kV3 dc3 pm3 cd3 ct3 oc4 kV4 dc4 pm4 cd4 ct4 oc5 kV5 dc5 pm5 cd5 ct5 oc6 kV6 dc6 pm6 cd6 ct6 oc7 kV7 dc7 pm7 cd7 ct7 oc8 kV8 dc8 pm8 cd8 ct8 oc9 kV9 dc9 pm9 cd9 ct9 oc10 kV10 dc10 pm10 cd10 ct10 oc11 kV11 dc11 pm11 cd11 ct11 oc12 kV12 dc12 pm12 cd12 ct12 oc13 kV13 dc13 pm13 cd13 ct13 oc14 kV14 dc14 pm14 cd14 ct14 oc15 kV15 dc15 pm15 cd15 ct15 oc16 kV16 dc16 pm16 cd16 ct16 oc17 kV17 dc17 pm17 cd17 ct17 oc18 kV18 dc18 pm18 cd18 ct18 oc19 kV19 dc19 pm19 cd19 ct19 oc20 kV20 dc20 pm20 cd20 ct20 oc21 kV21 dc21 pm21 cd21 ct21 oc22 kV22 dc22 pm22 cd22 ct22 oc23 kV23 dc23 pm23 cd23 ct23 oc24 kV24 dc24 pm24 cd24 ct24 : Value}
    (a0 : PySem.W.nsIn K mainGlobals "_law_cell" = some (some (.ref f0))) (l0 : K.lookup f0 = some ⟨oc0, od0, .func (PySem.W.fnOf "_law_cell" "_law_cell" (defArgs s__law_cell) (defBody s__law_cell) (defScope s__law_cell) .none kV0 dc0 pm0 an0 cd0 ct0), sl0⟩) (c0 : PySem.W.codeIn K cd0 "_law_cell" = true) (k0 : PySem.W.keepIn K (.ref f0) = true)
    (a1 : PySem.W.nsIn K mainGlobals "_law_people" = some (some (.ref f1))) (l1 : K.lookup f1 = some ⟨oc1, od1, .func (PySem.W.fnOf "_law_people" "_law_people" (defArgs s__law_people) (defBody s__law_people) (defScope s__law_people) .none kV1 dc1 pm1 an1 cd1 ct1), sl1⟩) (c1 : PySem.W.codeIn K cd1 "_law_people" = true) (k1 : PySem.W.keepIn K (.ref f1) = true)
    (a2 : PySem.W.nsIn K mainGlobals "_law_bid" = some (some (.ref f2))) (l2 : K.lookup f2 = some ⟨oc2, od2, .func (PySem.W.fnOf "_law_bid" "_law_bid" (defArgs s__law_bid) (defBody s__law_bid) (defScope s__law_bid) .none kV2 dc2 pm2 an2 cd2 ct2), sl2⟩) (c2 : PySem.W.codeIn K cd2 "_law_bid" = true) (k2 : PySem.W.keepIn K (.ref f2) = true)
    (a3 : PySem.W.nsIn K mainGlobals "_law_bids" = some (some (.ref f3))) (l3 : K.lookup f3 = some ⟨oc3, od3, .func (PySem.W.fnOf "_law_bids" "_law_bids" (defArgs s__law_bids) (defBody s__law_bids) (defScope s__law_bids) .none kV3 dc3 pm3 an3 cd3 ct3), sl3⟩) (c3 : PySem.W.codeIn K cd3 "_law_bids" = true) (k3 : PySem.W.keepIn K (.ref f3) = true)
    (a4 : PySem.W.nsIn K mainGlobals "is_number" = some (some (.ref f4))) (l4 : K.lookup f4 = some ⟨oc4, od4, .func (PySem.W.fnOf "is_number" "is_number" (defArgs s_is_number) (defBody s_is_number) (defScope s_is_number) .none kV4 dc4 pm4 an4 cd4 ct4), sl4⟩) (c4 : PySem.W.codeIn K cd4 "is_number" = true) (k4 : PySem.W.keepIn K (.ref f4) = true)
    (a5 : PySem.W.nsIn K mainGlobals "is_bid" = some (some (.ref f5))) (l5 : K.lookup f5 = some ⟨oc5, od5, .func (PySem.W.fnOf "is_bid" "is_bid" (defArgs s_is_bid) (defBody s_is_bid) (defScope s_is_bid) .none kV5 dc5 pm5 an5 cd5 ct5), sl5⟩) (c5 : PySem.W.codeIn K cd5 "is_bid" = true) (k5 : PySem.W.keepIn K (.ref f5) = true)
    (a6 : PySem.W.nsIn K mainGlobals "check_line" = some (some (.ref f6))) (l6 : K.lookup f6 = some ⟨oc6, od6, .func (PySem.W.fnOf "check_line" "check_line" (defArgs s_check_line) (defBody s_check_line) (defScope s_check_line) .none kV6 dc6 pm6 an6 cd6 ct6), sl6⟩) (c6 : PySem.W.codeIn K cd6 "check_line" = true) (k6 : PySem.W.keepIn K (.ref f6) = true)
    (a7 : PySem.W.nsIn K mainGlobals "check_bids" = some (some (.ref f7))) (l7 : K.lookup f7 = some ⟨oc7, od7, .func (PySem.W.fnOf "check_bids" "check_bids" (defArgs s_check_bids) (defBody s_check_bids) (defScope s_check_bids) .none kV7 dc7 pm7 an7 cd7 ct7), sl7⟩) (c7 : PySem.W.codeIn K cd7 "check_bids" = true) (k7 : PySem.W.keepIn K (.ref f7) = true)
    (a8 : PySem.W.nsIn K mainGlobals "first_of_most" = some (some (.ref f8))) (l8 : K.lookup f8 = some ⟨oc8, od8, .func (PySem.W.fnOf "first_of_most" "first_of_most" (defArgs s_first_of_most) (defBody s_first_of_most) (defScope s_first_of_most) .none kV8 dc8 pm8 an8 cd8 ct8), sl8⟩) (c8 : PySem.W.codeIn K cd8 "first_of_most" = true) (k8 : PySem.W.keepIn K (.ref f8) = true)
    (a9 : PySem.W.nsIn K mainGlobals "given" = some (some (.ref f9))) (l9 : K.lookup f9 = some ⟨oc9, od9, .func (PySem.W.fnOf "given" "given" (defArgs s_given) (defBody s_given) (defScope s_given) .none kV9 dc9 pm9 an9 cd9 ct9), sl9⟩) (c9 : PySem.W.codeIn K cd9 "given" = true) (k9 : PySem.W.keepIn K (.ref f9) = true)
    (a10 : PySem.W.nsIn K mainGlobals "is_place" = some (some (.ref f10))) (l10 : K.lookup f10 = some ⟨oc10, od10, .func (PySem.W.fnOf "is_place" "is_place" (defArgs s_is_place) (defBody s_is_place) (defScope s_is_place) .none kV10 dc10 pm10 an10 cd10 ct10), sl10⟩) (c10 : PySem.W.codeIn K cd10 "is_place" = true) (k10 : PySem.W.keepIn K (.ref f10) = true)
    (a11 : PySem.W.nsIn K mainGlobals "worth" = some (some (.ref f11))) (l11 : K.lookup f11 = some ⟨oc11, od11, .func (PySem.W.fnOf "worth" "worth" (defArgs s_worth) (defBody s_worth) (defScope s_worth) .none kV11 dc11 pm11 an11 cd11 ct11), sl11⟩) (c11 : PySem.W.codeIn K cd11 "worth" = true) (k11 : PySem.W.keepIn K (.ref f11) = true)
    (a12 : PySem.W.nsIn K mainGlobals "in_heaps" = some (some (.ref f12))) (l12 : K.lookup f12 = some ⟨oc12, od12, .func (PySem.W.fnOf "in_heaps" "in_heaps" (defArgs s_in_heaps) (defBody s_in_heaps) (defScope s_in_heaps) .none kV12 dc12 pm12 an12 cd12 ct12), sl12⟩) (c12 : PySem.W.codeIn K cd12 "in_heaps" = true) (k12 : PySem.W.keepIn K (.ref f12) = true)
    (a13 : PySem.W.nsIn K mainGlobals "with_one_more" = some (some (.ref f13))) (l13 : K.lookup f13 = some ⟨oc13, od13, .func (PySem.W.fnOf "with_one_more" "with_one_more" (defArgs s_with_one_more) (defBody s_with_one_more) (defScope s_with_one_more) .none kV13 dc13 pm13 an13 cd13 ct13), sl13⟩) (c13 : PySem.W.codeIn K cd13 "with_one_more" = true) (k13 : PySem.W.keepIn K (.ref f13) = true)
    (a14 : PySem.W.nsIn K mainGlobals "best_rooms" = some (some (.ref f14))) (l14 : K.lookup f14 = some ⟨oc14, od14, .func (PySem.W.fnOf "best_rooms" "best_rooms" (defArgs s_best_rooms) (defBody s_best_rooms) (defScope s_best_rooms) .none kV14 dc14 pm14 an14 cd14 ct14), sl14⟩) (c14 : PySem.W.codeIn K cd14 "best_rooms" = true) (k14 : PySem.W.keepIn K (.ref f14) = true)
    (a15 : PySem.W.nsIn K mainGlobals "prices" = some (some (.ref f15))) (l15 : K.lookup f15 = some ⟨oc15, od15, .func (PySem.W.fnOf "prices" "prices" (defArgs s_prices) (defBody s_prices) (defScope s_prices) .none kV15 dc15 pm15 an15 cd15 ct15), sl15⟩) (c15 : PySem.W.codeIn K cd15 "prices" = true) (k15 : PySem.W.keepIn K (.ref f15) = true)
    (a16 : PySem.W.nsIn K mainGlobals "in_rooms" = some (some (.ref f16))) (l16 : K.lookup f16 = some ⟨oc16, od16, .func (PySem.W.fnOf "in_rooms" "in_rooms" (defArgs s_in_rooms) (defBody s_in_rooms) (defScope s_in_rooms) .none kV16 dc16 pm16 an16 cd16 ct16), sl16⟩) (c16 : PySem.W.codeIn K cd16 "in_rooms" = true) (k16 : PySem.W.keepIn K (.ref f16) = true)
    (a17 : PySem.W.nsIn K mainGlobals "_law_dealt" = some (some (.ref f17))) (l17 : K.lookup f17 = some ⟨oc17, od17, .func (PySem.W.fnOf "_law_dealt" "_law_dealt" (defArgs s__law_dealt) (defBody s__law_dealt) (defScope s__law_dealt) .none kV17 dc17 pm17 an17 cd17 ct17), sl17⟩) (c17 : PySem.W.codeIn K cd17 "_law_dealt" = true) (k17 : PySem.W.keepIn K (.ref f17) = true)
    (a18 : PySem.W.nsIn K mainGlobals "_law_draws" = some (some (.ref f18))) (l18 : K.lookup f18 = some ⟨oc18, od18, .func (PySem.W.fnOf "_law_draws" "_law_draws" (defArgs s__law_draws) (defBody s__law_draws) (defScope s__law_draws) .none kV18 dc18 pm18 an18 cd18 ct18), sl18⟩) (c18 : PySem.W.codeIn K cd18 "_law_draws" = true) (k18 : PySem.W.keepIn K (.ref f18) = true)
    (a19 : PySem.W.nsIn K mainGlobals "_law_whole" = some (some (.ref f19))) (l19 : K.lookup f19 = some ⟨oc19, od19, .func (PySem.W.fnOf "_law_whole" "_law_whole" (defArgs s__law_whole) (defBody s__law_whole) (defScope s__law_whole) .none kV19 dc19 pm19 an19 cd19 ct19), sl19⟩) (c19 : PySem.W.codeIn K cd19 "_law_whole" = true) (k19 : PySem.W.keepIn K (.ref f19) = true)
    (a20 : PySem.W.nsIn K mainGlobals "_law_heaps" = some (some (.ref f20))) (l20 : K.lookup f20 = some ⟨oc20, od20, .func (PySem.W.fnOf "_law_heaps" "_law_heaps" (defArgs s__law_heaps) (defBody s__law_heaps) (defScope s__law_heaps) .none kV20 dc20 pm20 an20 cd20 ct20), sl20⟩) (c20 : PySem.W.codeIn K cd20 "_law_heaps" = true) (k20 : PySem.W.keepIn K (.ref f20) = true)
    (a21 : PySem.W.nsIn K mainGlobals "_law_numbers" = some (some (.ref f21))) (l21 : K.lookup f21 = some ⟨oc21, od21, .func (PySem.W.fnOf "_law_numbers" "_law_numbers" (defArgs s__law_numbers) (defBody s__law_numbers) (defScope s__law_numbers) .none kV21 dc21 pm21 an21 cd21 ct21), sl21⟩) (c21 : PySem.W.codeIn K cd21 "_law_numbers" = true) (k21 : PySem.W.keepIn K (.ref f21) = true)
    (a22 : PySem.W.nsIn K mainGlobals "_law_deal" = some (some (.ref f22))) (l22 : K.lookup f22 = some ⟨oc22, od22, .func (PySem.W.fnOf "_law_deal" "_law_deal" (defArgs s__law_deal) (defBody s__law_deal) (defScope s__law_deal) .none kV22 dc22 pm22 an22 cd22 ct22), sl22⟩) (c22 : PySem.W.codeIn K cd22 "_law_deal" = true) (k22 : PySem.W.keepIn K (.ref f22) = true)
    (a23 : PySem.W.nsIn K mainGlobals "_law_worth" = some (some (.ref f23))) (l23 : K.lookup f23 = some ⟨oc23, od23, .func (PySem.W.fnOf "_law_worth" "_law_worth" (defArgs s__law_worth) (defBody s__law_worth) (defScope s__law_worth) .none kV23 dc23 pm23 an23 cd23 ct23), sl23⟩) (c23 : PySem.W.codeIn K cd23 "_law_worth" = true) (k23 : PySem.W.keepIn K (.ref f23) = true)
    (a24 : PySem.W.nsIn K mainGlobals "law" = some (some (.ref f24))) (l24 : K.lookup f24 = some ⟨oc24, od24, .func (PySem.W.fnOf "law" "law" (defArgs s_law) (defBody s_law) (defScope s_law) .none kV24 dc24 pm24 an24 cd24 ct24), sl24⟩) (c24 : PySem.W.codeIn K cd24 "law" = true) (k24 : PySem.W.keepIn K (.ref f24) = true)
    (z_len : PySem.W.nsIn K mainGlobals "len" = some none) (z_range : PySem.W.nsIn K mainGlobals "range" = some none) (z_sum : PySem.W.nsIn K mainGlobals "sum" = some none) (z_isinstance : PySem.W.nsIn K mainGlobals "isinstance" = some none) (z_int : PySem.W.nsIn K mainGlobals "int" = some none) (z_bool : PySem.W.nsIn K mainGlobals "bool" = some none) (z_list : PySem.W.nsIn K mainGlobals "list" = some none) (z_tuple : PySem.W.nsIn K mainGlobals "tuple" = some none) (z_sorted : PySem.W.nsIn K mainGlobals "sorted" = some none) (z_max : PySem.W.nsIn K mainGlobals "max" = some none) (z_min : PySem.W.nsIn K mainGlobals "min" = some none) (z_all : PySem.W.nsIn K mainGlobals "all" = some none) (z_any : PySem.W.nsIn K mainGlobals "any" = some none) (z_zip : PySem.W.nsIn K mainGlobals "zip" = some none) (z_str : PySem.W.nsIn K mainGlobals "str" = some none) (z_ValueError : PySem.W.nsIn K mainGlobals "ValueError" = some none)
    {t_MOST_PEOPLE t_MOST_GOODS t_GREATEST_BID : Tok} (q_MOST_PEOPLE : PySem.W.nsIn K mainGlobals "MOST_PEOPLE" = some (some (.int 9 t_MOST_PEOPLE))) (q_MOST_GOODS : PySem.W.nsIn K mainGlobals "MOST_GOODS" = some (some (.int 40 t_MOST_GOODS))) (q_GREATEST_BID : PySem.W.nsIn K mainGlobals "GREATEST_BID" = some (some (.int 1000000000000 t_GREATEST_BID)))
    : ∃ fd : FuncData, (∀ (s : Shared) (v : Value), BindsTo s fd ⟨[v], []⟩ [("_law_script", v)]) ∧ ∀ base : Heap, K.In base → base.Ns mainGlobals mg → FnOk l.prog w K mg base CX0 7 fa fd ["_law_script"] (sp_law K) := by
  have e := hfa.symm.trans (PySem.W.mg_of X G a24)
  cases e
  have B : Bt mg := ⟨PySem.W.mg_none_of X G z_len, PySem.W.mg_none_of X G z_range, PySem.W.mg_none_of X G z_sum, PySem.W.mg_none_of X G z_isinstance, PySem.W.mg_none_of X G z_int, PySem.W.mg_none_of X G z_bool, PySem.W.mg_none_of X G z_list, PySem.W.mg_none_of X G z_tuple, PySem.W.mg_none_of X G z_sorted, PySem.W.mg_none_of X G z_max, PySem.W.mg_none_of X G z_min, PySem.W.mg_none_of X G z_all, PySem.W.mg_none_of X G z_any, PySem.W.mg_none_of X G z_zip, PySem.W.mg_none_of X G z_str, PySem.W.mg_none_of X G z_ValueError⟩
  have c_MOST_PEOPLE : KInt mg "MOST_PEOPLE" 9 := ⟨_, PySem.W.mg_of X G q_MOST_PEOPLE⟩
  have c_MOST_GOODS : KInt mg "MOST_GOODS" 40 := ⟨_, PySem.W.mg_of X G q_MOST_GOODS⟩
  have c_GREATEST_BID : KInt mg "GREATEST_BID" 1000000000000 := ⟨_, PySem.W.mg_of X G q_GREATEST_BID⟩
  have F0 := fun_mk (st := s__law_cell) l0 c0 k0
  have b0 := F0.binds (ps := ["_law_script", "_law_k"]) fun _ _ _ _ _ _ us hl => match us, hl with | [_, _], _ => rfl
  have D0 : DnX K mg "_law_cell" s__law_cell ["_law_script", "_law_k"] := ⟨_, _, F0, PySem.W.mg_of X G a0, b0⟩
  have F1 := fun_mk (st := s__law_people) l1 c1 k1
  have b1 := F1.binds (ps := ["_law_script"]) fun _ _ _ _ _ _ us hl => match us, hl with | [_], _ => rfl
  have D1 : DnX K mg "_law_people" s__law_people ["_law_script"] := ⟨_, _, F1, PySem.W.mg_of X G a1, b1⟩
  have F2 := fun_mk (st := s__law_bid) l2 c2 k2
  have b2 := F2.binds (ps := ["_law_cell_here", "_law_kind"]) fun _ _ _ _ _ _ us hl => match us, hl with | [_, _], _ => rfl
  have D2 : DnX K mg "_law_bid" s__law_bid ["_law_cell_here", "_law_kind"] := ⟨_, _, F2, PySem.W.mg_of X G a2, b2⟩
  have F3 := fun_mk (st := s__law_bids) l3 c3 k3
  have b3 := F3.binds (ps := ["_law_script", "_law_first", "_law_people_here", "_law_goods", "_law_kind"]) fun _ _ _ _ _ _ us hl => match us, hl with | [_, _, _, _, _], _ => rfl
  have D3 : DnX K mg "_law_bids" s__law_bids ["_law_script", "_law_first", "_law_people_here", "_law_goods", "_law_kind"] := ⟨_, _, F3, PySem.W.mg_of X G a3, b3⟩
  have F4 := fun_mk (st := s_is_number) l4 c4 k4
  have b4 := F4.binds (ps := ["thing"]) fun _ _ _ _ _ _ us hl => match us, hl with | [_], _ => rfl
  have D4 : DnX K mg "is_number" s_is_number ["thing"] := ⟨_, _, F4, PySem.W.mg_of X G a4, b4⟩
  have F5 := fun_mk (st := s_is_bid) l5 c5 k5
  have b5 := F5.binds (ps := ["thing"]) fun _ _ _ _ _ _ us hl => match us, hl with | [_], _ => rfl
  have D5 : DnX K mg "is_bid" s_is_bid ["thing"] := ⟨_, _, F5, PySem.W.mg_of X G a5, b5⟩
  have F6 := fun_mk (st := s_check_line) l6 c6 k6
  have b6 := F6.binds (ps := ["line", "many"]) fun _ _ _ _ _ _ us hl => match us, hl with | [_, _], _ => rfl
  have D6 : DnX K mg "check_line" s_check_line ["line", "many"] := ⟨_, _, F6, PySem.W.mg_of X G a6, b6⟩
  have F7 := fun_mk (st := s_check_bids) l7 c7 k7
  have b7 := F7.binds (ps := ["bids"]) fun _ _ _ _ _ _ us hl => match us, hl with | [_], _ => rfl
  have D7 : DnX K mg "check_bids" s_check_bids ["bids"] := ⟨_, _, F7, PySem.W.mg_of X G a7, b7⟩
  have F8 := fun_mk (st := s_first_of_most) l8 c8 k8
  have b8 := F8.binds (ps := ["bids", "good"]) fun _ _ _ _ _ _ us hl => match us, hl with | [_, _], _ => rfl
  have D8 : DnX K mg "first_of_most" s_first_of_most ["bids", "good"] := ⟨_, _, F8, PySem.W.mg_of X G a8, b8⟩
  have F9 := fun_mk (st := s_given) l9 c9 k9
  have b9 := F9.binds (ps := ["bids"]) fun _ _ _ _ _ _ us hl => match us, hl with | [_], _ => rfl
  have D9 : DnX K mg "given" s_given ["bids"] := ⟨_, _, F9, PySem.W.mg_of X G a9, b9⟩
  have F10 := fun_mk (st := s_is_place) l10 c10 k10
  have b10 := F10.binds (ps := ["thing", "many"]) fun _ _ _ _ _ _ us hl => match us, hl with | [_, _], _ => rfl
  have D10 : DnX K mg "is_place" s_is_place ["thing", "many"] := ⟨_, _, F10, PySem.W.mg_of X G a10, b10⟩
  have F11 := fun_mk (st := s_worth) l11 c11 k11
  have b11 := F11.binds (ps := ["row", "heap"]) fun _ _ _ _ _ _ us hl => match us, hl with | [_, _], _ => rfl
  have D11 : DnX K mg "worth" s_worth ["row", "heap"] := ⟨_, _, F11, PySem.W.mg_of X G a11, b11⟩
  have F12 := fun_mk (st := s_in_heaps) l12 c12 k12
  have b12 := F12.binds (ps := ["bids"]) fun _ _ _ _ _ _ us hl => match us, hl with | [_], _ => rfl
  have D12 : DnX K mg "in_heaps" s_in_heaps ["bids"] := ⟨_, _, F12, PySem.W.mg_of X G a12, b12⟩
  have F13 := fun_mk (st := s_with_one_more) l13 c13 k13
  have b13 := F13.binds (ps := ["best", "row"]) fun _ _ _ _ _ _ us hl => match us, hl with | [_, _], _ => rfl
  have D13 : DnX K mg "with_one_more" s_with_one_more ["best", "row"] := ⟨_, _, F13, PySem.W.mg_of X G a13, b13⟩
  have F14 := fun_mk (st := s_best_rooms) l14 c14 k14
  have b14 := F14.binds (ps := ["rows"]) fun _ _ _ _ _ _ us hl => match us, hl with | [_], _ => rfl
  have D14 : DnX K mg "best_rooms" s_best_rooms ["rows"] := ⟨_, _, F14, PySem.W.mg_of X G a14, b14⟩
  have F15 := fun_mk (st := s_prices) l15 c15 k15
  have b15 := F15.binds (ps := ["rows", "rooms"]) fun _ _ _ _ _ _ us hl => match us, hl with | [_, _], _ => rfl
  have D15 : DnX K mg "prices" s_prices ["rows", "rooms"] := ⟨_, _, F15, PySem.W.mg_of X G a15, b15⟩
  have F16 := fun_mk (st := s_in_rooms) l16 c16 k16
  have b16 := F16.binds (ps := ["bids"]) fun _ _ _ _ _ _ us hl => match us, hl with | [_], _ => rfl
  have D16 : DnX K mg "in_rooms" s_in_rooms ["bids"] := ⟨_, _, F16, PySem.W.mg_of X G a16, b16⟩
  have F17 := fun_mk (st := s__law_dealt) l17 c17 k17
  have b17 := F17.binds (ps := ["_law_bids_here", "_law_rooms"]) fun _ _ _ _ _ _ us hl => match us, hl with | [_, _], _ => rfl
  have D17 : DnX K mg "_law_dealt" s__law_dealt ["_law_bids_here", "_law_rooms"] := ⟨_, _, F17, PySem.W.mg_of X G a17, b17⟩
  have F18 := fun_mk (st := s__law_draws) l18 c18 k18
  have b18 := F18.binds (ps := ["_law_cell_here", "_law_many"]) fun _ _ _ _ _ _ us hl => match us, hl with | [_, _], _ => rfl
  have D18 : DnX K mg "_law_draws" s__law_draws ["_law_cell_here", "_law_many"] := ⟨_, _, F18, PySem.W.mg_of X G a18, b18⟩
  have F19 := fun_mk (st := s__law_whole) l19 c19 k19
  have b19 := F19.binds (ps := ["_law_found"]) fun _ _ _ _ _ _ us hl => match us, hl with | [_], _ => rfl
  have D19 : DnX K mg "_law_whole" s__law_whole ["_law_found"] := ⟨_, _, F19, PySem.W.mg_of X G a19, b19⟩
  have F20 := fun_mk (st := s__law_heaps) l20 c20 k20
  have b20 := F20.binds (ps := ["_law_found", "_law_people_here", "_law_goods"]) fun _ _ _ _ _ _ us hl => match us, hl with | [_, _, _], _ => rfl
  have D20 : DnX K mg "_law_heaps" s__law_heaps ["_law_found", "_law_people_here", "_law_goods"] := ⟨_, _, F20, PySem.W.mg_of X G a20, b20⟩
  have F21 := fun_mk (st := s__law_numbers) l21 c21 k21
  have b21 := F21.binds (ps := ["_law_found", "_law_many"]) fun _ _ _ _ _ _ us hl => match us, hl with | [_, _], _ => rfl
  have D21 : DnX K mg "_law_numbers" s__law_numbers ["_law_found", "_law_many"] := ⟨_, _, F21, PySem.W.mg_of X G a21, b21⟩
  have F22 := fun_mk (st := s__law_deal) l22 c22 k22
  have b22 := F22.binds (ps := ["_law_found", "_law_people_here", "_law_goods"]) fun _ _ _ _ _ _ us hl => match us, hl with | [_, _, _], _ => rfl
  have D22 : DnX K mg "_law_deal" s__law_deal ["_law_found", "_law_people_here", "_law_goods"] := ⟨_, _, F22, PySem.W.mg_of X G a22, b22⟩
  have F23 := fun_mk (st := s__law_worth) l23 c23 k23
  have b23 := F23.binds (ps := ["_law_row", "_law_heap"]) fun _ _ _ _ _ _ us hl => match us, hl with | [_, _], _ => rfl
  have D23 : DnX K mg "_law_worth" s__law_worth ["_law_row", "_law_heap"] := ⟨_, _, F23, PySem.W.mg_of X G a23, b23⟩
  have F24 := fun_mk (st := s_law) l24 c24 k24
  have b24 := F24.binds (ps := ["_law_script"]) fun _ _ _ _ _ _ us hl => match us, hl with | [_], _ => rfl
  have D24 : DnX K mg "law" s_law ["_law_script"] := ⟨_, _, F24, PySem.W.mg_of X G a24, b24⟩
  exact ⟨PySem.W.fnOf "law" "law" (defArgs s_law) (defBody s_law) (defScope s_law) .none kV24 dc24 pm24 an24 cd24 ct24, fun s v => .of_eq rfl, fun base _ _ => by
    have O__law_cell := ok__law_cell (P := l.prog) (w := w) (base := base) D0 B
    have O__law_people := ok__law_people (P := l.prog) (w := w) (base := base) D1 B O__law_cell
    have O__law_bid := ok__law_bid (P := l.prog) (w := w) (base := base) D2 B
    have O__law_bids := ok__law_bids (P := l.prog) (w := w) (base := base) D3 B O__law_bid O__law_cell
    have O_is_number := ok_is_number (P := l.prog) (w := w) (base := base) D4 B
    have O_is_bid := ok_is_bid (P := l.prog) (w := w) (base := base) D5 B c_GREATEST_BID O_is_number
    have O_check_line := ok_check_line (P := l.prog) (w := w) (base := base) D6 B O_is_bid
    have O_check_bids := ok_check_bids (P := l.prog) (w := w) (base := base) D7 B c_MOST_PEOPLE c_MOST_GOODS O_check_line
    have O_first_of_most := ok_first_of_most (P := l.prog) (w := w) (base := base) D8 B
    have O_given := ok_given (P := l.prog) (w := w) (base := base) D9 B O_first_of_most
    have O_is_place := ok_is_place (P := l.prog) (w := w) (base := base) D10 B O_is_number
    have O_worth := ok_worth (P := l.prog) (w := w) (base := base) D11 B O_is_place
    have O_in_heaps := ok_in_heaps (P := l.prog) (w := w) (base := base) D12 B O_check_bids O_given O_worth
    have O_with_one_more := ok_with_one_more (P := l.prog) (w := w) (base := base) D13 B
    have O_best_rooms := ok_best_rooms (P := l.prog) (w := w) (base := base) D14 B O_with_one_more
    have O_prices := ok_prices (P := l.prog) (w := w) (base := base) D15 B
    have O_in_rooms := ok_in_rooms (P := l.prog) (w := w) (base := base) D16 B O_check_bids O_best_rooms O_prices
    have O__law_dealt := ok__law_dealt (P := l.prog) (w := w) (base := base) D17 B O_in_heaps O_in_rooms
    have O__law_draws := ok__law_draws (P := l.prog) (w := w) (base := base) D18 B
    have O__law_whole := ok__law_whole (P := l.prog) (w := w) (base := base) D19 B
    have O__law_heaps := ok__law_heaps (P := l.prog) (w := w) (base := base) D20 B O__law_whole
    have O__law_numbers := ok__law_numbers (P := l.prog) (w := w) (base := base) D21 B O__law_whole
    have O__law_deal := ok__law_deal (P := l.prog) (w := w) (base := base) D22 B O__law_heaps O__law_numbers
    have O__law_worth := ok__law_worth (P := l.prog) (w := w) (base := base) D23 B
    exact ok_fn F24 (PySem.W.mg_of X G a24) (ok_law (P := l.prog) (w := w) (base := base) D24 B O__law_people O__law_bids O__law_dealt O__law_cell O__law_draws O__law_deal O__law_worth)⟩
end Fk12
open PySem PySem.W PyProof.Rows
set_option maxHeartbeats 0 in
theorem PySem.Challenge.cw_fairsplit_k12_whole_nobody_below_holds : PySem.Challenge.rw_fairsplit_k12_whole_nobody_below.Holds := by
  w_on; o_law; k_head; (case hw => w_witness2)
  k_fill
  refine L2.walk_of (l := PySem.Challenge.rw_fairsplit_k12_whole_nobody_below) (n := 63) (k := 7) (x := "_law_script") (CX := fun _ => L2.CX0) (sp := fun w => Fk12.sp_law _) rfl (by decide) rfl ⟨rfl, by decide, by decide⟩ (fun w h Y => PySem.W.kIn_of Y) ?F (fun _ H a ns hl hO hS => Fk12.law_start hl hS) (fun _ _ _ _ _ h => h)
  case F =>
    intro w mg fa h KX G hmg
    refine' Fk12.all_mk KX G hmg ?a0 ?l0 ?c0 ?k0 ?a1 ?l1 ?c1 ?k1 ?a2 ?l2 ?c2 ?k2 ?a3 ?l3 ?c3 ?k3 ?a4 ?l4 ?c4 ?k4 ?a5 ?l5 ?c5 ?k5 ?a6 ?l6 ?c6 ?k6 ?a7 ?l7 ?c7 ?k7 ?a8 ?l8 ?c8 ?k8 ?a9 ?l9 ?c9 ?k9 ?a10 ?l10 ?c10 ?k10 ?a11 ?l11 ?c11 ?k11 ?a12 ?l12 ?c12 ?k12 ?a13 ?l13 ?c13 ?k13 ?a14 ?l14 ?c14 ?k14 ?a15 ?l15 ?c15 ?k15 ?a16 ?l16 ?c16 ?k16 ?a17 ?l17 ?c17 ?k17 ?a18 ?l18 ?c18 ?k18 ?a19 ?l19 ?c19 ?k19 ?a20 ?l20 ?c20 ?k20 ?a21 ?l21 ?c21 ?k21 ?a22 ?l22 ?c22 ?k22 ?a23 ?l23 ?c23 ?k23 ?a24 ?l24 ?c24 ?k24 ?z_len ?z_range ?z_sum ?z_isinstance ?z_int ?z_bool ?z_list ?z_tuple ?z_sorted ?z_max ?z_min ?z_all ?z_any ?z_zip ?z_str ?z_ValueError ?q_MOST_PEOPLE ?q_MOST_GOODS ?q_GREATEST_BID
    (case a0 => k_is); (case l0 => k_is); (case c0 => k_is); (case k0 => k_is); (case a1 => k_is); (case l1 => k_is); (case c1 => k_is); (case k1 => k_is); (case a2 => k_is); (case l2 => k_is); (case c2 => k_is); (case k2 => k_is)
    (case a3 => k_is); (case l3 => k_is); (case c3 => k_is); (case k3 => k_is); (case a4 => k_is); (case l4 => k_is); (case c4 => k_is); (case k4 => k_is); (case a5 => k_is); (case l5 => k_is); (case c5 => k_is); (case k5 => k_is)
    (case a6 => k_is); (case l6 => k_is); (case c6 => k_is); (case k6 => k_is); (case a7 => k_is); (case l7 => k_is); (case c7 => k_is); (case k7 => k_is); (case a8 => k_is); (case l8 => k_is); (case c8 => k_is); (case k8 => k_is)
    (case a9 => k_is); (case l9 => k_is); (case c9 => k_is); (case k9 => k_is); (case a10 => k_is); (case l10 => k_is); (case c10 => k_is); (case k10 => k_is); (case a11 => k_is); (case l11 => k_is); (case c11 => k_is); (case k11 => k_is)
    (case a12 => k_is); (case l12 => k_is); (case c12 => k_is); (case k12 => k_is); (case a13 => k_is); (case l13 => k_is); (case c13 => k_is); (case k13 => k_is); (case a14 => k_is); (case l14 => k_is); (case c14 => k_is); (case k14 => k_is)
    (case a15 => k_is); (case l15 => k_is); (case c15 => k_is); (case k15 => k_is); (case a16 => k_is); (case l16 => k_is); (case c16 => k_is); (case k16 => k_is); (case a17 => k_is); (case l17 => k_is); (case c17 => k_is); (case k17 => k_is)
    (case a18 => k_is); (case l18 => k_is); (case c18 => k_is); (case k18 => k_is); (case a19 => k_is); (case l19 => k_is); (case c19 => k_is); (case k19 => k_is); (case a20 => k_is); (case l20 => k_is); (case c20 => k_is); (case k20 => k_is)
    (case a21 => k_is); (case l21 => k_is); (case c21 => k_is); (case k21 => k_is); (case a22 => k_is); (case l22 => k_is); (case c22 => k_is); (case k22 => k_is); (case a23 => k_is); (case l23 => k_is); (case c23 => k_is); (case k23 => k_is)
    (case a24 => k_is); (case l24 => k_is); (case c24 => k_is); (case k24 => k_is); (case z_len => k_is); (case z_range => k_is); (case z_sum => k_is); (case z_isinstance => k_is); (case z_int => k_is); (case z_bool => k_is); (case z_list => k_is); (case z_tuple => k_is)
    (case z_sorted => k_is); (case z_max => k_is); (case z_min => k_is); (case z_all => k_is); (case z_any => k_is); (case z_zip => k_is); (case z_str => k_is); (case z_ValueError => k_is); (case q_MOST_PEOPLE => k_is); (case q_MOST_GOODS => k_is); (case q_GREATEST_BID => k_is)
