import PyProof.Rows.All
import Wide.All
import OpenK.AllK
import Wide.FinOn
import HandS.ForMost
import HandS.Evl
import HandS.IsInst
import HandS.Conv
import HandS.SortInts
import HandS.Style
import HandS.WordsExc
import HandS.Zip
import HandS.More
import KE.GoesRaise
import HandS.Deep
import HandS.Walk
import HandS.Replace
import HandS.Text
import HandS.StrMore
import HandS.Replace
import HandS.ForExc
import HandS.TryMany
import HandS.ExcIs
import PySem.Challenge.RW_fairsplit_k07_texts_read
set_option Elab.async false
set_option linter.all false
set_option maxRecDepth 100000
set_option maxHeartbeats 4000000
/-! Fs: what all the proofs share. -/
namespace Fs
open PySem PySem.Spec PyProof.Rows L2 Evl
/-- the built-in names are not the program's own -/
structure Bt (mg : Str → Option Value) : Prop where
  len : mg "len" = none
  range : mg "range" = none
  sum : mg "sum" = none
  isinstance : mg "isinstance" = none
  int : mg "int" = none
  bool : mg "bool" = none
  list : mg "list" = none
  tuple : mg "tuple" = none
  sorted : mg "sorted" = none
  max : mg "max" = none
  min : mg "min" = none
  all : mg "all" = none
  any : mg "any" = none
  zip : mg "zip" = none
  str : mg "str" = none
  ValueError : mg "ValueError" = none
/-- a def that stands in the text -/
def DnX (K : PySem.W.Frag) (mg : Str → Option Value) (x : Str) (st : Stmt) (ps : List Str) : Prop :=
  ∃ f fd, Fun K x x st f fd ∧ mg x = some (.ref f) ∧ Binds K fd ps []
/-- a def that keeps its promise -/
def Ok (P : Program) (w : World) (K : PySem.W.Frag) (mg : Str → Option Value) (base : Heap) (CX : CXT) (k : Nat) (x : Str) (ps : List Str) (sp : Sp) : Prop :=
  ∃ f fd, FnOk P w K mg base CX k f fd ps sp ∧ mg x = some (.ref f) ∧ PySem.W.keepIn K (.ref f) = true ∧ Binds K fd ps [] ∧ ∃ oc od osl, K.lookup f = some ⟨oc, od, .func fd, osl⟩
section
variable {P : Program} {w : World} {K : PySem.W.Frag} {mg : Str → Option Value} {base : Heap}
theorem ok_of {x : Str} {st : Stmt} {N ps : List Str} {k : Nat} {sp : Sp} (D : DnX K mg x st ps) (S : FnScope N ps (defScope st)) (len : ∀ vs H Q E, sp vs H Q E → vs.length = ps.length)
    (hbody : ∀ (f : Addr) (cdv : Value) (A : Around) (outer : List Env) (s : Shared) (H : Hp) (vs : List V) (Q : VK) (E : XK), Room k (A.deeper (envOfC x (defScope st) s.heap.objs.size f cdv)) → sp vs H Q E →
      ∃ t, PSs (cxOf CX0 P w K mg base N x (defScope st) f cdv A outer s H E).nox (defBody st) t ∧ t { nx := fun _ H' => Q .non H', rt := Q } (start N vs) H) : Ok P w K mg base CX0 (k + 1) x ps sp := by
  obtain ⟨f, fd, F, g, b⟩ := D
  have F0 := F
  obtain ⟨oc, od, _, _, _, _, _, _, osl, _, lk, _⟩ := F0.ex
  exact ⟨f, fd, F.ok S len fun cdv A outer s H vs Q E hr h => hbody f cdv A outer s H vs Q E hr h, g, F.kp, b, oc, od, osl, lk⟩
theorem Ok.mono {CX : CXT} {j k : Nat} {x : Str} {ps : List Str} {sp : Sp} (h : Ok P w K mg base CX j x ps sp) (l : j ≤ k) : Ok P w K mg base CX k x ps sp := by
  obtain ⟨f, fd, F, g, b⟩ := h
  exact ⟨f, fd, F.mono l, g, b⟩
end
/-- a module's constant -/
def KInt (mg : Str → Option Value) (x : Str) (i : Int) : Prop := ∃ t, mg x = some (.int i t)
/-- the law's own def, as the head wants it -/
theorem ok_fn {P : Program} {w : World} {K : PySem.W.Frag} {mg : Str → Option Value} {base : Heap} {CX : CXT} {k : Nat} {x : Str} {st : Stmt} {ps : List Str} {sp : Sp} {f : Addr} {fd : FuncData} (F : Fun K x x st f fd) (g : mg x = some (.ref f)) (h : Ok P w K mg base CX k x ps sp) :
    FnOk P w K mg base CX k f fd ps sp := by
  obtain ⟨f2, fd2, F2, g2, _, _, oc2, od2, osl2, lk2⟩ := h
  cases g.symm.trans g2
  obtain ⟨oc, od, _, _, _, _, _, _, osl, _, lk, _⟩ := F.ex
  cases lk.symm.trans lk2
  exact F2
section
variable {X : Cx}
theorem pe_const {x : Str} {i : Int} {pos : Pos} (hg : Gl X x) (h : KInt X.mg x i) (hd : (x == ("__debug__" : Str)) = false := by decide) : PE X (.Name x pos) (tC (.int i)) := by
  obtain ⟨t, hm⟩ := h
  exact pe_glob hg hm ⟨t, rfl⟩ hd
theorem pe_ok {CX : CXT} {k : Nat} {x : Str} {ps : List Str} {sp : Sp} {E : XK} {e : Expr} {es : List Expr} {t : TA} {p pos : Pos} (h : Ok X.prog X.w X.K X.mg X.base CX k x ps sp) (hr : Room k X.A) (hg : Gl X x) (hx : Passes CX X E) (ha : PA X (e :: es) t)
    (hdb : (x == ("__debug__" : Str)) = false := by decide) (he : starEach (e :: es) X.env = (false, eval e X.env) :: starEach es X.env := by rfl) (hpl : (backTo pos (starEach es X.env)).any (·.1) = false := by rfl) :
    PE X (.Call (.Name x p) (e :: es) [] pos) (tCall sp [] E t) := by
  obtain ⟨f, fd, F, hm, hk, hb, _⟩ := h
  exact pe_call F hr hg hm hk hb .nil hx ha hdb he hpl
end
section
variable {X : Cx} {K : PySem.W.Frag}
theorem ixL (hK : X.K = K := by rfl) : IxR X (rIxL K) := by
  subst hK
  exact ix_list
theorem ixT (hK : X.K = K := by rfl) : IxR X (rIxT K) := by
  subst hK
  exact ix_tup
theorem lenK (hK : X.K = K := by rfl) : CallR X (.builtin "len") (rLenS K) := by
  subst hK
  exact call_len_seq
theorem listK (hK : X.K = K := by rfl) : CallR X (.type "list") (rListS K) := by
  subst hK
  exact call_list_of
theorem isiK (hK : X.K = K := by rfl) : CallR X (.builtin "isinstance") (rIsi K) := by
  subst hK
  exact call_isi
theorem sumK (hc : X.calm = true) (hK : X.K = K := by rfl) : CallR X (.builtin "sum") (rSum K) := by
  subst hK
  exact cr_sum hc
theorem allK (hc : X.calm = true) (hK : X.K = K := by rfl) : CallR X (.builtin "all") (rAll K) := by
  subst hK
  exact cr_all hc
theorem anyK (hc : X.calm = true) (hK : X.K = K := by rfl) : CallR X (.builtin "any") (rAny K) := by
  subst hK
  exact cr_any hc
theorem maxK (hc : X.calm = true) (hK : X.K = K := by rfl) : CallR X (.builtin "max") (rMax K) := by
  subst hK
  exact cr_max hc
theorem minK (hc : X.calm = true) (hK : X.K = K := by rfl) : CallR X (.builtin "min") (rMin K) := by
  subst hK
  exact cr_min hc
theorem sortedK (hK : X.K = K := by rfl) : CallR X (.builtin "sorted") (rSortedI K) := by
  subst hK
  exact cr_sortedI
theorem slK (hK : X.K = K := by rfl) : SlR X (rSlL K) := by
  subst hK
  exact sl_list
theorem eqK (hu : X.A.units + 64 < cLine) (hK : X.K = K := by rfl) : OpR X (compareOp .Eq) (rEqD K) := by
  subst hK
  exact op_eqD hu
theorem neK (hu : X.A.units + 64 < cLine) (hK : X.K = K := by rfl) : OpR X (compareOp .NotEq) (rNeD K) := by
  subst hK
  exact op_neD hu
theorem inK (hK : X.K = K := by rfl) : OpR X (compareOp .In) (rIn K false) := by
  subst hK
  exact op_in_seq
theorem notInK (hK : X.K = K := by rfl) : OpR X (compareOp .NotIn) (rIn K true) := by
  subst hK
  exact op_notIn_seq
theorem indexK (hK : X.K = K := by rfl) : MtR X "list.index" (rIndex K) := by
  subst hK
  exact mt_index
theorem pi_listK {tg l : Expr} {tl : TE} (hl : PE X l tl) (hK : X.K = K := by rfl) : PI X tg l (iList K tl) := by
  subst hK
  exact pi_list hl
theorem pi_tupK {tg l : Expr} {tl : TE} (hl : PE X l tl) (hK : X.K = K := by rfl) : PI X tg l (iTup K tl) := by
  subst hK
  exact pi_tup hl
theorem pg_tupK {es : List Expr} {k : Nat} {t : TGs} {n : Nat} {pos : Pos} (hc : X.calm = true) (h : PGs X es t) (hn : (assignEach es X.env).length = n := by rfl) (hst : (assignEach es X.env).findIdx? (·.1) = none := by rfl) (hK : X.K = K := by rfl) : PG X (.Tuple es k pos) (gTup K n t) := by
  subst hK
  exact pg_tup hc h hn hst
theorem pe_revK {e : Expr} {te : TE} {k : Nat} {p1 p2 p3 pos : Pos} (he : PE X e te) (hK : X.K = K := by rfl) : PE X (.Subscript e (.Slice none none (some (.UnaryOp .USub (.Constant (.int 1) k p1) p2)) p3) pos) (tRevL K te) := by
  subst hK
  exact pe_revL he
end
/-! promises by the number of arguments -/
abbrev sp1 (R : V → Hp → VK → Prop) : Sp := fun vs H Q _ => ∃ x, vs = [x] ∧ R x H Q
abbrev sp2 (R : V → V → Hp → VK → Prop) : Sp := fun vs H Q _ => ∃ x y, vs = [x, y] ∧ R x y H Q
abbrev sp3 (R : V → V → V → Hp → VK → Prop) : Sp := fun vs H Q _ => ∃ x y z, vs = [x, y, z] ∧ R x y z H Q
abbrev sp4 (R : V → V → V → V → Hp → VK → Prop) : Sp := fun vs H Q _ => ∃ x y z u, vs = [x, y, z, u] ∧ R x y z u H Q
abbrev sp5 (R : V → V → V → V → V → Hp → VK → Prop) : Sp := fun vs H Q _ => ∃ x y z u v, vs = [x, y, z, u, v] ∧ R x y z u v H Q
theorem len1 {R : V → Hp → VK → Prop} {vs : List V} {H : Hp} {Q : VK} {E : XK} (h : sp1 R vs H Q E) : vs.length = 1 := by
  obtain ⟨_, rfl, _⟩ := h
  rfl
theorem len2 {R : V → V → Hp → VK → Prop} {vs : List V} {H : Hp} {Q : VK} {E : XK} (h : sp2 R vs H Q E) : vs.length = 2 := by
  obtain ⟨_, _, rfl, _⟩ := h
  rfl
theorem len3 {R : V → V → V → Hp → VK → Prop} {vs : List V} {H : Hp} {Q : VK} {E : XK} (h : sp3 R vs H Q E) : vs.length = 3 := by
  obtain ⟨_, _, _, rfl, _⟩ := h
  rfl
theorem len4 {R : V → V → V → V → Hp → VK → Prop} {vs : List V} {H : Hp} {Q : VK} {E : XK} (h : sp4 R vs H Q E) : vs.length = 4 := by
  obtain ⟨_, _, _, _, rfl, _⟩ := h
  rfl
theorem len5 {R : V → V → V → V → V → Hp → VK → Prop} {vs : List V} {H : Hp} {Q : VK} {E : XK} (h : sp5 R vs H Q E) : vs.length = 5 := by
  obtain ⟨_, _, _, _, _, rfl, _⟩ := h
  rfl

/-! ### values that may stand in a list: what isinstance and == know of them -/
section
variable {K : PySem.W.Frag} {H H' : Hp}
inductive Any (H : Hp) : V → Prop
  | int (i : Int) : Any H (.int i)
  | bl (b : Bool) : Any H (.bl b)
  | str (x : Str) : Any H (.str x)
  | non : Any H .non
  | lst {a : Addr} {xs : List V} (h : H a = some (.lst xs)) : Any H (.ref a)
  | tup {a : Addr} {xs : List V} (h : H a = some (.tup xs)) : Any H (.ref a)
theorem Any.mono {x : V} (e : Ex H H') (h : Any H x) : Any H' x := by
  cases h with
  | int i => exact .int i
  | bl b => exact .bl b
  | str x => exact .str x
  | non => exact .non
  | lst h => exact .lst (e _ _ h)
  | tup h => exact .tup (e _ _ h)
def isInt : V → Bool
  | .int _ => true
  | _ => false
/-- isinstance(x, int) and not isinstance(x, bool) -/
def spWhole : Sp := sp1 fun x H Q => Any H x ∧ Q (.bl (isInt x)) H
end
/-! ### lists of ints -/
theorem at_ints {ns : List Int} {i : Int} (h0 : 0 ≤ i) (h1 : i < ns.length) : atI (ns.map V.int) i = some (.int (ns.getD i.toNat 0)) := by
  obtain ⟨j, rfl⟩ := Int.eq_ofNat_of_zero_le h0
  have hj : j < ns.length := by omega
  refine atI_nat ?_
  rw [List.getElem?_map, List.getElem?_eq_getElem hj]
  simp [List.getD_eq_getElem?_getD, hj]
theorem get_ints {ns : List Int} {i : Nat} {x : V} (h : (ns.map V.int)[i]? = some x) : ∃ hi : i < ns.length, x = .int ns[i] := by
  rw [List.getElem?_map] at h
  cases e : ns[i]? with
  | none =>
    rw [e] at h
    cases h
  | some y =>
    rw [e] at h
    obtain ⟨hi, e2⟩ := List.getElem?_eq_some_iff.mp e
    exact ⟨hi, by rw [e2]; exact (Option.some.inj h).symm⟩

/-- isinstance(x, int) and not isinstance(x, bool), the name in slot 0 -/
theorem rd_whole {K : PySem.W.Frag} {x : V} {H : Hp} {Q : VK} {ti : TE} (ha : Any H x) (q : Q (.bl (isInt x)) H) (hx : ∀ Q : VK, Q x H → ti [some x] H Q) :
    tAndV (tCB (rIsi K) (tCons ti (tCons (tC (.ty "int")) tNil))) (tNotV (tCB (rIsi K) (tCons ti (tCons (tC (.ty "bool")) tNil)))) [some x] H Q := by
  have key : ∀ (n : String) (b1 b2 : Bool), TyX K H x (.type n) → kitB n "int" = some b1 → kitB n "bool" = some b2 → (b1 && !b2) = isInt x →
      tAndV (tCB (rIsi K) (tCons ti (tCons (tC (.ty "int")) tNil))) (tNotV (tCB (rIsi K) (tCons ti (tCons (tC (.ty "bool")) tNil)))) [some x] H Q := by
    intro n b1 b2 ty k1 k2 e
    refine hx _ ?_
    refine ⟨x, .ty "int", _, _, b1, rfl, .ty _, ty, kit_ty k1, b1, rfl, ?_⟩
    cases b1 with
    | true =>
      refine iteT ?_
      refine hx _ ?_
      refine ⟨x, .ty "bool", _, _, b2, rfl, .ty _, ty, kit_ty k2, b2, rfl, ?_⟩
      rw [← e] at q
      exact q
    | false =>
      refine iteF ?_
      rw [← e] at q
      exact q
  cases ha with
  | int i => exact key "int" true false (.base (.int i)) (by decide +kernel) (by decide +kernel) rfl
  | bl b => exact key "bool" true true (.base (.bl b)) (by decide +kernel) (by decide +kernel) rfl
  | str z => exact key "str" false false (.base (.str z)) (by decide +kernel) (by decide +kernel) rfl
  | non => exact key "NoneType" false false (.base .non) (by decide +kernel) (by decide +kernel) rfl
  | lst h => exact key "list" false false (.base (.lst h)) (by decide +kernel) (by decide +kernel) rfl
  | tup h => exact key "tuple" false false (.base (.tup h)) (by decide +kernel) (by decide +kernel) rfl

theorem mulR {i j : Int} (h : -(2 ^ 64) < j ∧ j < 2 ^ 64) : CMul i j := .inr h
theorem mulL {i j : Int} (h : -(2 ^ 64) < i ∧ i < 2 ^ 64) : CMul i j := .inl h
theorem getD_in {ns : List Int} {i : Nat} (h : i < ns.length) (d : Int) : ns.getD i d = ns[i] := by simp [List.getD_eq_getElem?_getD, h]
/-- what a heap is worth: the bids for its goods -/
def worthM (row heap : List Int) : Int := (heap.map fun g => row.getD g.toNat 0).sum
/-- only numbers of goods stand in the heap -/
def Inside (n : Nat) (heap : List Int) : Prop := ∀ g ∈ heap, 0 ≤ g ∧ g < (n : Int)
theorem worthM_take {row heap : List Int} {i : Nat} (h : i < heap.length) : worthM row (heap.take (i + 1)) = worthM row (heap.take i) + row.getD heap[i].toNat 0 := by
  unfold worthM
  rw [List.take_add_one, List.getElem?_eq_getElem h, List.map_append, List.sum_append]
  simp
/-! ### comprehensions over a list told by its data -/
theorem given_by {α : Type} (xs : List α) (d : α) (p : α → Bool) (g : α → V) : given xs.length (fun i => p (xs.getD i d)) (fun i => g (xs.getD i d)) = (xs.filter p).map g := by
  have e : (List.range xs.length).map (fun i => xs.getD i d) = xs := by
    refine List.ext_getElem (by simp) fun i h1 h2 => ?_
    simp [List.getD_eq_getElem?_getD, h2]
  have h : (xs.filter p).map g = (((List.range xs.length).map (fun i => xs.getD i d)).filter p).map g := by rw [e]
  rw [h, List.filter_map, List.map_map]
  rfl
theorem given_all {α : Type} (xs : List α) (d : α) (g : α → V) : given xs.length (fun _ => true) (fun i => g (xs.getD i d)) = xs.map g := by
  rw [given_by xs d (fun _ => true) g, List.filter_eq_self.mpr (fun _ _ => rfl)]
theorem given_rng (n : Nat) (p : Nat → Bool) (g : Nat → V) : given n p g = ((List.range n).filter p).map g := rfl
theorem given_rngA (n : Nat) (g : Nat → V) : given n (fun _ => true) g = (List.range n).map g := by
  unfold given
  rw [List.filter_eq_self.mpr (fun _ _ => rfl)]
section
variable {K : PySem.W.Frag} {σ : L2.St} {H H' : Hp} {te tl : TE} {t : TT} {a : Addr} {j : Nat} {vs : List Nat}
theorem el_by {α : Type} [Inhabited α] {xs : List α} {enc : α → V} (p : α → Bool) (g : α → V) (h : Ev tl σ H (.ref a)) (hx : SqL K H a (xs.map enc)) (hz : xs.length ≤ 40000) (hw : ∀ x, wipe ((wipe σ vs).set j (some x)) vs = wipe σ vs)
    (ht : ∀ x ∈ xs, ∀ H1, Ex H H1 → EvT t ((wipe σ vs).set j (some (enc x))) H1 (p x)) (he : ∀ x ∈ xs, ∀ H1, Ex H H1 → p x = true → Ev te ((wipe σ vs).set j (some (enc x))) H1 (g x)) :
    EvL (tLc (iList K tl) (gName j) t te vs) σ H ((xs.filter p).map g) := by
  have key : ∀ (i : Nat) (x : V), (xs.map enc)[i]? = some x → x = enc (xs.getD i default) ∧ xs.getD i default ∈ xs := by
    intro i x hi
    rw [List.getElem?_map] at hi
    cases e : xs[i]? with
    | none =>
      rw [e] at hi
      cases hi
    | some y =>
      rw [e] at hi
      have ey : xs.getD i default = y := by simp [List.getD_eq_getElem?_getD, e]
      rw [ey]
      exact ⟨(Option.some.inj hi).symm, List.mem_of_getElem? e⟩
  have L := el_lcL (t := t) (te := te) (j := j) (vs := vs) (fun i => p (xs.getD i default)) (fun i => g (xs.getD i default)) h hx (by rw [List.length_map]; exact hz) hw
    (fun i x H1 e1 hi => by
      obtain ⟨e, m⟩ := key i x hi
      rw [e]
      exact ht _ m H1 e1)
    (fun i x H1 e1 hi hp => by
      obtain ⟨e, m⟩ := key i x hi
      rw [e]
      exact he _ m H1 e1 hp)
  rw [List.length_map, given_by] at L
  exact L
theorem et_yes : EvT tYes σ H true := fun H1 _ _ q => q H1 (Ex.refl H1)
theorem el_all {α : Type} [Inhabited α] {xs : List α} {enc : α → V} (g : α → V) (h : Ev tl σ H (.ref a)) (hx : SqL K H a (xs.map enc)) (hz : xs.length ≤ 40000) (hw : ∀ x, wipe ((wipe σ vs).set j (some x)) vs = wipe σ vs)
    (he : ∀ x ∈ xs, ∀ H1, Ex H H1 → Ev te ((wipe σ vs).set j (some (enc x))) H1 (g x)) :
    EvL (tLc (iList K tl) (gName j) tYes te vs) σ H (xs.map g) := by
  have L := el_by (t := tYes) (te := te) (j := j) (vs := vs) (fun _ => true) g h hx hz hw (fun _ _ _ _ => et_yes) (fun x m H1 e1 _ => he x m H1 e1)
  rw [List.filter_eq_self.mpr (fun _ _ => rfl)] at L
  exact L
end
section
variable {K : PySem.W.Frag} {σ : L2.St} {H H' : Hp} {te tl : TE} {t : TT} {a : Addr} {j : Nat} {vs : List Nat} {Q : VK}
/-- [te for x in xs if t], then Q of the new list -/
theorem go_by {α : Type} [Inhabited α] {xs : List α} {enc : α → V} (p : α → Bool) (g : α → V) (h : Ev tl σ H (.ref a)) (hx : SqL K H a (xs.map enc)) (hz : xs.length ≤ 40000) (hw : ∀ x, wipe ((wipe σ vs).set j (some x)) vs = wipe σ vs)
    (ht : ∀ x ∈ xs, ∀ H1, Ex H H1 → EvT t ((wipe σ vs).set j (some (enc x))) H1 (p x)) (he : ∀ x ∈ xs, ∀ H1, Ex H H1 → p x = true → Ev te ((wipe σ vs).set j (some (enc x))) H1 (g x))
    (q : RetL ((xs.filter p).map g) H Q) : tLc (iList K tl) (gName j) t te vs σ H Q := el_by p g h hx hz hw ht he H (Ex.refl H) Q fun p H2 hp e h2 => q p H2 hp e h2
theorem go_all {α : Type} [Inhabited α] {xs : List α} {enc : α → V} (g : α → V) (h : Ev tl σ H (.ref a)) (hx : SqL K H a (xs.map enc)) (hz : xs.length ≤ 40000) (hw : ∀ x, wipe ((wipe σ vs).set j (some x)) vs = wipe σ vs)
    (he : ∀ x ∈ xs, ∀ H1, Ex H H1 → Ev te ((wipe σ vs).set j (some (enc x))) H1 (g x))
    (q : RetL (xs.map g) H Q) : tLc (iList K tl) (gName j) tYes te vs σ H Q := el_all g h hx hz hw he H (Ex.refl H) Q fun p H2 hp e h2 => q p H2 hp e h2
end
section
variable {K : PySem.W.Frag} {σ : L2.St} {H : Hp} {ta tb te tl : TE} {t u : TT} {tu tw : TS} {D : Ends} {Q : VK} {QA : List V → Hp → Prop} {QB : Bool → Hp → Prop} {r : List V → Hp → VK → Prop} {rr : R2} {ts : TA}
theorem g_ret (h : te σ H D.rt) : tRet te D σ H := h
theorem g_cb (h : ts σ H fun vs H1 => r vs H1 Q) : tCB r ts σ H Q := h
theorem g_cons (h : te σ H fun x H1 => ts σ H1 fun xs H2 => QA (x :: xs) H2) : tCons te ts σ H QA := h
theorem g_nil (h : QA [] H) : tNil σ H QA := h
theorem g_cb1 (h : te σ H fun x H1 => r [x] H1 Q) : tCB r (tCons te tNil) σ H Q := h
theorem g_op (h : ta σ H fun x H1 => tb σ H1 fun y H2 => rr x y H2 Q) : tOp rr ta tb σ H Q := h
theorem g_seq (h : tu { D with nx := tw D } σ H) : tSeq tu tw D σ H := h
theorem g_set {i : Nat} (h : te σ H fun x H1 => D.nx (σ.set i (some x)) H1) : tAsg te (gName i) D σ H := h
theorem q_set {i : Nat} (h : te σ H fun x H1 => tw D (σ.set i (some x)) H1) : tSeq (tAsg te (gName i)) tw D σ H := h
theorem q_dr (h : te σ H fun _ H1 => tw D σ H1) : tSeq (tDrop te) tw D σ H := h
theorem g_drop (h : te σ H fun _ H1 => D.nx σ H1) : tDrop te D σ H := h
theorem g_test (h : te σ H fun x H1 => ∃ k, x = .bl k ∧ QB k H1) : tTest te σ H QB := h
theorem g_call {sp : Sp} {dvs : List V} {E : XK} (h : ts σ H fun vs H1 => sp (vs ++ dvs) H1 Q E) : tCall sp dvs E ts σ H Q := h
end
/-! ### data that == compares -/
structure EncOk {α : Type} [DecidableEq α] (f : α → PyData) (n : Nat) : Prop where
  eq : ∀ x y, PyData.eqv (f x) (f y) = decide (x = y)
  lay : ∀ x, PyData.canLay0 (f x) = true
  dep : ∀ x, PyData.depth (f x) ≤ n
theorem EncOk.shaped {α : Type} [DecidableEq α] {f : α → PyData} {n : Nat} (h : EncOk f n) (hn : n ≤ 64) (x : α) : SeqAt.shaped (f x) = true := by
  unfold SeqAt.shaped
  rw [h.lay x]
  exact decide_eq_true (Nat.le_trans (h.dep x) hn)
theorem encInt : EncOk PyData.int 0 where
  eq := fun x y => by
    simp only [PyData.eqv]
    by_cases h : x = y
    · rw [h, decide_eq_true rfl, beq_self_eq_true]
    · rw [decide_eq_false h]
      exact beq_eq_false_iff_ne.mpr h
  lay := fun x => by simp only [PyData.canLay0]
  dep := fun x => by simp [PyData.depth]
section
variable {α β : Type} [DecidableEq α] [DecidableEq β] {f : α → PyData} {g : β → PyData} {n m : Nat}
theorem eqvAll_map (h : EncOk f n) : ∀ xs ys : List α, PyData.eqvAll (xs.map f) (ys.map f) = decide (xs = ys)
  | [], [] => by simp [PyData.eqvAll]
  | [], y :: ys => by simp [PyData.eqvAll]
  | x :: xs, [] => by simp [PyData.eqvAll]
  | x :: xs, y :: ys => by
    simp only [List.map_cons, PyData.eqvAll]
    rw [h.eq, eqvAll_map h xs ys]
    by_cases e : x = y
    · by_cases e2 : xs = ys
      · simp [e, e2]
      · simp [e, e2]
    · simp [e]
theorem canLayAll_map (h : EncOk f n) : ∀ xs : List α, PyData.canLayAll0 (xs.map f) = true
  | [] => by simp [PyData.canLayAll0]
  | x :: xs => by
    simp only [List.map_cons, PyData.canLayAll0]
    rw [h.lay, canLayAll_map h xs]
    rfl
theorem depthAll_map (h : EncOk f n) : ∀ xs : List α, PyData.depthAll (xs.map f) ≤ n
  | [] => by simp [PyData.depthAll]
  | x :: xs => by
    simp only [List.map_cons, PyData.depthAll]
    have h1 := h.dep x
    have h2 := depthAll_map h xs
    omega
theorem encList (h : EncOk f n) : EncOk (fun xs : List α => PyData.list (xs.map f)) (n + 1) where
  eq := fun x y => by
    simp only [PyData.eqv]
    exact eqvAll_map h x y
  lay := fun x => by
    simp only [PyData.canLay0]
    exact canLayAll_map h x
  dep := fun x => by
    simp only [PyData.depth]
    have := depthAll_map h x
    omega
theorem encPair (h : EncOk f n) (k : EncOk g m) : EncOk (fun p : α × β => PyData.tuple [f p.1, g p.2]) (n + m + 1) where
  eq := fun x y => by
    simp only [PyData.eqv, PyData.eqvAll]
    rw [h.eq, k.eq]
    cases x with
    | mk x1 x2 =>
      cases y with
      | mk y1 y2 =>
        by_cases e : x1 = y1
        · by_cases e2 : x2 = y2
          · simp [e, e2]
          · simp [e, e2]
        · simp [e]
  lay := fun x => by
    simp only [PyData.canLay0, PyData.canLayAll0]
    rw [h.lay, k.lay]
    rfl
  dep := fun x => by
    simp only [PyData.depth, PyData.depthAll]
    have h1 := h.dep x.1
    have h2 := k.dep x.2
    omega
end
abbrev dI (ns : List Int) : PyData := .list (ns.map PyData.int)
abbrev dII (rows : List (List Int)) : PyData := .list (rows.map dI)
theorem encI : EncOk dI 1 := encList encInt
theorem encII : EncOk dII 2 := encList encI
section
variable {K : PySem.W.Frag} {H H' : Hp}
mutual
theorem dp_mono (e : Ex H H') : ∀ {v : V} {d : PyData}, Dp K H v d → Dp K H' v d
  | _, _, .non => .non
  | _, _, .bl b => .bl b
  | _, _, .int i => .int i
  | _, _, .str x => .str x
  | _, _, .lst h a => .lst (ex_l e h) (dpAll_mono e a)
  | _, _, .tup h a => .tup (ex_t e h) (dpAll_mono e a)
theorem dpAll_mono (e : Ex H H') : ∀ {vs : List V} {ds : List PyData}, DpAll K H vs ds → DpAll K H' vs ds
  | _, _, .nil => .nil
  | _, _, .cons h a => .cons (dp_mono e h) (dpAll_mono e a)
end
theorem dpAll_ints : ∀ ns : List Int, DpAll K H (ns.map V.int) (ns.map PyData.int)
  | [] => .nil
  | n :: ns => .cons (.int n) (dpAll_ints ns)
theorem dp_ints {a : Addr} {ns : List Int} (h : SqL K H a (ns.map V.int)) : Dp K H (.ref a) (dI ns) := .lst h (dpAll_ints ns)
variable {α : Type} [DecidableEq α] {f : α → PyData} {n : Nat} {x y : α} {v w : V}
/-- v == w, v != w of data -/
theorem rv_eqD (F : EncOk f n) (hn : n ≤ 64) (h1 : Dp K H v (f x)) (h2 : Dp K H w (f y)) : RV (rEqD K) v w H (.bl (decide (x = y))) := fun H1 e Q q =>
  ⟨f x, f y, dp_mono e h1, dp_mono e h2, F.shaped hn x, F.shaped hn y, by rw [F.eq]; exact q H1 (Ex.refl H1)⟩
theorem rv_neD (F : EncOk f n) (hn : n ≤ 64) (h1 : Dp K H v (f x)) (h2 : Dp K H w (f y)) : RV (rNeD K) v w H (.bl (!decide (x = y))) := fun H1 e Q q =>
  ⟨f x, f y, dp_mono e h1, dp_mono e h2, F.shaped hn x, F.shaped hn y, by rw [F.eq]; exact q H1 (Ex.refl H1)⟩
theorem rv_neS (F : EncOk f n) (hn : n ≤ 64) (h1 : Dp K H v (f x)) (h2 : Dp K H w (f x)) : RV (rNeD K) v w H (.bl false) := by
  have h := rv_neD F hn h1 h2
  rw [decide_eq_true rfl] at h
  exact h
theorem rv_eqS (F : EncOk f n) (hn : n ≤ 64) (h1 : Dp K H v (f x)) (h2 : Dp K H w (f x)) : RV (rEqD K) v w H (.bl true) := by
  have h := rv_eqD F hn h1 h2
  rw [decide_eq_true rfl] at h
  exact h
end
section
variable {K : PySem.W.Frag} {σ : L2.St} {H : Hp} {te : TE} {ta : TA} {j : Nat} {vs : List Nat} {t : TT}
/-- [te for j in range(n)], with a test -/
theorem el_rng {n : Nat} (p : Nat → Bool) (v : Nat → V) (h : EvA ta σ H [.int (n : Int)]) (hn : n ≤ 40000) (hw : ∀ x, wipe ((wipe σ vs).set j (some x)) vs = wipe σ vs)
    (ht : ∀ (i : Nat) H1, Ex H H1 → i < n → EvT t ((wipe σ vs).set j (some (.int (i : Int)))) H1 (p i)) (he : ∀ (i : Nat) H1, Ex H H1 → i < n → p i = true → Ev te ((wipe σ vs).set j (some (.int (i : Int)))) H1 (v i)) :
    EvL (tLc (iRng1 ta) (gName j) t te vs) σ H (((List.range n).filter p).map v) := by
  have L := el_lcR1 (t := t) (te := te) (j := j) (vs := vs) (n := (n : Int)) p v h ⟨by omega, by omega⟩ hw (fun i H1 e hi => ht i H1 e (by omega)) (fun i H1 e hi hp => he i H1 e (by omega) hp)
  rw [Int.toNat_natCast] at L
  exact L
theorem el_rngA {n : Nat} (v : Nat → V) (h : EvA ta σ H [.int (n : Int)]) (hn : n ≤ 40000) (hw : ∀ x, wipe ((wipe σ vs).set j (some x)) vs = wipe σ vs)
    (he : ∀ (i : Nat) H1, Ex H H1 → i < n → Ev te ((wipe σ vs).set j (some (.int (i : Int)))) H1 (v i)) :
    EvL (tLc (iRng1 ta) (gName j) tYes te vs) σ H ((List.range n).map v) := by
  have L := el_rng (t := tYes) (te := te) (j := j) (vs := vs) (fun _ => true) v h hn hw (fun _ _ _ _ => et_yes) (fun i H1 e hi _ => he i H1 e hi)
  rw [List.filter_eq_self.mpr (fun _ _ => rfl)] at L
  exact L
end
section
variable {K : PySem.W.Frag} {σ : L2.St} {H H' : Hp} {te tl : TE} {t : TT} {a : Addr} {j : Nat} {vs : List Nat}
/-- as el_by, over a list that is new -/
theorem el_byN {α : Type} [Inhabited α] {xs : List α} {enc : α → V} (p : α → Bool) (g : α → V) (h : EvL tl σ H (xs.map enc)) (hz : xs.length ≤ 40000) (hw : ∀ x, wipe ((wipe σ vs).set j (some x)) vs = wipe σ vs)
    (ht : ∀ x ∈ xs, ∀ H1, Ex H H1 → EvT t ((wipe σ vs).set j (some (enc x))) H1 (p x)) (he : ∀ x ∈ xs, ∀ H1, Ex H H1 → p x = true → Ev te ((wipe σ vs).set j (some (enc x))) H1 (g x)) :
    EvL (tLc (iList K tl) (gName j) t te vs) σ H ((xs.filter p).map g) := fun H0 e0 Q q => h H0 e0 _ fun a H1 ha e1 hx =>
  el_by (tl := tC (.ref a)) p g ev_c (sq_of hx) hz hw (fun x m H2 e2 => ht x m H2 ((e0.trans e1).trans e2)) (fun x m H2 e2 => he x m H2 ((e0.trans e1).trans e2)) H1 (Ex.refl H1) Q fun p H2 hp e2 h2 => q p H2 (fresh_back e1 hp) (e1.trans e2) h2
theorem el_allN {α : Type} [Inhabited α] {xs : List α} {enc : α → V} (g : α → V) (h : EvL tl σ H (xs.map enc)) (hz : xs.length ≤ 40000) (hw : ∀ x, wipe ((wipe σ vs).set j (some x)) vs = wipe σ vs)
    (he : ∀ x ∈ xs, ∀ H1, Ex H H1 → Ev te ((wipe σ vs).set j (some (enc x))) H1 (g x)) :
    EvL (tLc (iList K tl) (gName j) tYes te vs) σ H (xs.map g) := by
  have L := el_byN (K := K) (t := tYes) (te := te) (j := j) (vs := vs) (fun _ => true) g h hz hw (fun _ _ _ _ => et_yes) (fun x m H1 e1 _ => he x m H1 e1)
  rw [List.filter_eq_self.mpr (fun _ _ => rfl)] at L
  exact L
end
/-! ### lists of lists -/
/-- at a stands a list of lists, to be read -/
def LV (K : PySem.W.Frag) (H : Hp) (a : Addr) (ys : List (List V)) : Prop :=
  ∃ ps : List Addr, SqL K H a (ps.map V.ref) ∧ ps.length = ys.length ∧ ∀ (i : Nat) (q : Addr) (y : List V), ps[i]? = some q → ys[i]? = some y → SqL K H q y
/-- rows of ints -/
abbrev iv (rows : List (List Int)) : List (List V) := rows.map fun r => r.map V.int
abbrev LL (K : PySem.W.Frag) (H : Hp) (a : Addr) (rows : List (List Int)) : Prop := LV K H a (iv rows)
/-- at p stands a new list of new lists: what may be changed. H0: the heap in which all of them were not there -/
structure LNew (H0 H : Hp) (p : Addr) (ps : List Addr) (ys : List (List V)) : Prop where
  new : H0 p = none
  top : H p = some (.lst (ps.map V.ref))
  len : ps.length = ys.length
  nd : (p :: ps).Nodup
  at_ : ∀ (i : Nat) (q : Addr) (y : List V), ps[i]? = some q → ys[i]? = some y → H0 q = none ∧ H q = some (.lst y)
section
variable {K : PySem.W.Frag} {H H' H0 : Hp} {a p : Addr} {ps : List Addr} {ys : List (List V)} {rows : List (List Int)}
theorem LV.mono (e : Ex H H') (h : LV K H a ys) : LV K H' a ys := by
  obtain ⟨ps, h1, h2, h3⟩ := h
  exact ⟨ps, ex_l e h1, h2, fun i q y h4 h5 => ex_l e (h3 i q y h4 h5)⟩
theorem LNew.lv (h : LNew H0 H p ps ys) : LV K H p ys := ⟨ps, sq_of h.top, h.len, fun i q y h1 h2 => sq_of (h.at_ i q y h1 h2).2⟩
theorem LNew.ext (h : LNew H0 H p ps ys) (e : Ex H H') : LNew H0 H' p ps ys := ⟨h.new, e _ _ h.top, h.len, h.nd, fun i q y h1 h2 => ⟨(h.at_ i q y h1 h2).1, e _ _ (h.at_ i q y h1 h2).2⟩⟩
/-- seen from an earlier heap -/
theorem LNew.back {Hb : Hp} (h : LNew H0 H p ps ys) (e : Ex Hb H0) : LNew Hb H p ps ys := ⟨fresh_back e h.new, h.top, h.len, h.nd, fun i q y h1 h2 => ⟨fresh_back e (h.at_ i q y h1 h2).1, (h.at_ i q y h1 h2).2⟩⟩
theorem LNew.app {i : Nat} {q : Addr} {y y' : List V} (h : LNew H0 H p ps ys) (hi : ps[i]? = some q) (hy : ys[i]? = some y) : LNew H0 (upd H q (.lst y')) p ps (ys.set i y') := by
  have hpq : p ≠ q := fun e => (List.nodup_cons.mp h.nd).1 (e ▸ List.mem_of_getElem? hi)
  refine ⟨h.new, by rw [upd_ne hpq]; exact h.top, by rw [List.length_set]; exact h.len, h.nd, fun k r z h1 h2 => ?_⟩
  by_cases e : k = i
  · subst e
    have : r = q := Option.some.inj (h1.symm.trans hi)
    subst this
    have hk : k < ys.length := (List.getElem?_eq_some_iff.mp hy).1
    rw [List.getElem?_set_self hk] at h2
    exact ⟨(h.at_ k r y hi hy).1, by rw [upd_same, Option.some.inj h2]⟩
  · rw [List.getElem?_set_ne (fun z => e z.symm)] at h2
    have hr : r ≠ q := fun z => e (nd_ix (List.nodup_cons.mp h.nd).2 (z ▸ h1) hi)
    rw [upd_ne hr]
    exact h.at_ k r z h1 h2
/-- one more new list behind the others -/
theorem LNew.push {H2 : Hp} {q : Addr} {y : List V} (L : LNew H0 H p ps ys) (ex : Ex H0 H) (e2 : Ex H H2) (hq : H q = none) (h2 : H2 q = some (.lst y)) : LNew H0 (upd H2 p (.lst (ps.map V.ref ++ [.ref q]))) p (ps ++ [q]) (ys ++ [y]) := by
  have nD : q ≠ p := fun z => by
    rw [z, L.top] at hq
    cases hq
  refine ⟨L.new, ?_, ?_, ?_, ?_⟩
  · rw [upd_same, List.map_append]
    rfl
  · rw [List.length_append, List.length_append, L.len]
    rfl
  · have nd := L.nd
    rw [List.nodup_cons] at nd ⊢
    refine ⟨fun m => ?_, ?_⟩
    · rcases List.mem_append.mp m with m | m
      · exact nd.1 m
      · exact nD (List.mem_singleton.mp m).symm
    · refine nd_snoc nd.2 fun m => ?_
      obtain ⟨k, hk⟩ := List.getElem?_of_mem m
      have hk2 : k < ys.length := by
        rw [← L.len]
        exact (List.getElem?_eq_some_iff.mp hk).1
      have := (L.at_ k q _ hk (List.getElem?_eq_getElem hk2)).2
      rw [hq] at this
      cases this
  · intro k r y2 h3 h4
    by_cases hk : k < ps.length
    · rw [List.getElem?_append_left hk] at h3
      rw [List.getElem?_append_left (by rw [← L.len]; exact hk)] at h4
      have a1 := L.at_ k r y2 h3 h4
      refine ⟨a1.1, ?_⟩
      have nr : r ≠ p := fun z => by
        rw [z] at h3
        exact (List.nodup_cons.mp L.nd).1 (List.mem_of_getElem? h3)
      rw [upd_ne nr]
      exact e2 _ _ a1.2
    · have hk2 : k = ps.length := by
        have := (List.getElem?_eq_some_iff.mp h3).1
        rw [List.length_append] at this
        have : k < ps.length + 1 := this
        omega
      subst hk2
      rw [List.getElem?_append_right (Nat.le_refl _), Nat.sub_self] at h3
      rw [List.getElem?_append_right (by rw [← L.len]; exact Nat.le_refl _), ← L.len, Nat.sub_self] at h4
      obtain rfl : q = r := Option.some.inj h3
      obtain rfl : y = y2 := Option.some.inj h4
      rw [upd_ne nD]
      exact ⟨fresh_back ex hq, h2⟩
theorem LNew.exm {i : Nat} {q : Addr} {o : HO} (h : LNew H0 H p ps ys) (hi : ps[i]? = some q) (e : Ex H0 H) : Ex H0 (upd H q o) := by
  have hl : i < ys.length := by
    have := (List.getElem?_eq_some_iff.mp hi).1
    have := h.len
    omega
  exact Ex.mut e (h.at_ i q ys[i] hi (List.getElem?_eq_getElem hl)).1
theorem LNew.at2 {i : Nat} (h : LNew H0 H p ps ys) (hi : i < ys.length) : ∃ q, ps[i]? = some q ∧ H q = some (.lst ys[i]) := by
  have h1 : i < ps.length := by
    have := h.len
    omega
  exact ⟨ps[i], List.getElem?_eq_getElem h1, (h.at_ i _ _ (List.getElem?_eq_getElem h1) (List.getElem?_eq_getElem hi)).2⟩
theorem at_refs {i : Nat} {q : Addr} (h : ps[i]? = some q) : atI (ps.map V.ref) (i : Int) = some (.ref q) := atI_nat (by rw [List.getElem?_map, h]; rfl)
theorem LV.at2 {i : Nat} (h : LV K H a ys) (hi : i < ys.length) : ∃ (ps : List Addr) (q : Addr), SqL K H a (ps.map V.ref) ∧ ps.length = ys.length ∧ ps[i]? = some q ∧ SqL K H q ys[i] := by
  obtain ⟨ps, h1, h2, h3⟩ := h
  have h4 : i < ps.length := by omega
  exact ⟨ps, ps[i], h1, h2, List.getElem?_eq_getElem h4, h3 i _ _ (List.getElem?_eq_getElem h4) (List.getElem?_eq_getElem hi)⟩
theorem dpAll_of {f : List Int → PyData} : ∀ {ps : List Addr} {rows : List (List Int)}, ps.length = rows.length → (∀ (i : Nat) q r, ps[i]? = some q → rows[i]? = some r → Dp K H (.ref q) (f r)) → DpAll K H (ps.map V.ref) (rows.map f)
  | [], [], _, _ => .nil
  | [], _ :: _, h, _ => by cases h
  | _ :: _, [], h, _ => by cases h
  | p :: ps, r :: rows, hl, h => .cons (h 0 p r rfl rfl) (dpAll_of (Nat.succ.inj hl) fun i q s h1 h2 => h (i + 1) q s h1 h2)
theorem LL.dp (h : LL K H a rows) : Dp K H (.ref a) (dII rows) := by
  obtain ⟨ps, h1, h2, h3⟩ := h
  rw [List.length_map] at h2
  exact .lst h1 (dpAll_of h2 fun i q r h4 h5 => dp_ints (h3 i q _ h4 (by rw [List.getElem?_map, h5]; rfl)))
/-- row i of rows that are read -/
theorem ev_row {σ : L2.St} {ta tb : TE} {i : Nat} (h : LL K H a rows) (hi : i < rows.length) (ha : Ev ta σ H (.ref a)) (hb : Ev tb σ H (.int (i : Int))) :
    ∃ q, Ev (tOp (rIxL K) ta tb) σ H (.ref q) ∧ SqL K H q ((rows.getD i []).map V.int) := by
  obtain ⟨ps, q, h1, h2, h3, h4⟩ := h.at2 (i := i) (by rw [List.length_map]; exact hi)
  refine ⟨q, ev_op ha hb (rv_ixL h1 (at_refs h3)), ?_⟩
  have e : (iv rows)[i]'(by rw [List.length_map]; exact hi) = (rows.getD i []).map V.int := by simp [List.getD_eq_getElem?_getD, hi]
  rw [e] at h4
  exact h4
theorem ev_lenLL {σ : L2.St} {ta : TE} (h : LV K H a ys) (ha : Ev ta σ H (.ref a)) : Ev (tCB (rLenS K) (tCons ta tNil)) σ H (.int (ys.length : Int)) := by
  obtain ⟨ps, h1, h2, _⟩ := h
  have := ev_len ha h1
  rw [List.length_map, h2] at this
  exact this
theorem ev_lenI {σ : L2.St} {ta : TE} {ns : List Int} (h : SqL K H a (ns.map V.int)) (ha : Ev ta σ H (.ref a)) : Ev (tCB (rLenS K) (tCons ta tNil)) σ H (.int (ns.length : Int)) := by
  have := ev_len ha h
  rw [List.length_map] at this
  exact this
/-- a new list of new lists -/
def EvN (te : TE) (σ : L2.St) (H : Hp) (ys : List (List V)) : Prop := ∀ H1, Ex H H1 → ∀ Q : VK, (∀ p ps H2, LNew H1 H2 p ps ys → Ex H1 H2 → Q (.ref p) H2) → te σ H1 Q
/-- [te for x in xs], each te a new list -/
theorem en_ys {α : Type} {σ : L2.St} {te tl : TE} {j : Nat} {vs : List Nat} {xs : List α} {enc : α → V} {ys : List (List V)} (h : Ev tl σ H (.ref a)) (hx : SqL K H a (xs.map enc)) (hz : xs.length ≤ 40000) (hl : ys.length = xs.length)
    (hw : ∀ x, wipe ((wipe σ vs).set j (some x)) vs = wipe σ vs)
    (he : ∀ (i : Nat) (x : α) (y : List V) H1, xs[i]? = some x → ys[i]? = some y → Ex H H1 → EvL te ((wipe σ vs).set j (some (enc x))) H1 y) : EvN (tLc (iList K tl) (gName j) tYes te vs) σ H ys := by
  intro H0 e0 Q q
  refine h H0 e0 _ fun H1 e1 => ⟨a, rfl, ⟨_, ex_l (e0.trans e1) hx⟩, fun D hD => ?_⟩
  refine lc_list (K := K) (a := a) (xs := xs.map enc) (fun i H' => ∃ ps : List Addr, Ex H1 H' ∧ LNew H1 H' D ps (ys.take i)) ⟨[], Ex.new hD, hD, upd_same, by simp, by simp, fun i q y h1 => by simp at h1⟩
    (fun i H' _ p => ex_l ((e0.trans e1).trans p.choose_spec.1) hx) (fun i x H' hi p => ?_) (fun H' p => ?_)
  · obtain ⟨ps, ex, L⟩ := p
    rw [List.getElem?_map] at hi
    cases ei : xs[i]? with
    | none =>
      rw [ei] at hi
      cases hi
    | some y =>
      rw [ei] at hi
      obtain rfl : enc y = x := Option.some.inj hi
      have hil : i < xs.length := (List.getElem?_eq_some_iff.mp ei).1
      have hiy : i < ys.length := by omega
      refine ⟨hw _, iteT (B := ∃ ps : List Addr, Ex H1 H' ∧ LNew H1 H' D ps (ys.take (i + 1))) ?_⟩
      refine he i y ys[i] H' ei (List.getElem?_eq_getElem hiy) ((e0.trans e1).trans ex) H' (Ex.refl H') _ fun p H2 hp e2 h2 => ⟨ps.map V.ref, e2 _ _ L.top, sz_lt ?_, ps ++ [p], Ex.mut (ex.trans e2) hD, ?_⟩
      · have := L.len
        rw [List.length_take] at this
        rw [List.length_map]
        omega
      · have et : ys.take (i + 1) = ys.take i ++ [ys[i]] := by
          rw [List.take_add_one, List.getElem?_eq_getElem hiy]
          rfl
        rw [et]
        exact L.push ex e2 hp h2
  · obtain ⟨ps, ex, L⟩ := p
    have et : ys.take (xs.map enc).length = ys := by rw [List.length_map, ← hl, List.take_length]
    rw [et] at L
    exact q D ps H' (L.back e1) (e1.trans ex)
/-- [list(x) for x in xs] -/
theorem en_copy {σ : L2.St} {tl : TE} {j : Nat} {vs : List Nat} {ys : List (List V)} (h : Ev tl σ H (.ref a)) (hx : LV K H a ys) (hz : ys.length ≤ 40000) (hj : ∀ x, ((wipe σ vs).set j (some x))[j]? = some (some x))
    (hw : ∀ x, wipe ((wipe σ vs).set j (some x)) vs = wipe σ vs) : EvN (tLc (iList K tl) (gName j) tYes (tCB (rListS K) (tCons (tVar j) tNil)) vs) σ H ys := by
  obtain ⟨ps, h1, h2, h3⟩ := hx
  exact en_ys (xs := ps) (enc := V.ref) h h1 (by omega) h2.symm hw fun i x y H1 hi hy e1 => el_list (ev_var (hj _)) (ex_l e1 (h3 i x y hi hy))
theorem q_asgN {σ : L2.St} {te : TE} {ys : List (List V)} {i : Nat} {tz : TS} {D : Ends} (h : EvN te σ H ys) (k : ∀ p ps H1, LNew H H1 p ps ys → Ex H H1 → tz D (σ.set i (some (.ref p))) H1) : tSeq (tAsg te (gName i)) tz D σ H := h H (Ex.refl H) _ k
end
/-! ### heaps that are filled -/
theorem flat_set {α : Type} : ∀ {hs : List (List α)} {i : Nat} {h : List α} {x : α}, hs[i]? = some h → (hs.set i (h ++ [x])).flatten.length = hs.flatten.length + 1
  | [], _, _, _, h => by simp at h
  | h0 :: r, 0, h, x, e => by
    obtain rfl : h0 = h := Option.some.inj e
    simp
    omega
  | h0 :: r, i + 1, h, x, e => by
    have ih := flat_set (hs := r) (i := i) (h := h) (x := x) e
    simp only [List.set_cons_succ, List.flatten_cons, List.length_append]
    omega
/-- pn new heaps of goods, told by hs -/
structure Hps (H0 H : Hp) (p : Addr) (ps : List Addr) (hs : List (List Int)) (pn gn k : Nat) : Prop where
  L : LNew H0 H p ps (iv hs)
  ex : Ex H0 H
  len : hs.length = pn
  ins : ∀ h ∈ hs, Inside gn h
  few : hs.flatten.length ≤ k
theorem Hps.ext {H0 H H' : Hp} {p : Addr} {ps : List Addr} {hs : List (List Int)} {pn gn k : Nat} (h : Hps H0 H p ps hs pn gn k) (e : Ex H H') : Hps H0 H' p ps hs pn gn k := ⟨h.L.ext e, h.ex.trans e, h.len, h.ins, h.few⟩
theorem Hps.le {H0 H : Hp} {p : Addr} {ps : List Addr} {hs : List (List Int)} {pn gn k k' : Nat} (h : Hps H0 H p ps hs pn gn k) (e : k ≤ k') : Hps H0 H p ps hs pn gn k' := ⟨h.L, h.ex, h.len, h.ins, Nat.le_trans h.few e⟩
theorem flat_len_at {hs : List (List Int)} {h : List Int} (m : h ∈ hs) : h.length ≤ hs.flatten.length := by
  obtain ⟨a, b, rfl⟩ := List.append_of_mem m
  simp
  omega
/-- a written list of one list -/
theorem lv_one {K : PySem.W.Frag} {H : Hp} {a b : Addr} {r : List Int} (h : H a = some (.lst [V.ref b])) (h2 : H b = some (.lst (r.map V.int))) : LL K H a [r] := by
  refine ⟨[b], sq_of h, rfl, fun i q y h3 h4 => ?_⟩
  cases i with
  | zero =>
    obtain rfl : b = q := Option.some.inj h3
    obtain rfl : r.map V.int = y := Option.some.inj h4
    exact sq_of h2
  | succ i => simp at h3
theorem lv_two {K : PySem.W.Frag} {H : Hp} {a b c : Addr} {r t : List Int} (h : H a = some (.lst [V.ref b, V.ref c])) (h2 : H b = some (.lst (r.map V.int))) (h5 : H c = some (.lst (t.map V.int))) : LL K H a [r, t] := by
  refine ⟨[b, c], sq_of h, rfl, fun i q y h3 h4 => ?_⟩
  cases i with
  | zero =>
    obtain rfl : b = q := Option.some.inj h3
    obtain rfl : r.map V.int = y := Option.some.inj h4
    exact sq_of h2
  | succ i =>
    cases i with
    | zero =>
      obtain rfl : c = q := Option.some.inj h3
      obtain rfl : t.map V.int = y := Option.some.inj h4
      exact sq_of h5
    | succ i => simp at h3
theorem Hps.app {H0 H : Hp} {p : Addr} {ps : List Addr} {hs : List (List Int)} {pn gn k i j : Nat} (h : Hps H0 H p ps hs pn gn k) (hi : i < pn) (hj : j < gn) :
    ∃ q, ps[i]? = some q ∧ H q = some (.lst ((hs.getD i []).map V.int)) ∧ ∀ H', Ex H H' → Hps H0 (upd H' q (.lst ((hs.getD i []).map V.int ++ [.int (j : Int)]))) p ps (hs.set i (hs.getD i [] ++ [(j : Int)])) pn gn (k + 1) := by
  have hil : i < hs.length := by
    rw [h.len]
    exact hi
  have eh : hs.getD i [] = hs[i] := by simp [List.getD_eq_getElem?_getD, hil]
  have ehs : hs[i]? = some (hs.getD i []) := by rw [eh]; exact List.getElem?_eq_getElem hil
  have ey : (iv hs)[i]? = some ((hs.getD i []).map V.int) := by rw [List.getElem?_map, ehs]; rfl
  have hip : i < ps.length := by
    have := h.L.len
    rw [List.length_map] at this
    omega
  have hq : ps[i]? = some ps[i] := List.getElem?_eq_getElem hip
  refine ⟨ps[i], hq, (h.L.at_ i _ _ hq ey).2, fun H' e => ?_⟩
  refine ⟨?_, (h.L.ext e).exm hq (h.ex.trans e), by rw [List.length_set]; exact h.len, fun x hx => ?_, by rw [flat_set ehs]; have := h.few; omega⟩
  · have := (h.L.ext e).app (y' := (hs.getD i []).map V.int ++ [.int (j : Int)]) hq ey
    have es : iv (hs.set i (hs.getD i [] ++ [(j : Int)])) = (iv hs).set i ((hs.getD i []).map V.int ++ [.int (j : Int)]) := by
      show List.map _ _ = _
      rw [List.map_set, List.map_append]
      rfl
    rw [es]
    exact this
  · rcases List.mem_or_eq_of_mem_set hx with hx | rfl
    · exact h.ins x hx
    · intro g hg
      rcases List.mem_append.mp hg with hg | hg
      · exact h.ins _ (by rw [eh]; exact List.getElem_mem hil) g hg
      · rw [List.mem_singleton.mp hg]
        omega
theorem mod_range (x : Int) {m : Int} (h : 0 < m) : ∃ n : Nat, x % m = (n : Int) ∧ (n : Int) < m := by
  have h0 : 0 ≤ x % m := Int.emod_nonneg _ (by omega)
  have h1 : x % m < m := Int.emod_lt_of_pos _ h
  exact ⟨(x % m).toNat, by omega, by omega⟩
theorem shaped_list {ds : List PyData} (h : ∀ d ∈ ds, PyData.canLay0 d = true ∧ PyData.depth d ≤ 63) : SeqAt.shaped (.list ds) = true := by
  have h1 : ∀ ds : List PyData, (∀ d ∈ ds, PyData.canLay0 d = true ∧ PyData.depth d ≤ 63) → PyData.canLayAll0 ds = true ∧ PyData.depthAll ds ≤ 63 := by
    intro ds
    induction ds with
    | nil => intro _; simp [PyData.canLayAll0, PyData.depthAll]
    | cons d r ih =>
      intro h
      have a := h d List.mem_cons_self
      have b := ih fun x hx => h x (List.mem_cons_of_mem _ hx)
      simp only [PyData.canLayAll0, PyData.depthAll]
      rw [a.1, b.1]
      exact ⟨rfl, by omega⟩
  have a := h1 ds h
  unfold SeqAt.shaped
  simp only [PyData.canLay0, PyData.depth]
  rw [a.1]
  exact decide_eq_true (by omega)
section
variable {σ : L2.St} {H : Hp} {ts : TA} {Q : VK}
theorem g_lst (h : ts σ H fun xs H1 => xs.length ≤ sizeLine ∧ ∀ p, H1 p = none → Q (.ref p) (upd H1 p (.lst xs))) : tLst ts σ H Q := h
theorem g_tup (h : ts σ H fun xs H1 => xs.length ≤ sizeLine ∧ ∀ p, H1 p = none → Q (.ref p) (upd H1 p (.tup xs))) : tTup ts σ H Q := h
end
/-! ### a comprehension over a list of lists, flattened -/
theorem flat_take {α : Type} (yss : List (List α)) {i : Nat} (h : i < yss.length) : (yss.take (i + 1)).flatten = (yss.take i).flatten ++ yss[i] := by
  rw [List.take_add_one, List.getElem?_eq_getElem h, List.flatten_append]
  simp
section
variable {K : PySem.W.Frag} {σ : L2.St} {H : Hp} {te tl : TE} {a : Addr} {j j2 : Nat} {vs vs1 : List Nat}
/-- [te for ys in a for y in ys] -/
theorem el_flat {yss : List (List V)} (g : V → V) (h : Ev tl σ H (.ref a)) (hx : LV K H a yss) (hz : (yss.flatten).length ≤ 40000)
    (hj : ((wipe σ vs).set j (some (.ref a)))[j]? = some (some (.ref a)))
    (hw : ∀ x, wipe ((wipe σ vs).set j (some x)) vs = wipe σ vs) (hw1 : ∀ x y, wipe ((wipe ((wipe σ vs).set j (some x)) vs1).set j2 (some y)) vs1 = wipe ((wipe σ vs).set j (some x)) vs1)
    (he : ∀ (x y : V) H1, y ∈ yss.flatten → Ex H H1 → Ev te ((wipe ((wipe σ vs).set j (some x)) vs1).set j2 (some y)) H1 (g y)) :
    EvL (tLc2 (iList K tl) (gName j) tYes (iList K (tVar j)) (gName j2) tYes te vs vs1) σ H (yss.flatten.map g) := by
  intro H0 e0 Q q
  obtain ⟨ps, hs, hl, hat⟩ := hx
  have hjl : j < (wipe σ vs).length := by
    have := (List.getElem?_eq_some_iff.mp hj).1
    rw [List.length_set] at this
    exact this
  have fl : ∀ n, ((yss.take n).flatten).length ≤ yss.flatten.length := fun n => by
    have e : yss.flatten = (yss.take n).flatten ++ (yss.drop n).flatten := by rw [← List.flatten_append, List.take_append_drop]
    rw [e, List.length_append]
    omega
  refine h H0 e0 _ fun H1 e1 => ⟨a, rfl, ⟨_, ex_l (e0.trans e1) hs⟩, fun D hD => ?_⟩
  refine ⟨fun i m H' => m = ps.length - i ∧ i ≤ ps.length ∧ Ex H1 H' ∧ H' D = some (.lst ((yss.take i).flatten.map g)), ⟨ps.length, rfl, Nat.zero_le _, Ex.new hD, upd_same⟩, ?_⟩
  rintro i m H' ⟨rfl, hi, ex, hD'⟩
  have hS : SqL K H' a (ps.map V.ref) := ex_l ((e0.trans e1).trans ex) hs
  by_cases hlt : i < ps.length
  · have hy : i < yss.length := by omega
    refine .inr ⟨⟨_, _, hS, by rw [List.getElem?_map, List.getElem?_eq_getElem hlt]; rfl⟩, fun H'' => i + 1 ≤ ps.length ∧ Ex H1 H'' ∧ H'' D = some (.lst ((yss.take (i + 1)).flatten.map g)), fun H'' z => ⟨ps.length - (i + 1), by omega, rfl, z⟩, fun x H'' y => ?_⟩
    obtain ⟨rfl, hyl⟩ := y
    have ex' := hyl _ hS
    rw [List.getElem?_map, List.getElem?_eq_getElem hlt] at ex'
    obtain rfl : V.ref ps[i] = x := Option.some.inj ex'
    refine ⟨hw _, iteT (B := i + 1 ≤ ps.length ∧ Ex H1 H'' ∧ H'' D = some (.lst ((yss.take (i + 1)).flatten.map g))) ?_⟩
    have hq : SqL K H'' ps[i] yss[i] := ex_l ((e0.trans e1).trans ex) (hat i _ _ (List.getElem?_eq_getElem hlt) (List.getElem?_eq_getElem hy))
    refine ⟨.ref ps[i], by rw [List.getElem?_set_self hjl], ps[i], rfl, ⟨_, hq⟩, ?_⟩
    refine ⟨fun k m H3 => m = yss[i].length - k ∧ k ≤ yss[i].length ∧ Ex H1 H3 ∧ H3 D = some (.lst (((yss.take i).flatten ++ yss[i].take k).map g)), ⟨yss[i].length, rfl, Nat.zero_le _, ex, by simpa using hD'⟩, ?_⟩
    rintro k m H3 ⟨rfl, hk, ex3, hD3⟩
    have hq3 : SqL K H3 ps[i] yss[i] := ex_l ((e0.trans e1).trans ex3) (hat i _ _ (List.getElem?_eq_getElem hlt) (List.getElem?_eq_getElem hy))
    by_cases hkl : k < yss[i].length
    · refine .inr ⟨⟨_, _, hq3, List.getElem?_eq_getElem hkl⟩, fun H4 => k + 1 ≤ yss[i].length ∧ Ex H1 H4 ∧ H4 D = some (.lst (((yss.take i).flatten ++ yss[i].take (k + 1)).map g)), fun H4 z => ⟨yss[i].length - (k + 1), by omega, rfl, z⟩, fun y H4 z => ?_⟩
      obtain ⟨rfl, hyl2⟩ := z
      have ey := hyl2 _ hq3
      rw [List.getElem?_eq_getElem hkl] at ey
      obtain rfl : yss[i][k] = y := Option.some.inj ey
      refine ⟨hw1 _ _, iteT (B := k + 1 ≤ yss[i].length ∧ Ex H1 H4 ∧ H4 D = some (.lst (((yss.take i).flatten ++ yss[i].take (k + 1)).map g))) ?_⟩
      have hm : yss[i][k] ∈ yss.flatten := List.mem_flatten.mpr ⟨_, List.getElem_mem hy, List.getElem_mem hkl⟩
      refine he _ _ H4 hm ((e0.trans e1).trans ex3) H4 (Ex.refl H4) _ fun H5 e5 => ⟨_, e5 _ _ hD3, sz_lt ?_, by omega, Ex.mut (ex3.trans e5) hD, ?_⟩
      · rw [List.length_map, List.length_append, List.length_take]
        have h2 := fl (i + 1)
        rw [flat_take yss hy, List.length_append] at h2
        omega
      · rw [upd_same, List.take_add_one, List.getElem?_eq_getElem hkl, ← List.append_assoc, List.map_append (l₁ := (yss.take i).flatten ++ yss[i].take k)]
        rfl
    · have ek : k = yss[i].length := by omega
      subst ek
      refine .inl ⟨⟨_, hq3, Nat.le_refl _⟩, by omega, ex3, ?_⟩
      rw [hD3, flat_take yss hy, List.take_length]
  · have ei : i = ps.length := by omega
    subst ei
    refine .inl ⟨⟨_, hS, by rw [List.length_map]; exact Nat.le_refl _⟩, ?_⟩
    rw [hl, List.take_length] at hD'
    exact q D H' (fresh_back e1 hD) (e1.trans ex) hD'
end
/-! ### equal data -/
theorem rv_neR {K : PySem.W.Frag} {H : Hp} {v w : V} {d : PyData} (hs : SeqAt.shaped d = true) (h1 : Dp K H v d) (h2 : Dp K H w d) : RV (rNeD K) v w H (.bl false) := fun H1 e Q q =>
  ⟨d, d, dp_mono e h1, dp_mono e h2, hs, hs, by rw [SeqAt.eqv_refl d (SeqAt.canLay_of_shaped hs)]; exact q H1 (Ex.refl H1)⟩
theorem rv_eqR {K : PySem.W.Frag} {H : Hp} {v w : V} {d : PyData} (hs : SeqAt.shaped d = true) (h1 : Dp K H v d) (h2 : Dp K H w d) : RV (rEqD K) v w H (.bl true) := fun H1 e Q q =>
  ⟨d, d, dp_mono e h1, dp_mono e h2, hs, hs, by rw [SeqAt.eqv_refl d (SeqAt.canLay_of_shaped hs)]; exact q H1 (Ex.refl H1)⟩
/-! ### lists of pairs -/
/-- at p a list of new tuples of two ints -/
structure PNew (H : Hp) (p : Addr) (qs : List Addr) (ps : List (Int × Int)) : Prop where
  top : H p = some (.lst (qs.map V.ref))
  len : qs.length = ps.length
  at_ : ∀ (i : Nat) (q : Addr) (x : Int × Int), qs[i]? = some q → ps[i]? = some x → H q = some (.tup [.int x.1, .int x.2])
abbrev dP (ps : List (Int × Int)) : PyData := .list (ps.map fun x => PyData.tuple [.int x.1, .int x.2])
theorem encP : EncOk dP 2 := encList (encPair encInt encInt)
def RetP (ps : List (Int × Int)) (H : Hp) (Q : VK) : Prop := ∀ p qs H2, H p = none → Ex H H2 → PNew H2 p qs ps → Q (.ref p) H2
section
variable {K : PySem.W.Frag} {H H' : Hp} {p : Addr} {qs : List Addr} {ps : List (Int × Int)}
theorem PNew.ext (h : PNew H p qs ps) (e : Ex H H') : PNew H' p qs ps := ⟨e _ _ h.top, h.len, fun i q x h1 h2 => e _ _ (h.at_ i q x h1 h2)⟩
theorem PNew.push {t : Addr} {x : Int × Int} (P : PNew H p qs ps) (e : Ex H H') (ht : H t = none) (h2 : H' t = some (.tup [.int x.1, .int x.2])) : PNew (upd H' p (.lst (qs.map V.ref ++ [.ref t]))) p (qs ++ [t]) (ps ++ [x]) := by
  have ntp : t ≠ p := fun z => by
    rw [z, P.top] at ht
    cases ht
  refine ⟨?_, ?_, fun i q y h3 h4 => ?_⟩
  · rw [upd_same, List.map_append]
    rfl
  · rw [List.length_append, List.length_append, P.len]
    rfl
  · by_cases hi : i < qs.length
    · rw [List.getElem?_append_left hi] at h3
      rw [List.getElem?_append_left (by rw [← P.len]; exact hi)] at h4
      have a1 := P.at_ i q y h3 h4
      have nq : q ≠ p := ne_of a1 P.top (by intro z; cases z)
      rw [upd_ne nq]
      exact e _ _ a1
    · have hk : i = qs.length := by
        have := (List.getElem?_eq_some_iff.mp h3).1
        rw [List.length_append] at this
        have : i < qs.length + 1 := this
        omega
      subst hk
      rw [List.getElem?_append_right (Nat.le_refl _), Nat.sub_self] at h3
      rw [List.getElem?_append_right (by rw [← P.len]; exact Nat.le_refl _), ← P.len, Nat.sub_self] at h4
      obtain rfl : t = q := Option.some.inj h3
      obtain rfl : x = y := Option.some.inj h4
      rw [upd_ne ntp]
      exact h2
theorem dpAll_pairs : ∀ {qs : List Addr} {ps : List (Int × Int)}, qs.length = ps.length → (∀ (i : Nat) (q : Addr) (x : Int × Int), qs[i]? = some q → ps[i]? = some x → H q = some (.tup [.int x.1, .int x.2])) → DpAll K H (qs.map V.ref) (ps.map fun x => PyData.tuple [.int x.1, .int x.2])
  | [], [], _, _ => .nil
  | [], _ :: _, h, _ => by cases h
  | _ :: _, [], h, _ => by cases h
  | q :: qs, x :: ps, hl, h => .cons (.tup (st_of (h 0 q x rfl rfl)) (.cons (.int _) (.cons (.int _) .nil))) (dpAll_pairs (Nat.succ.inj hl) fun i q s h1 h2 => h (i + 1) q s h1 h2)
theorem PNew.dp (P : PNew H p qs ps) : Dp K H (.ref p) (dP ps) := .lst (sq_of P.top) (dpAll_pairs P.len P.at_)
end
theorem ev_isList {σ : L2.St} {K : PySem.W.Frag} {H : Hp} {te : TE} {a : Addr} {xs : List V} (h : Ev te σ H (.ref a)) (hx : H a = some (.lst xs)) : Ev (tCB (rIsi K) (tCons te (tCons (tC (.ty "list")) tNil))) σ H (.bl true) :=
  ev_cb (ea_cons h (ea_cons ev_c ea_nil)) fun H1 e Q q => ⟨_, _, _, _, true, rfl, .ty _, .base (.lst (e _ _ hx)), kit_ty (by decide +kernel), q H1 (Ex.refl H1)⟩
theorem ev_isTuple {σ : L2.St} {K : PySem.W.Frag} {H : Hp} {te : TE} {a : Addr} {xs : List V} (h : Ev te σ H (.ref a)) (hx : H a = some (.tup xs)) : Ev (tCB (rIsi K) (tCons te (tCons (tC (.ty "tuple")) tNil))) σ H (.bl true) :=
  ev_cb (ea_cons h (ea_cons ev_c ea_nil)) fun H1 e Q q => ⟨_, _, _, _, true, rfl, .ty _, .base (.tup (e _ _ hx)), kit_ty (by decide +kernel), q H1 (Ex.refl H1)⟩
theorem ev_lenT {σ : L2.St} {K : PySem.W.Frag} {H : Hp} {ta : TE} {p : Addr} {xs : List V} (ha : Ev ta σ H (.ref p)) (h : H p = some (.tup xs)) : Ev (tCB (rLenS K) (tCons ta tNil)) σ H (.int (xs.length : Int)) := fun H1 e Q q =>
  ha H1 e _ fun H2 e2 => ⟨p, xs, rfl, Or.inr (st_of ((e.trans e2) _ _ h)), q H2 e2⟩
/-! ### comprehensions over rows, over two lists at once -/
section
variable {K : PySem.W.Frag} {σ : L2.St} {H : Hp} {te tl : TE} {ta : TA} {a b : Addr} {j j1 j2 : Nat} {vs : List Nat}
/-- [te for row in rows] -/
theorem el_rows {rows : List (List Int)} (g : List Int → V) (h : Ev tl σ H (.ref a)) (hx : LL K H a rows) (hz : rows.length ≤ 40000) (hw : ∀ x, wipe ((wipe σ vs).set j (some x)) vs = wipe σ vs)
    (he : ∀ (i : Nat) (p : Addr) H1, i < rows.length → SqL K H1 p ((rows.getD i []).map V.int) → Ex H H1 → Ev te ((wipe σ vs).set j (some (.ref p))) H1 (g (rows.getD i []))) :
    EvL (tLc (iList K tl) (gName j) tYes te vs) σ H (rows.map g) := by
  obtain ⟨ps, h1, h2, h3⟩ := hx
  rw [List.length_map] at h2
  have L := el_lcL (t := tYes) (te := te) (j := j) (vs := vs) (fun _ => true) (fun i => g (rows.getD i [])) h h1 (by rw [List.length_map]; omega) hw (fun _ _ _ _ _ => et_yes)
    (fun i x H1 e1 hi _ => by
      rw [List.getElem?_map] at hi
      cases ei : ps[i]? with
      | none =>
        rw [ei] at hi
        cases hi
      | some p =>
        rw [ei] at hi
        obtain rfl : V.ref p = x := Option.some.inj hi
        have hil : i < rows.length := by
          have := (List.getElem?_eq_some_iff.mp ei).1
          omega
        have er : rows.getD i [] = rows[i] := by simp [List.getD_eq_getElem?_getD, hil]
        refine he i p H1 hil (ex_l e1 (h3 i p _ ei ?_)) e1
        rw [List.getElem?_map, List.getElem?_eq_getElem hil, er]
        rfl)
  rw [List.length_map, h2, given_all] at L
  exact L
/-- [te for x, y in zip(xs, ys)] -/
theorem el_zip {xs ys : List V} (v : Nat → V) (h : EvA ta σ H [.ref a, .ref b]) (hx : SqL K H a xs) (hy : SqL K H b ys) (hl : xs.length = ys.length) (hz : xs.length ≤ 40000)
    (hw : ∀ x y, wipe (((wipe σ vs).set j1 (some x)).set j2 (some y)) vs = wipe σ vs)
    (he : ∀ (i : Nat) (x y : V) H1, xs[i]? = some x → ys[i]? = some y → Ex H H1 → Ev te (((wipe σ vs).set j1 (some x)).set j2 (some y)) H1 (v i)) :
    EvL (tLc (iZip K ta) (gTup K 2 (gCons (gName j1) (gCons (gName j2) gNil))) tYes te vs) σ H ((List.range xs.length).map v) := by
  intro H0 e0 Q q
  refine h H0 e0 _ fun H1 e1 => ⟨a, b, xs, ys, rfl, ex_l (e0.trans e1) hx, ex_l (e0.trans e1) hy, fun D hD => ?_⟩
  refine ⟨fun i m H' => m = xs.length - i ∧ i ≤ xs.length ∧ Ex H1 H' ∧ H' D = some (.lst ((List.range i).map v)), ⟨xs.length, rfl, Nat.zero_le _, Ex.new hD, upd_same⟩, ?_⟩
  rintro i m H' ⟨rfl, hi, ex, hD'⟩
  have qx : SqL K H' a xs := ex_l ((e0.trans e1).trans ex) hx
  have qy : SqL K H' b ys := ex_l ((e0.trans e1).trans ex) hy
  by_cases hlt : i < xs.length
  · have hlt2 : i < ys.length := by omega
    refine .inr ⟨⟨xs, ys, _, _, qx, qy, List.getElem?_eq_getElem hlt, List.getElem?_eq_getElem hlt2⟩, fun H'' => i + 1 ≤ xs.length ∧ Ex H1 H'' ∧ H'' D = some (.lst ((List.range (i + 1)).map v)), fun H'' z => ⟨xs.length - (i + 1), by omega, rfl, z⟩, fun u H'' y => ?_⟩
    obtain ⟨T, x', y', rfl, hT, rfl, f1, f2⟩ := y
    have eT : Ex H' (upd H' T (.tup [x', y'])) := Ex.new hT
    refine ⟨T, [x', y'], rfl, .inl (.inl upd_same), rfl, x', [y'], rfl, y', [], rfl, rfl, hw _ _, iteT (B := i + 1 ≤ xs.length ∧ Ex H1 (upd H' T (.tup [x', y'])) ∧ (upd H' T (.tup [x', y'])) D = some (.lst ((List.range (i + 1)).map v))) ?_⟩
    refine he i x' y' _ (f1 _ qx) (f2 _ qy) (((e0.trans e1).trans ex).trans eT) _ (Ex.refl _) _ fun H3 e3 => ⟨_, e3 _ _ (eT _ _ hD'), sz_lt (by rw [List.length_map, List.length_range]; omega), by omega, Ex.mut ((ex.trans eT).trans e3) hD, ?_⟩
    rw [upd_same, List.range_succ, List.map_append]
    rfl
  · have ei : i = xs.length := by omega
    subst ei
    exact .inl ⟨⟨xs, ys, qx, qy, Or.inl (Nat.le_refl _)⟩, q D H' (fresh_back e1 hD) (e1.trans ex) hD'⟩
end
/-- at a stands a list of lists that this call, or the one asking, has made -/
def TV (H : Hp) (a : Addr) (ys : List (List V)) : Prop :=
  ∃ ps : List Addr, H a = some (.lst (ps.map V.ref)) ∧ ps.length = ys.length ∧ ∀ (i : Nat) (q : Addr) (y : List V), ps[i]? = some q → ys[i]? = some y → H q = some (.lst y)
theorem TV.mono {H H' : Hp} {a : Addr} {ys : List (List V)} (e : Ex H H') (h : TV H a ys) : TV H' a ys := by
  obtain ⟨ps, h1, h2, h3⟩ := h
  exact ⟨ps, e _ _ h1, h2, fun i q y h4 h5 => e _ _ (h3 i q y h4 h5)⟩
theorem LNew.tv {H0 H : Hp} {p : Addr} {ps : List Addr} {ys : List (List V)} (h : LNew H0 H p ps ys) : TV H p ys := ⟨ps, h.top, h.len, fun i q y h1 h2 => (h.at_ i q y h1 h2).2⟩
theorem TV.lv {K : PySem.W.Frag} {H : Hp} {a : Addr} {ys : List (List V)} (h : TV H a ys) : LV K H a ys := by
  obtain ⟨ps, h1, h2, h3⟩ := h
  exact ⟨ps, sq_of h1, h2, fun i q y h4 h5 => sq_of (h3 i q y h4 h5)⟩
/-! ### bids, heaps and sums -/
/-- bids: 1 to 9 rows of m bids -/
structure Bids (rows : List (List Int)) (m : Nat) : Prop where
  ne : 0 < rows.length
  l9 : rows.length ≤ 9
  m40 : m ≤ 40
  len : ∀ r ∈ rows, r.length = m
  ok : ∀ r ∈ rows, ∀ b ∈ r, 0 ≤ b ∧ b ≤ 1000000000000
theorem Bids.at_ {rows : List (List Int)} {m : Nat} (h : Bids rows m) {i : Nat} (hi : i < rows.length) : (rows.getD i []).length = m := by
  have e : rows.getD i [] = rows[i] := by simp [List.getD_eq_getElem?_getD, hi]
  rw [e]
  exact h.len _ (List.getElem_mem hi)
/-- heaps and sums that fit the bids -/
structure Fits (rows : List (List Int)) (m : Nat) (hs : List (List Int)) (ss : List Int) : Prop where
  hl : hs.length = rows.length
  sl : ss.length = rows.length
  ins : ∀ h ∈ hs, Inside m h
  few : hs.flatten.length ≤ 4000
theorem Fits.at_ {rows : List (List Int)} {m : Nat} {hs : List (List Int)} {ss : List Int} (F : Fits rows m hs ss) {i : Nat} (hi : i < rows.length) : Inside m (hs.getD i []) := by
  have h2 : i < hs.length := by
    rw [F.hl]
    exact hi
  have e : hs.getD i [] = hs[i] := by simp [List.getD_eq_getElem?_getD, h2]
  rw [e]
  exact F.ins _ (List.getElem_mem h2)
theorem Fits.few_at {rows : List (List Int)} {m : Nat} {hs : List (List Int)} {ss : List Int} (F : Fits rows m hs ss) {i : Nat} (hi : i < rows.length) : (hs.getD i []).length ≤ 4000 := by
  have h2 : i < hs.length := by
    rw [F.hl]
    exact hi
  have e : hs.getD i [] = hs[i] := by simp [List.getD_eq_getElem?_getD, h2]
  rw [e]
  exact Nat.le_trans (flat_len_at (List.getElem_mem h2)) F.few
theorem iv_flat (hs : List (List Int)) : (iv hs).flatten = hs.flatten.map V.int := by
  rw [List.map_flatten]
theorem any_flat {H : Hp} (hs : List (List Int)) : ∀ y ∈ (iv hs).flatten, Any H y := by
  intro y hy
  rw [iv_flat] at hy
  obtain ⟨g, hg, rfl⟩ := List.mem_map.mp hy
  exact .int g
def gainM (rows hs : List (List Int)) (ss : List Int) (i j : Nat) : Int := worthM (rows.getD i []) (hs.getD j []) * rows.length - ss.getD j 0
/-- append to one of the new lists -/
theorem LNew.put {H0 H : Hp} {p : Addr} {ps : List Addr} {hs : List (List Int)} {i : Nat} (h : LNew H0 H p ps (iv hs)) (hi : i < hs.length) :
    ∃ q, ps[i]? = some q ∧ H q = some (.lst ((hs.getD i []).map V.int)) ∧ ∀ H', Ex H H' → ∀ z : Int, LNew H0 (upd H' q (.lst ((hs.getD i []).map V.int ++ [.int z]))) p ps (iv (hs.set i (hs.getD i [] ++ [z]))) := by
  have ehs : hs[i]? = some (hs.getD i []) := by simp [List.getD_eq_getElem?_getD, hi]
  have ey : (iv hs)[i]? = some ((hs.getD i []).map V.int) := by rw [List.getElem?_map, ehs]; rfl
  have hip : i < ps.length := by
    have := h.len
    rw [List.length_map] at this
    omega
  have hq : ps[i]? = some ps[i] := List.getElem?_eq_getElem hip
  refine ⟨ps[i], hq, (h.at_ i _ _ hq ey).2, fun H' e z => ?_⟩
  have := (h.ext e).app (y' := (hs.getD i []).map V.int ++ [.int z]) hq ey
  have es : iv (hs.set i (hs.getD i [] ++ [z])) = (iv hs).set i ((hs.getD i []).map V.int ++ [.int z]) := by
    show List.map _ _ = _
    rw [List.map_set, List.map_append]
    rfl
  rw [es]
  exact this
/-! ### a heap without some of its objects -/
def msk (H : Hp) (l : List Addr) : Hp := fun b => if b ∈ l then none else H b
theorem msk_at {H : Hp} {l : List Addr} {b : Addr} (h : b ∉ l) : msk H l b = H b := by
  unfold msk
  rw [if_neg h]
theorem msk_of {H : Hp} {l : List Addr} {b : Addr} {o : HO} (h : msk H l b = some o) : H b = some o ∧ b ∉ l := by
  unfold msk at h
  by_cases m : b ∈ l
  · rw [if_pos m] at h
    cases h
  · rw [if_neg m] at h
    exact ⟨h, m⟩
theorem msk_ex {H H' : Hp} {l : List Addr} (h : ∀ b o, H b = some o → b ∉ l → H' b = some o) : Ex (msk H l) H' := fun b o e => h b o (msk_of e).1 (msk_of e).2
theorem ex_msk {Hb H : Hp} {l : List Addr} (e : Ex Hb H) (h : ∀ b ∈ l, Hb b = none) : Ex Hb (msk H l) := fun b o hb => by
  rw [msk_at fun m => by rw [h b m] at hb; cases hb]
  exact e b o hb
theorem LNew.msk {H0 H : Hp} {p : Addr} {ps : List Addr} {ys : List (List V)} {l : List Addr} (L : LNew H0 H p ps ys) (h : ∀ b ∈ l, H0 b ≠ none) : TV (msk H l) p ys := by
  have n : ∀ b, H0 b = none → b ∉ l := fun b hb m => h b m hb
  refine ⟨ps, by rw [msk_at (n p L.new)]; exact L.top, L.len, fun i q y h1 h2 => ?_⟩
  have a := L.at_ i q y h1 h2
  rw [msk_at (n q a.1)]
  exact a.2
theorem TV.any {H : Hp} (hs : List (List Int)) : ∀ y ∈ (iv hs).flatten, Any H y := any_flat hs
/-- if a or not b: .., where b changes something -/
theorem q_orNot {σ : L2.St} {H : Hp} {t1 : TT} {te : TE} {tu tz : TS} {D : Ends} (h1 : EvT t1 σ H false) (h2 : ∀ H1, Ex H H1 → te σ H1 fun x H2 => ∃ k, x = .bl k ∧ (if (!k) = true then tu { D with nx := tz D } σ H2 else tz D σ H2)) : tSeq (tIfS (tOr t1 (tNot (tB te))) tu tNext) tz D σ H :=
  h1 H (Ex.refl H) _ fun H1 e1 => h2 H1 e1
/-! ### what is told of heaps, deals, envy -/
/-- x is the number of one of m -/
def place (x : V) (m : Int) : Bool := match x with
  | .int i => decide (0 ≤ i ∧ i < m)
  | _ => false
/-- how often each good stands there -/
def seenM (vs : List V) (g : Nat) : List Int := (List.range g).map fun k : Nat => ((vs.count (V.int k) : Nat) : Int)
def heapsB (yss : List (List V)) (n : Int) (g : Nat) : Bool := decide ((yss.length : Int) = n) && (yss.flatten.all (fun y => place y g) && decide (seenM yss.flatten g = List.replicate g 1))
theorem seenM_len (vs : List V) (g : Nat) : (seenM vs g).length = g := by simp [seenM]
theorem seenM_nil (g : Nat) : seenM [] g = List.replicate g 0 := by
  unfold seenM
  refine List.ext_getElem (by simp) fun i h1 h2 => ?_
  simp
theorem seenM_push {vs : List V} {g k : Nat} (h : k < g) : (seenM vs g).set k ((seenM vs g).getD k 0 + 1) = seenM (vs ++ [V.int k]) g := by
  refine List.ext_getElem (by simp [seenM]) fun i h1 h2 => ?_
  have hi : i < g := by simpa [seenM] using h2
  rw [List.getElem_set]
  by_cases e : k = i
  · subst e
    rw [if_pos rfl]
    simp [seenM, List.getD_eq_getElem?_getD, h]
  · rw [if_neg e]
    have : List.count (V.int (i : Int)) [V.int (k : Int)] = 0 := by
      rw [List.count_eq_zero]
      intro m
      have := V.int.inj (List.mem_singleton.mp m)
      omega
    simp [seenM, List.count_append, this]
def dealB (yss : List (List V)) (ss : List Int) (n : Int) (g : Nat) : Bool := heapsB yss n g && (decide ((ss.length : Int) = n) && decide (ss.sum = 0))
def enviedB (g : Nat → Nat → Int) (n : Nat) : Bool := (List.range n).any fun i => (List.range n).any fun j => decide (g i i < g i j)
theorem enviedB_of {g : Nat → Nat → Int} {n i j : Nat} (hi : i < n) (hj : j < n) (h : g i i < g i j) : enviedB g n = true :=
  List.any_eq_true.mpr ⟨i, List.mem_range.mpr hi, List.any_eq_true.mpr ⟨j, List.mem_range.mpr hj, decide_eq_true h⟩⟩
theorem enviedB_not {g : Nat → Nat → Int} {n : Nat} (h : ∀ i j, i < n → j < n → g i j ≤ g i i) : enviedB g n = false := by
  cases e : enviedB g n with
  | false => rfl
  | true =>
    obtain ⟨i, hi, h2⟩ := List.any_eq_true.mp e
    obtain ⟨j, hj, h3⟩ := List.any_eq_true.mp h2
    have := h i j (List.mem_range.mp hi) (List.mem_range.mp hj)
    have := of_decide_eq_true h3
    omega
/-- of pairs (i, j): those where g i j is more than g i i -/
def pairRow (g : Nat → Nat → Int) (n i : Nat) : List (Int × Int) := ((List.range n).filter fun j : Nat => decide (g i i < g i j)).map fun j : Nat => ((i : Int), (j : Int))
def pairsM (g : Nat → Nat → Int) (n i : Nat) : List (Int × Int) := ((List.range i).map (pairRow g n)).flatten
theorem pairRow_succ (g : Nat → Nat → Int) (j i : Nat) : pairRow g (j + 1) i = pairRow g j i ++ (if g i i < g i j then [((i : Int), (j : Int))] else []) := by
  unfold pairRow
  rw [List.range_succ, List.filter_append, List.map_append]
  congr 1
  by_cases h : g i i < g i j
  · simp [h]
  · simp [h]
theorem pairsM_succ (g : Nat → Nat → Int) (n i : Nat) : pairsM g n (i + 1) = pairsM g n i ++ pairRow g n i := by
  unfold pairsM
  rw [List.range_succ, List.map_append, List.flatten_append]
  simp
theorem pairRow_len (g : Nat → Nat → Int) (n i : Nat) : (pairRow g n i).length ≤ n := by
  unfold pairRow
  rw [List.length_map]
  have := List.length_filter_le (fun j : Nat => decide (g i i < g i j)) (List.range n)
  rw [List.length_range] at this
  exact this
theorem pairsM_len (g : Nat → Nat → Int) (n : Nat) : ∀ i, (pairsM g n i).length ≤ i * n
  | 0 => by simp [pairsM]
  | i + 1 => by
    rw [pairsM_succ, List.length_append]
    have h1 := pairsM_len g n i
    have h2 := pairRow_len g n i
    have e : (i + 1) * n = i * n + n := Nat.succ_mul i n
    omega
/-! ### the deal in heaps -/
def bidAt (rows : List (List Int)) (i g : Nat) : Int := (rows.getD i []).getD g 0
/-- person i is the first of those who bid most for the good g -/
def firstB (rows : List (List Int)) (i g : Nat) : Bool := (List.range rows.length).all fun k => !(decide (bidAt rows i g < bidAt rows k g) || (decide (bidAt rows k g = bidAt rows i g) && decide (k < i)))
theorem firstB_iff {rows : List (List Int)} {i g : Nat} : firstB rows i g = true ↔ ∀ k, k < rows.length → bidAt rows k g ≤ bidAt rows i g ∧ (bidAt rows k g = bidAt rows i g → i ≤ k) := by
  unfold firstB
  rw [List.all_eq_true]
  constructor
  · intro h k hk
    have h1 := h k (List.mem_range.mpr hk)
    simp at h1
    exact ⟨h1.1, fun e => h1.2.resolve_left fun n => n e⟩
  · intro h k hk
    have h1 := h k (List.mem_range.mp hk)
    simp
    refine ⟨h1.1, ?_⟩
    by_cases e : bidAt rows k g = bidAt rows i g
    · exact .inr (h1.2 e)
    · exact .inl e
theorem firstB_uniq {rows : List (List Int)} {i j g : Nat} (hi : i < rows.length) (hj : j < rows.length) (h1 : firstB rows i g = true) (h2 : firstB rows j g = true) : i = j := by
  have a := firstB_iff.mp h1 j hj
  have b := firstB_iff.mp h2 i hi
  have e : bidAt rows i g = bidAt rows j g := by omega
  have := a.2 e.symm
  have := b.2 e
  omega
/-- the heaps of the first m goods -/
def heapsM (rows : List (List Int)) (m : Nat) : List (List Int) := (List.range rows.length).map fun i : Nat => ((List.range m).filter (firstB rows i)).map fun g : Nat => (g : Int)
theorem heapsM_len (rows : List (List Int)) (m : Nat) : (heapsM rows m).length = rows.length := by simp [heapsM]
theorem heapsM_at {rows : List (List Int)} {m i : Nat} (hi : i < rows.length) : (heapsM rows m).getD i [] = ((List.range m).filter (firstB rows i)).map fun g : Nat => (g : Int) := by
  simp [heapsM, List.getD_eq_getElem?_getD, hi]
theorem heapsM_in (rows : List (List Int)) (m : Nat) : ∀ h ∈ heapsM rows m, Inside m h := by
  intro h hh g hg
  obtain ⟨i, _, rfl⟩ := List.mem_map.mp hh
  obtain ⟨j, hj, rfl⟩ := List.mem_map.mp hg
  have := List.mem_range.mp (List.mem_filter.mp hj).1
  omega
theorem heapsM_succ {rows : List (List Int)} {m j : Nat} (hj : j < rows.length) (hf : firstB rows j m = true) : (heapsM rows m).set j ((heapsM rows m).getD j [] ++ [(m : Int)]) = heapsM rows (m + 1) := by
  refine List.ext_getElem (by simp [heapsM]) fun k h1 h2 => ?_
  have hk : k < rows.length := by simpa [heapsM] using h2
  have e2 : (heapsM rows (m + 1))[k] = ((List.range (m + 1)).filter (firstB rows k)).map fun g : Nat => (g : Int) := by simp [heapsM]
  rw [e2, List.getElem_set, List.range_succ, List.filter_append, List.map_append]
  by_cases e : j = k
  · subst e
    rw [if_pos rfl, heapsM_at hj]
    simp [hf]
  · rw [if_neg e]
    have hn : firstB rows k m = false := by
      cases h : firstB rows k m with
      | false => rfl
      | true => exact absurd (firstB_uniq hj hk hf h) e
    simp [heapsM, hn]
/-- what each one's own heap is worth to them, and what they pay -/
def ownM (rows hs : List (List Int)) : List Int := (List.range rows.length).map fun i => worthM (rows.getD i []) (hs.getD i [])
def payM (rows hs : List (List Int)) : List Int := (ownM rows hs).map fun o => o * rows.length - (ownM rows hs).sum
theorem ownM_len (rows hs : List (List Int)) : (ownM rows hs).length = rows.length := by simp [ownM]
theorem payM_len (rows hs : List (List Int)) : (payM rows hs).length = rows.length := by simp [payM, ownM]
theorem heaps_few {rows : List (List Int)} {m : Nat} (h9 : rows.length ≤ 9) (h40 : m ≤ 40) : (heapsM rows m).flatten.length ≤ 4000 := by
  have h : ∀ hs : List (List Int), (∀ h ∈ hs, h.length ≤ 40) → hs.flatten.length ≤ hs.length * 40 := by
    intro hs
    induction hs with
    | nil => intro _; simp
    | cons x r ih =>
      intro hx
      have a := hx x List.mem_cons_self
      have b := ih fun y hy => hx y (List.mem_cons_of_mem _ hy)
      rw [List.flatten_cons, List.length_append, List.length_cons]
      omega
  have h2 := h (heapsM rows m) fun x hx => by
    obtain ⟨i, _, rfl⟩ := List.mem_map.mp hx
    rw [List.length_map]
    have := List.length_filter_le (firstB rows i) (List.range m)
    rw [List.length_range] at this
    omega
  rw [heapsM_len] at h2
  omega
/-- the deal in heaps fits -/
theorem heaps_fit {rows : List (List Int)} {m : Nat} (hb : Bids rows m) : Fits rows m (heapsM rows m) (payM rows (heapsM rows m)) := ⟨heapsM_len _ _, payM_len _ _, heapsM_in _ _, heaps_few hb.l9 hb.m40⟩
/-- at p a new deal -/
structure DNew (H0 H : Hp) (p hp sp : Addr) (hps : List Addr) (hs : List (List Int)) (ss : List Int) : Prop where
  new : H0 p = none
  L : LNew H0 H hp hps (iv hs)
  sn : H0 sp = none
  s : H sp = some (.lst (ss.map V.int))
  t : H p = some (.tup [.ref hp, .ref sp])
  apart : sp ∉ hp :: hps
theorem DNew.ext {H0 H H' : Hp} {p hp sp : Addr} {hps : List Addr} {hs : List (List Int)} {ss : List Int} (d : DNew H0 H p hp sp hps hs ss) (e : Ex H H') : DNew H0 H' p hp sp hps hs ss := ⟨d.new, d.L.ext e, d.sn, e _ _ d.s, e _ _ d.t, d.apart⟩
theorem DNew.back {H0 H Hb : Hp} {p hp sp : Addr} {hps : List Addr} {hs : List (List Int)} {ss : List Int} (d : DNew H0 H p hp sp hps hs ss) (e : Ex Hb H0) : DNew Hb H p hp sp hps hs ss := ⟨fresh_back e d.new, d.L.back e, fresh_back e d.sn, d.s, d.t, d.apart⟩
theorem map_erase {α β : Type} (f : α → β) : ∀ (l : List α) (i : Nat), (l.map f).eraseIdx i = (l.eraseIdx i).map f
  | [], _ => rfl
  | _ :: _, 0 => rfl
  | x :: r, i + 1 => by
    show f x :: (r.map f).eraseIdx i = f x :: (r.eraseIdx i).map f
    rw [map_erase f r i]
def intOf : V → Int
  | .int i => i
  | _ => 0
def hsOf (yss : List (List V)) : List (List Int) := yss.map fun ys => ys.map intOf
theorem hsOf_iv {yss : List (List V)} {m : Int} (h : yss.flatten.all (fun y => place y m) = true) : iv (hsOf yss) = yss := by
  show List.map _ (List.map _ yss) = yss
  rw [List.map_map]
  refine (List.map_congr_left fun ys hys => ?_).trans (List.map_id _)
  show List.map _ (List.map _ _) = ys
  rw [List.map_map]
  refine (List.map_congr_left fun y hy => ?_).trans (List.map_id _)
  have := List.all_eq_true.mp h y (List.mem_flatten.mpr ⟨ys, hys, hy⟩)
  cases y with
  | int i => rfl
  | _ => cases this
theorem hsOf_in {yss : List (List V)} {m : Nat} (h : yss.flatten.all (fun y => place y m) = true) : ∀ h ∈ hsOf yss, Inside m h := by
  intro hh hm g hg
  obtain ⟨ys, hys, rfl⟩ := List.mem_map.mp hm
  obtain ⟨y, hy, rfl⟩ := List.mem_map.mp hg
  have := List.all_eq_true.mp h y (List.mem_flatten.mpr ⟨ys, hys, hy⟩)
  cases y with
  | int i => exact of_decide_eq_true this
  | _ => cases this
theorem hsOf_flat (yss : List (List V)) : (hsOf yss).flatten.length = yss.flatten.length := by
  unfold hsOf
  rw [← List.map_flatten, List.length_map]
/-- x may stand as a bid -/
def bidOk (x : V) : Bool := match x with
  | .int i => decide (0 ≤ i ∧ i ≤ 1000000000000)
  | _ => false
/-- something that == can compare -/
def Itm (K : PySem.W.Frag) (H : Hp) (y : V) : Prop := Any H y ∧ ∃ d, Dp K H y d ∧ PyData.canLay0 d = true ∧ PyData.depth d ≤ 3
section
variable {K : PySem.W.Frag} {H H' : Hp}
theorem Itm.mono {y : V} (e : Ex H H') (h : Itm K H y) : Itm K H' y := by
  obtain ⟨a, d, b, c⟩ := h
  exact ⟨a.mono e, d, dp_mono e b, c⟩
theorem itm_int (i : Int) : Itm K H (.int i) := ⟨.int i, .int i, .int i, by simp only [PyData.canLay0], by simp [PyData.depth]⟩
theorem itm_bl (b : Bool) : Itm K H (.bl b) := ⟨.bl b, .bool b, .bl b, by simp only [PyData.canLay0], by simp [PyData.depth]⟩
theorem itm_non : Itm K H .non := ⟨.non, .none, .non, by simp only [PyData.canLay0], by simp [PyData.depth]⟩
theorem itm_one {a : Addr} {n : Int} (h : H a = some (.lst [V.int n])) : Itm K H (.ref a) := ⟨.lst h, .list [.int n], .lst (sq_of h) (.cons (.int n) .nil), by simp only [PyData.canLay0, PyData.canLayAll0]; rfl, by simp [PyData.depth, PyData.depthAll]⟩
theorem itm_tup {a : Addr} {n : Int} (h : H a = some (.tup [V.int n])) : Itm K H (.ref a) := ⟨.tup h, .tuple [.int n], .tup (st_of h) (.cons (.int n) .nil), by simp only [PyData.canLay0, PyData.canLayAll0]; rfl, by simp [PyData.depth, PyData.depthAll]⟩
/-- what is new in H' -/
def nw (H H' : Hp) : Hp := fun b => if (H b).isNone then H' b else none
theorem nw_of {H H' : Hp} {b : Addr} {o : HO} (h : nw H H' b = some o) : H b = none ∧ H' b = some o := by
  unfold nw at h
  cases hb : H b with
  | none =>
    rw [hb] at h
    exact ⟨rfl, h⟩
  | some u =>
    rw [hb] at h
    cases h
theorem nw_at {H H' : Hp} {b : Addr} (h : H b = none) : nw H H' b = H' b := by
  unfold nw
  rw [h]
  rfl
theorem nw_ex {H H' H'' : Hp} (h : ∀ b o, H b = none → H' b = some o → H'' b = some o) : Ex (nw H H') H'' := fun b o e => h b o (nw_of e).1 (nw_of e).2
theorem nw_mono {H H' H'' : Hp} (e : Ex H' H'') : Ex (nw H H') (nw H H'') := fun b o h => by
  rw [nw_at (nw_of h).1]
  exact e _ _ (nw_of h).2
end
section
variable {K : PySem.W.Frag} {σ : L2.St} {H : Hp} {ta tb te : TE}
theorem el_cat {xs ys : List V} (ha : EvL ta σ H xs) (hb : EvL tb σ H ys) (hz : xs.length + ys.length ≤ 100000) : EvL (tOp rCat ta tb) σ H (xs ++ ys) := fun H1 e Q q => ha H1 e _ fun p H2 hp e2 h2 => hb H2 (e.trans e2) _ fun p3 H3 hp3 e3 h3 =>
  ⟨p, p3, xs, ys, rfl, rfl, e3 _ _ h2, h3, sz_of hz, fun r hr => q r _ (fresh_back (e2.trans e3) hr) ((e2.trans e3).trans (Ex.new hr)) upd_same⟩
theorem el_rev {a : Addr} {xs : List V} (h : Ev te σ H (.ref a)) (hs : SqL K H a xs) : EvL (tRevL K te) σ H xs.reverse := fun H1 e _ q => h H1 e _ fun H2 e2 =>
  ⟨a, xs, rfl, ex_l (e.trans e2) hs, fun p hp => q p _ (fresh_back e2 hp) (e2.trans (Ex.new hp)) upd_same⟩
theorem ev_isBool {b : Bool} (h : Ev te σ H (.bl b)) : Ev (tCB (rIsi K) (tCons te (tCons (tC (.ty "bool")) tNil))) σ H (.bl true) :=
  ev_cb (ea_cons h (ea_cons ev_c ea_nil)) fun H1 e Q q => ⟨_, _, _, _, true, rfl, .ty _, .base (.bl b), kit_ty (by decide +kernel), q H1 (Ex.refl H1)⟩
end
theorem LNew.out {H0 H : Hp} {p : Addr} {ps : List Addr} {ys : List (List V)} (L : LNew H0 H p ps ys) : ∀ b ∈ p :: ps, H0 b = none ∧ ∃ zs, H b = some (.lst zs) := by
  intro b hb
  rcases List.mem_cons.mp hb with rfl | hb
  · exact ⟨L.new, _, L.top⟩
  · obtain ⟨k, hk⟩ := List.getElem?_of_mem hb
    have hkl : k < ys.length := by
      have := (List.getElem?_eq_some_iff.mp hk).1
      have := L.len
      omega
    have := L.at_ k b _ hk (List.getElem?_eq_getElem hkl)
    exact ⟨this.1, _, this.2⟩
theorem flat_10 : ∀ {n : Nat} {yss : List (List V)}, (∀ ys ∈ yss, ys.length ≤ 50) → yss.length ≤ n → yss.flatten.length ≤ 50 * n
  | _, [], _, _ => by simp
  | 0, _ :: _, _, h => by simp at h
  | n + 1, ys :: r, h, hl => by
    have a := h ys List.mem_cons_self
    have b := flat_10 (n := n) (yss := r) (fun x hx => h x (List.mem_cons_of_mem _ hx)) (by simpa using hl)
    rw [List.flatten_cons, List.length_append]
    omega
section
variable {K : PySem.W.Frag} {H : Hp}
theorem dp_items : ∀ {ys : List V}, (∀ y ∈ ys, Itm K H y) → ∃ ds, DpAll K H ys ds ∧ PyData.canLayAll0 ds = true ∧ PyData.depthAll ds ≤ 3
  | [], _ => ⟨[], .nil, by simp [PyData.canLayAll0], by simp [PyData.depthAll]⟩
  | y :: r, h => by
    obtain ⟨_, d, hd, hc, hp⟩ := h y List.mem_cons_self
    obtain ⟨ds, h1, h2, h3⟩ := dp_items fun x hx => h x (List.mem_cons_of_mem _ hx)
    refine ⟨d :: ds, .cons hd h1, ?_, ?_⟩
    · simp only [PyData.canLayAll0]
      rw [hc, h2]
      rfl
    · simp only [PyData.depthAll]
      omega
/-- two lists of lists with the same items: the same data -/
theorem dp_rows : ∀ {yss : List (List V)}, (∀ ys ∈ yss, ∀ y ∈ ys, Itm K H y) → ∃ ds, (∀ ps : List Addr, ps.length = yss.length → (∀ (i : Nat) (q : Addr) (y : List V), ps[i]? = some q → yss[i]? = some y → SqL K H q y) → DpAll K H (ps.map V.ref) ds) ∧ PyData.canLayAll0 ds = true ∧ PyData.depthAll ds ≤ 4
  | [], _ => by
    refine ⟨[], fun ps hl _ => ?_, by simp [PyData.canLayAll0], by simp [PyData.depthAll]⟩
    cases ps with
    | nil => exact .nil
    | cons _ _ => cases hl
  | ys :: r, h => by
    obtain ⟨d, hd, hc, hp⟩ := dp_items (h ys List.mem_cons_self)
    obtain ⟨ds, h1, h2, h3⟩ := dp_rows fun x hx => h x (List.mem_cons_of_mem _ hx)
    refine ⟨.list d :: ds, fun ps hl ha => ?_, ?_, ?_⟩
    · cases ps with
      | nil => cases hl
      | cons q qs => exact .cons (.lst (ha 0 q ys rfl rfl) hd) (h1 qs (Nat.succ.inj hl) fun i q y e1 e2 => ha (i + 1) q y e1 e2)
    · simp only [PyData.canLayAll0, PyData.canLay0]
      rw [hc, h2]
      rfl
    · simp only [PyData.depthAll, PyData.depth]
      omega
theorem dp_lv {yss : List (List V)} (h : ∀ ys ∈ yss, ∀ y ∈ ys, Itm K H y) : ∃ d, (∀ a, LV K H a yss → Dp K H (.ref a) d) ∧ PyData.canLay0 d = true ∧ PyData.depth d ≤ 63 := by
  obtain ⟨ds, h1, h2, h3⟩ := dp_rows h
  refine ⟨.list ds, fun a ⟨ps, e1, e2, e3⟩ => .lst e1 (h1 ps e2 e3), ?_, ?_⟩
  · simp only [PyData.canLay0]
    exact h2
  · simp only [PyData.depth]
    omega
end
section
variable {K : PySem.W.Frag} {F T : Nat} {H H' : Hp}
/-- heaps, spoiled: told by what stands there; nothing else is changed -/
structure Spo (K : PySem.W.Frag) (F T : Nat) (H H' : Hp) (p : Addr) (ps ps' : List Addr) (yss : List (List V)) : Prop where
  top : H' p = some (.lst (ps'.map V.ref))
  len : ps'.length = yss.length
  at_ : ∀ (i : Nat) (q : Addr) (y : List V), ps'[i]? = some q → yss[i]? = some y → H' q = some (.lst y)
  itm : ∀ ys ∈ yss, ∀ y ∈ ys, Itm K (nw H H') y
  old : ∀ q ∈ ps', q ∈ ps ∨ H q = none
  few : ∀ ys ∈ yss, ys.length ≤ F
  ten : yss.length ≤ T
  keep : ∀ b o, H b = some o → b ∉ p :: ps → H' b = some o
theorem Spo.ext {H'' : Hp} {p : Addr} {ps ps' : List Addr} {yss : List (List V)} (s : Spo K F T H H' p ps ps' yss) (e : Ex H' H'') : Spo K F T H H'' p ps ps' yss :=
  ⟨e _ _ s.top, s.len, fun i q y h1 h2 => e _ _ (s.at_ i q y h1 h2), fun ys h y hy => (s.itm ys h y hy).mono (nw_mono e), s.old, s.few, s.ten, fun b o h n => e _ _ (s.keep b o h n)⟩
theorem spo_same {H0 : Hp} {p : Addr} {ps : List Addr} {hs : List (List Int)} (L : LNew H0 H p ps (iv hs)) (e : Ex H H') (h50 : ∀ h ∈ hs, h.length < F) (h9 : hs.length < T) : Spo K F T H H' p ps ps (iv hs) := by
  have L' := L.ext e
  refine ⟨L'.top, L'.len, fun i q y h1 h2 => (L'.at_ i q y h1 h2).2, fun ys hys y hy => ?_, fun q hq => .inl hq, fun ys hys => ?_, by rw [List.length_map]; omega, fun b o h n => e _ _ h⟩
  · obtain ⟨h, _, rfl⟩ := List.mem_map.mp hys
    obtain ⟨z, _, rfl⟩ := List.mem_map.mp hy
    exact itm_int z
  · obtain ⟨h, hh, rfl⟩ := List.mem_map.mp hys
    rw [List.length_map]
    have := h50 h hh
    omega
/-- one of the heaps made otherwise -/
theorem spo_set {H0 H2 : Hp} {p q : Addr} {ps : List Addr} {hs : List (List Int)} {i : Nat} {y' : List V} (L : LNew H0 H p ps (iv hs)) (e : Ex H H2) (h50 : ∀ h ∈ hs, h.length < F) (h9 : hs.length < T) (hq : ps[i]? = some q)
    (hy : ∀ y ∈ y', Itm K (nw H (upd H2 q (.lst y'))) y) (hl : y'.length ≤ F) : Spo K F T H (upd H2 q (.lst y')) p ps ps ((iv hs).set i y') := by
  have S := spo_same (K := K) L e h50 h9
  have hpq : p ≠ q := fun z => (List.nodup_cons.mp L.nd).1 (z ▸ List.mem_of_getElem? hq)
  have hqm : q ∈ ps := List.mem_of_getElem? hq
  refine ⟨by rw [upd_ne hpq]; exact S.top, by rw [List.length_set]; exact S.len, fun k r z h1 h2 => ?_, fun ys hys y hyy => ?_, fun q hq => .inl hq, fun ys hys => ?_, by rw [List.length_set]; exact S.ten, fun b o h n => ?_⟩
  · by_cases ek : k = i
    · subst ek
      obtain rfl : r = q := Option.some.inj (h1.symm.trans hq)
      have hk : k < (iv hs).length := by
        have := (List.getElem?_eq_some_iff.mp h2).1
        rwa [List.length_set] at this
      rw [List.getElem?_set_self hk] at h2
      rw [upd_same, Option.some.inj h2]
    · rw [List.getElem?_set_ne (fun z => ek z.symm)] at h2
      have hr : r ≠ q := fun z => ek (nd_ix (List.nodup_cons.mp L.nd).2 (z ▸ h1) hq)
      rw [upd_ne hr]
      exact S.at_ k r z h1 h2
  · rcases List.mem_or_eq_of_mem_set hys with hys | rfl
    · obtain ⟨h, _, rfl⟩ := List.mem_map.mp hys
      obtain ⟨z, _, rfl⟩ := List.mem_map.mp hyy
      exact itm_int z
    · exact hy y hyy
  · rcases List.mem_or_eq_of_mem_set hys with hys | rfl
    · exact S.few ys hys
    · exact hl
  · rw [upd_ne (show b ≠ q from fun z => n (by rw [z]; exact List.mem_cons_of_mem _ hqm))]
    exact e _ _ h
end
/-- the heaps in another order, or one less -/
theorem spo_top {K : PySem.W.Frag} {F T : Nat} {H H0 H2 : Hp} {p : Addr} {ps ps' : List Addr} {hs : List (List Int)} {yss : List (List V)} (L : LNew H0 H p ps (iv hs)) (e : Ex H H2) (h50 : ∀ h ∈ hs, h.length < F) (h9 : hs.length < T)
    (hl : ps'.length = yss.length) (h10 : yss.length ≤ T) (h : ∀ (i : Nat) (q : Addr) (y : List V), ps'[i]? = some q → yss[i]? = some y → ∃ j : Nat, ps[j]? = some q ∧ (iv hs)[j]? = some y) : Spo K F T H (upd H2 p (.lst (ps'.map V.ref))) p ps ps' yss := by
  have S := spo_same (K := K) L e h50 h9
  have mem : ∀ y ∈ yss, y ∈ iv hs := fun y hy => by
    obtain ⟨k, hk⟩ := List.getElem?_of_mem hy
    have hkl := (List.getElem?_eq_some_iff.mp hk).1
    obtain ⟨j, _, hj⟩ := h k ps'[k] y (List.getElem?_eq_getElem (by omega)) hk
    exact List.mem_of_getElem? hj
  refine ⟨upd_same, hl, fun i q y h1 h2 => ?_, fun ys hys y hy => ?_, fun q hq => ?_, fun ys hys => S.few ys (mem ys hys), h10, fun b o hb n => ?_⟩
  · obtain ⟨j, h3, h4⟩ := h i q y h1 h2
    have hq : q ≠ p := fun z => (List.nodup_cons.mp L.nd).1 (z ▸ List.mem_of_getElem? h3)
    rw [upd_ne hq]
    exact S.at_ j q y h3 h4
  · obtain ⟨hh, _, rfl⟩ := List.mem_map.mp (mem ys hys)
    obtain ⟨z, _, rfl⟩ := List.mem_map.mp hy
    exact itm_int z
  · obtain ⟨k, hk⟩ := List.getElem?_of_mem hq
    have hkl := (List.getElem?_eq_some_iff.mp hk).1
    obtain ⟨j, hj, _⟩ := h k q yss[k] hk (List.getElem?_eq_getElem (by omega))
    exact .inl (List.mem_of_getElem? hj)
  · rw [upd_ne (show b ≠ p from fun z => n (by rw [z]; exact List.mem_cons_self))]
    exact e _ _ hb
theorem rep_one (g : Nat) (z : Int) : (List.replicate g [V.int z]).flatten = (List.replicate g z).map V.int := by
  induction g with
  | zero => rfl
  | succ g ih =>
    rw [List.replicate_succ, List.flatten_cons, ih, List.replicate_succ]
    rfl
/-- [z] * n -/
theorem el_rep {σ : L2.St} {H : Hp} {tn : TE} {z : Int} {g : Nat} (h : Ev tn σ H (.int (g : Int))) (hg : g ≤ 1000) : EvL (tOp rRep (tLst (tCons (tC (.int z)) tNil)) tn) σ H ((List.replicate g z).map V.int) := fun H0 e0 Q q => by
  refine g_op (g_lst ⟨sz_of (by show 1 ≤ 100000; omega), fun p hp => ?_⟩)
  have x1 := Ex.new (o := .lst [V.int z]) hp
  refine h _ (e0.trans x1) _ fun H1 e1 => ⟨p, (g : Int), [V.int z], rfl, rfl, e1 _ _ upd_same, by omega, by omega, ?_, fun p2 hp2 => ?_⟩
  · rw [Int.toNat_natCast]
    exact sz_of (by show 1 * g ≤ 100000; omega)
  · rw [Int.toNat_natCast, rep_one]
    exact q p2 _ (fresh_back (x1.trans e1) hp2) ((x1.trans e1).trans (Ex.new hp2)) upd_same
/-! the deal in heaps is one, and fair -/
theorem first_ex {rows : List (List Int)} {g : Nat} : ∀ {n : Nat}, 0 < n → ∃ i, i < n ∧ ∀ k, k < n → bidAt rows k g ≤ bidAt rows i g ∧ (bidAt rows k g = bidAt rows i g → i ≤ k)
  | 0, h => by omega
  | 1, _ => ⟨0, by omega, fun k hk => by
    have : k = 0 := by omega
    subst this
    exact ⟨Int.le_refl _, fun _ => Nat.le_refl _⟩⟩
  | n + 2, _ => by
    obtain ⟨i, hi, h⟩ := first_ex (rows := rows) (g := g) (n := n + 1) (by omega)
    by_cases e : bidAt rows i g < bidAt rows (n + 1) g
    · refine ⟨n + 1, by omega, fun k hk => ?_⟩
      by_cases hk2 : k < n + 1
      · have := (h k hk2).1
        exact ⟨by omega, fun z => by omega⟩
      · have : k = n + 1 := by omega
        subst this
        exact ⟨Int.le_refl _, fun _ => Nat.le_refl _⟩
    · refine ⟨i, by omega, fun k hk => ?_⟩
      by_cases hk2 : k < n + 1
      · exact h k hk2
      · have : k = n + 1 := by omega
        subst this
        exact ⟨by omega, fun _ => by omega⟩
theorem sum_zero {c : Nat → Bool} : ∀ {n : Nat}, (∀ i, i < n → c i = false) → ((List.range n).map fun i => if c i = true then 1 else 0).sum = 0
  | 0, _ => rfl
  | n + 1, h => by
    rw [List.range_succ, List.map_append, List.sum_append, sum_zero fun i hi => h i (by omega)]
    simp [h n (by omega)]
theorem sum_one {c : Nat → Bool} {i0 : Nat} (hc : c i0 = true) : ∀ {n : Nat}, i0 < n → (∀ i, i < n → c i = true → i = i0) → ((List.range n).map fun i => if c i = true then 1 else 0).sum = 1
  | 0, h, _ => by omega
  | n + 1, h, hu => by
    rw [List.range_succ, List.map_append, List.sum_append]
    by_cases e : i0 = n
    · subst e
      rw [sum_zero fun i hi => ?_]
      · simp [hc]
      · cases hci : c i with
        | false => rfl
        | true =>
          have := hu i (by omega) hci
          omega
    · have hn : c n = false := by
        cases hcn : c n with
        | false => rfl
        | true => exact absurd (hu n (by omega) hcn).symm e
      rw [sum_one hc (by omega) fun i hi => hu i (by omega)]
      simp [hn]
theorem count_heap (f : Nat → Bool) (k : Nat) : ∀ m : Nat, List.count (V.int (k : Int)) ((((List.range m).filter f).map fun g : Nat => (g : Int)).map V.int) = if k < m ∧ f k = true then 1 else 0
  | 0 => by simp
  | m + 1 => by
    rw [List.range_succ, List.filter_append, List.map_append, List.map_append, List.count_append, count_heap f k m]
    by_cases e : k = m
    · subst e
      by_cases hf : f k = true
      · simp [hf]
      · simp [hf]
    · have hne : ∀ l : List V, (∀ x ∈ l, x ≠ V.int (k : Int)) → List.count (V.int (k : Int)) l = 0 := fun l hl => List.count_eq_zero.mpr fun mm => hl _ mm rfl
      rw [hne _ fun x hx => ?_]
      · by_cases h : k < m ∧ f k = true
        · rw [if_pos h, if_pos ⟨by omega, h.2⟩]
        · rw [if_neg h, if_neg fun z => h ⟨by omega, z.2⟩]
      · obtain ⟨y, hy, rfl⟩ := List.mem_map.mp hx
        obtain ⟨g, hg, rfl⟩ := List.mem_map.mp hy
        have := (List.mem_filter.mp hg).1
        rw [List.mem_singleton.mp this]
        intro z
        have := V.int.inj z
        omega
theorem heaps_seen {rows : List (List Int)} {m k : Nat} (hne : 0 < rows.length) (hk : k < m) : List.count (V.int (k : Int)) (iv (heapsM rows m)).flatten = 1 := by
  rw [List.count_flatten, List.map_map]
  unfold heapsM
  rw [List.map_map]
  have e : (List.range rows.length).map ((List.count (V.int (k : Int)) ∘ fun r => List.map V.int r) ∘ fun i : Nat => ((List.range m).filter (firstB rows i)).map fun g : Nat => (g : Int)) = (List.range rows.length).map fun i => if firstB rows i k = true then 1 else 0 := by
    refine List.map_congr_left fun i _ => ?_
    show List.count _ _ = _
    rw [count_heap]
    by_cases h : firstB rows i k = true
    · rw [if_pos ⟨hk, h⟩, if_pos h]
    · rw [if_neg fun z => h z.2, if_neg h]
  rw [e]
  obtain ⟨i, hi, h⟩ := first_ex (rows := rows) (g := k) hne
  have hf : firstB rows i k = true := firstB_iff.mpr h
  exact sum_one (c := fun i => firstB rows i k) hf hi fun j hj hj2 => firstB_uniq hj hi hj2 hf
theorem heaps_ok {rows : List (List Int)} {m : Nat} (hne : 0 < rows.length) : heapsB (iv (heapsM rows m)) rows.length m = true := by
  unfold heapsB
  rw [decide_eq_true (by rw [List.length_map, heapsM_len]), Bool.true_and, Bool.and_eq_true]
  constructor
  · refine List.all_eq_true.mpr fun y hy => ?_
    rw [iv_flat] at hy
    obtain ⟨g, hg, rfl⟩ := List.mem_map.mp hy
    obtain ⟨h, hh, hg⟩ := List.mem_flatten.mp hg
    exact decide_eq_true (heapsM_in rows m h hh g hg)
  · refine decide_eq_true (List.ext_getElem (by simp [seenM]) fun k h1 h2 => ?_)
    have hk : k < m := by simpa using h2
    simp only [seenM, List.getElem_map, List.getElem_range, List.getElem_replicate]
    rw [heaps_seen hne hk]
    rfl
theorem sum_pay (l : List Int) (c d : Int) : (l.map fun o => o * c - d).sum = l.sum * c - l.length * d := by
  induction l with
  | nil => simp
  | cons x r ih =>
    rw [List.map_cons, List.sum_cons, List.sum_cons, ih, List.length_cons, Int.add_mul]
    have : ((r.length + 1 : Nat) : Int) * d = r.length * d + d := by
      rw [Int.natCast_add, Int.add_mul]
      simp
    omega
theorem pay_zero (rows hs : List (List Int)) : (payM rows hs).sum = 0 := by
  unfold payM
  rw [sum_pay, ownM_len, Int.mul_comm]
  omega
theorem heaps_deal {rows : List (List Int)} {m : Nat} (hne : 0 < rows.length) : dealB (iv (heapsM rows m)) (payM rows (heapsM rows m)) rows.length m = true := by
  unfold dealB
  rw [heaps_ok hne, pay_zero, payM_len, decide_eq_true rfl, decide_eq_true rfl]
  rfl
theorem worthM_le {r r' heap : List Int} (h : ∀ g ∈ heap, r.getD g.toNat 0 ≤ r'.getD g.toNat 0) : worthM r heap ≤ worthM r' heap := by
  unfold worthM
  induction heap with
  | nil => exact Int.le_refl _
  | cons x t ih =>
    have a := h x List.mem_cons_self
    have b := ih fun g hg => h g (List.mem_cons_of_mem _ hg)
    rw [List.map_cons, List.map_cons, List.sum_cons, List.sum_cons]
    omega
theorem own_at {rows hs : List (List Int)} {i : Nat} (hi : i < rows.length) : (ownM rows hs).getD i 0 = worthM (rows.getD i []) (hs.getD i []) := by
  simp [ownM, List.getD_eq_getElem?_getD, hi]
theorem pay_at {rows hs : List (List Int)} {i : Nat} (hi : i < rows.length) : (payM rows hs).getD i 0 = worthM (rows.getD i []) (hs.getD i []) * rows.length - (ownM rows hs).sum := by
  have h := own_at (hs := hs) hi
  have hl : i < (ownM rows hs).length := by rw [ownM_len]; exact hi
  rw [List.getD_eq_getElem?_getD, List.getElem?_eq_getElem hl] at h
  have h2 : (ownM rows hs)[i] = worthM (rows.getD i []) (hs.getD i []) := h
  unfold payM
  rw [List.getD_eq_getElem?_getD, List.getElem?_map, List.getElem?_eq_getElem hl, h2]
  rfl
theorem heaps_fair {rows : List (List Int)} {m : Nat} : enviedB (gainM rows (heapsM rows m) (payM rows (heapsM rows m))) rows.length = false := by
  refine enviedB_not fun i j hi hj => ?_
  unfold gainM
  rw [pay_at hi, pay_at hj]
  have h : worthM (rows.getD i []) ((heapsM rows m).getD j []) ≤ worthM (rows.getD j []) ((heapsM rows m).getD j []) := by
    rw [heapsM_at hj]
    refine worthM_le fun g hg => ?_
    obtain ⟨k, hk, rfl⟩ := List.mem_map.mp hg
    rw [Int.toNat_natCast]
    exact (firstB_iff.mp (List.mem_filter.mp hk).2 i hi).1
  have h2 := Int.mul_le_mul_of_nonneg_right h (show (0 : Int) ≤ rows.length by omega)
  omega
theorem half_ok {rows : List (List Int)} {m : Nat} (hb : Bids rows m) : Bids (rows.map fun r => r.map fun b => 1 + b / 2) m := by
  refine ⟨by rw [List.length_map]; exact hb.ne, by rw [List.length_map]; exact hb.l9, hb.m40, fun r hr => ?_, fun r hr b hbm => ?_⟩
  · obtain ⟨r0, hr0, rfl⟩ := List.mem_map.mp hr
    rw [List.length_map]
    exact hb.len r0 hr0
  · obtain ⟨r0, hr0, rfl⟩ := List.mem_map.mp hr
    obtain ⟨b0, hb0, rfl⟩ := List.mem_map.mp hbm
    have := hb.ok r0 hr0 b0 hb0
    omega
theorem g_c {σ : L2.St} {H : Hp} {v : V} {Q : VK} (h : Q v H) : tC v σ H Q := h
end Fs

set_option Elab.async false
set_option linter.all false
set_option maxRecDepth 100000
set_option maxHeartbeats 4000000
/-! Xs: what the proofs about refusals share. -/
namespace Xs
open PySem PySem.Spec PyProof.Rows L2 Evl Fs
/-- an own class of exceptions, below ValueError -/
structure ExC (K : PySem.W.Frag) (mg : Str → Option Value) (x : Str) (C : Addr) : Prop where
  g : mg x = some (.ref C)
  q : PySem.W.excIn K C [.type "ValueError", .type "Exception", .type "BaseException", .type "object"] "ValueError.__new__" = true
  kp : PySem.W.keepIn K (.ref C) = true
  b : PySem.W.subIn K (.ref C) (.type "BaseException") = some true
  t : PySem.W.typeIn K (.ref C) = some (.type "type")
section
variable {P : Program} {w : World} {K : PySem.W.Frag} {mg : Str → Option Value} {base : Heap}
theorem okX_of {x : Str} {st : Stmt} {N ps : List Str} {k : Nat} {sp : Sp} (D : DnX K mg x st ps) (S : FnScope N ps (defScope st)) (len : ∀ vs H Q E, sp vs H Q E → vs.length = ps.length)
    (hbody : ∀ (f : Addr) (cdv : Value) (A : Around) (outer : List Env) (s : Shared) (H : Hp) (vs : List V) (Q : VK) (E : XK), Room k (A.deeper (envOfC x (defScope st) s.heap.objs.size f cdv)) → sp vs H Q E →
      ∃ t, PSs (cxOf (L2.CX P w) P w K mg base N x (defScope st) f cdv A outer s H E) (defBody st) t ∧ t { nx := fun _ H' => Q .non H', rt := Q } (start N vs) H) : Ok P w K mg base (L2.CX P w) (k + 1) x ps sp := by
  obtain ⟨f, fd, F, g, b⟩ := D
  have F0 := F
  obtain ⟨oc, od, _, _, _, _, _, _, osl, _, lk, _⟩ := F0.ex
  exact ⟨f, fd, F.okX S len fun cdv A outer s H vs Q E hr h => hbody f cdv A outer s H vs Q E hr h, g, F.kp, b, oc, od, osl, lk⟩
end
section
variable {X : Cx}
theorem pe_okS {CX : CXT} {k : Nat} {x : Str} {ps : List Str} {sp : Sp} {E : L2.St → XK} {e : Expr} {es : List Expr} {t : TA} {p pos : Pos} (h : Ok X.prog X.w X.K X.mg X.base CX k x ps sp) (hr : Room k X.A) (hg : Gl X x) (hx : ∀ σ, PassesAt CX X σ (E σ)) (ha : PA X (e :: es) t)
    (hdb : (x == ("__debug__" : Str)) = false := by decide) (he : starEach (e :: es) X.env = (false, eval e X.env) :: starEach es X.env := by rfl) (hpl : (backTo pos (starEach es X.env)).any (·.1) = false := by rfl) :
    PE X (.Call (.Name x p) (e :: es) [] pos) (tCallS sp E t) := by
  obtain ⟨f, fd, F, hm, hk, hb, _⟩ := h
  exact pe_callS F hr hg hm hk hb hx ha hdb he hpl
def tRaise (C : Addr) (W : WX) : TS := fun _ σ H => W (.ref C) none σ H
theorem ps_raiseX {W : WX} {x m : Str} {C : Addr} {j : Nat} {p p2 pos pos2 : Pos} (T : ExC X.K X.mg x C) (tk : Takes X W) (hg : Gl X x := by rfl) (hc : X.calm = true := by rfl) (hdb : (x == ("__debug__" : Str)) = false := by decide) :
    PS X (.Raise (some (.Call (.Name x p) [.Constant (.str m) j p2] [] pos)) none pos2) (tRaise C W) := ps_raise hc tk (pmk_own PySem.F.excBase_ValueError T.q T.g T.kp (raises_own T.b T.t) hg hdb)
end
section
variable {sp : Sp} {E : L2.St → XK} {σ : L2.St} {H : Hp} {ta : TA} {vs : List V} {tz : TS} {D : Ends} {Q : VK} {i : Nat}
theorem g_callS (ha : EvA ta σ H vs) (h : ∀ H1, Ex H H1 → sp vs H1 Q (E σ)) : tCallS sp E ta σ H Q := ha H (Ex.refl H) _ fun H1 e1 => h H1 e1
theorem q_dropS (ha : EvA ta σ H vs) (h : ∀ H1, Ex H H1 → sp vs H1 (fun _ H2 => tz D σ H2) (E σ)) : tSeq (tDrop (tCallS sp E ta)) tz D σ H := ha H (Ex.refl H) _ fun H1 e1 => h H1 e1
theorem s_dropS (ha : EvA ta σ H vs) (h : ∀ H1, Ex H H1 → sp vs H1 (fun _ H2 => D.nx σ H2) (E σ)) : tDrop (tCallS sp E ta) D σ H := ha H (Ex.refl H) _ fun H1 e1 => h H1 e1
end
/-! ### refusals of bids. 1 NoPeople, 2 TooMany, 3 Uneven, 4 BadBid, 5 NoDeal, 6 NoPerson, 7 NoGood, 8 NoText; 0 SplitError -/
/-- told, or refused -/
def DueX (cl : Nat → Addr) (n : Nat) (v : V) (H : Hp) (Q : VK) (E : XK) : Prop := (n = 0 → RetV v H Q) ∧ (n ≠ 0 → ∀ H', Ex H H' → E (.ref (cl n)) none H')
abbrev sp1X (R : V → Hp → VK → XK → Prop) : Sp := fun vs H Q E => ∃ x, vs = [x] ∧ R x H Q E
abbrev sp2X (R : V → V → Hp → VK → XK → Prop) : Sp := fun vs H Q E => ∃ x y, vs = [x, y] ∧ R x y H Q E
abbrev sp3X (R : V → V → V → Hp → VK → XK → Prop) : Sp := fun vs H Q E => ∃ x y z, vs = [x, y, z] ∧ R x y z H Q E
abbrev sp4X (R : V → V → V → V → Hp → VK → XK → Prop) : Sp := fun vs H Q E => ∃ x y z u, vs = [x, y, z, u] ∧ R x y z u H Q E
theorem DueX.out {cl : Nat → Addr} {n k : Nat} {v : V} {H H' : Hp} {Q : VK} {E : XK} (d : DueX cl n v H Q E) (h : n = k) (h0 : k ≠ 0) (e : Ex H H') : E (.ref (cl k)) none H' := by
  subst h
  exact d.2 h0 H' e
theorem DueX.mono {cl : Nat → Addr} {n : Nat} {v : V} {H H' : Hp} {Q : VK} {E : XK} (e : Ex H H') (d : DueX cl n v H Q E) : DueX cl n v H' Q E := ⟨fun h H2 e2 => d.1 h H2 (e.trans e2), fun h H2 e2 => d.2 h H2 (e.trans e2)⟩
/-- what a line is refused with -/
def lineD (m : Int) (r : List V) : Nat := if (r.length : Int) = m then (if r.all bidOk = true then 0 else 4) else 3
/-- the first refusal of the rows -/
def rowsD (m : Int) : List (List V) → Nat
  | [] => 0
  | r :: t => if lineD m r = 0 then rowsD m t else lineD m r
/-- what bids are refused with -/
def dueB (yss : List (List V)) : Nat := if yss.length = 0 then 1 else if 9 < yss.length then 2 else if 40 < (yss.getD 0 []).length then 2 else rowsD (yss.getD 0 []).length yss
theorem rowsD_at {m : Int} : ∀ {yss : List (List V)} {i : Nat} {y : List V}, yss[i]? = some y → (∀ (k : Nat) z, k < i → yss[k]? = some z → lineD m z = 0) → lineD m y ≠ 0 → rowsD m yss = lineD m y
  | [], _, _, h, _, _ => by simp at h
  | r :: t, 0, y, h, _, hn => by
    obtain rfl : r = y := Option.some.inj h
    exact if_neg hn
  | r :: t, i + 1, y, h, ha, hn => by
    show (if lineD m r = 0 then rowsD m t else lineD m r) = _
    rw [if_pos (ha 0 r (by omega) rfl)]
    exact rowsD_at (i := i) h (fun k z hk hz => ha (k + 1) z (by omega) hz) hn
theorem rowsD_zero {m : Int} : ∀ {yss : List (List V)}, (∀ y ∈ yss, lineD m y = 0) → rowsD m yss = 0
  | [], _ => rfl
  | r :: t, h => by
    show (if lineD m r = 0 then rowsD m t else lineD m r) = _
    rw [if_pos (h r List.mem_cons_self)]
    exact rowsD_zero fun y hy => h y (List.mem_cons_of_mem _ hy)
theorem rowsD_all {m : Int} : ∀ {yss : List (List V)}, rowsD m yss = 0 → ∀ y ∈ yss, lineD m y = 0
  | [], _, y, h => by cases h
  | r :: t, e, y, h => by
    by_cases h0 : lineD m r = 0
    · have e2 : rowsD m t = 0 := by
        rw [← e]
        exact (if_pos h0).symm
      rcases List.mem_cons.mp h with rfl | h
      · exact h0
      · exact rowsD_all e2 y h
    · exact absurd ((if_neg h0).symm.trans e) h0
theorem lineD_zero {m : Int} {r : List V} (h : lineD m r = 0) : (r.length : Int) = m ∧ ∀ y ∈ r, bidOk y = true := by
  unfold lineD at h
  by_cases h1 : (r.length : Int) = m
  · rw [if_pos h1] at h
    by_cases h2 : r.all bidOk = true
    · exact ⟨h1, List.all_eq_true.mp h2⟩
    · rw [if_neg h2] at h
      cases h
  · rw [if_neg h1] at h
    cases h
theorem hsOf_int {yss : List (List V)} (h : ∀ ys ∈ yss, ∀ y ∈ ys, isInt y = true) : iv (hsOf yss) = yss := by
  show List.map _ (List.map _ yss) = yss
  rw [List.map_map]
  refine (List.map_congr_left fun ys hys => ?_).trans (List.map_id _)
  show List.map _ (List.map _ ys) = ys
  rw [List.map_map]
  refine (List.map_congr_left fun y hy => ?_).trans (List.map_id _)
  have := h ys hys y hy
  cases y with
  | int i => rfl
  | _ => cases this
/-- what is not refused are bids -/
theorem bids_of {yss : List (List V)} (h : dueB yss = 0) : iv (hsOf yss) = yss ∧ Bids (hsOf yss) (yss.getD 0 []).length := by
  unfold dueB at h
  by_cases h1 : yss.length = 0
  · rw [if_pos h1] at h
    cases h
  rw [if_neg h1] at h
  by_cases h2 : 9 < yss.length
  · rw [if_pos h2] at h
    cases h
  rw [if_neg h2] at h
  by_cases h3 : 40 < (yss.getD 0 []).length
  · rw [if_pos h3] at h
    cases h
  rw [if_neg h3] at h
  have hl := rowsD_all h
  have hi : iv (hsOf yss) = yss := hsOf_int fun ys hys y hy => by
    have := (lineD_zero (hl ys hys)).2 y hy
    cases y with
    | int i => rfl
    | _ => cases this
  have ll : (hsOf yss).length = yss.length := List.length_map _
  refine ⟨hi, by omega, by omega, by omega, fun r hr => ?_, fun r hr b hb => ?_⟩
  · obtain ⟨ys, hys, rfl⟩ := List.mem_map.mp hr
    have := (lineD_zero (hl ys hys)).1
    rw [List.length_map]
    omega
  · obtain ⟨ys, hys, rfl⟩ := List.mem_map.mp hr
    obtain ⟨y, hy, rfl⟩ := List.mem_map.mp hb
    have := (lineD_zero (hl ys hys)).2 y hy
    cases y with
    | int i => exact of_decide_eq_true this
    | _ => cases this
/-- told (what, is not said), or refused -/
def DueV (cl : Nat → Addr) (n : Nat) (H : Hp) (Q : VK) (E : XK) : Prop := (n = 0 → ∀ v H', Ex H H' → Q v H') ∧ (n ≠ 0 → ∀ H', Ex H H' → E (.ref (cl n)) none H')
/-- the classes of refusals, which is which -/
structure ExM (K : PySem.W.Frag) (cl : Nat → Addr) (ns : List Nat) : Prop where
  m : ∀ i ∈ ns, ∀ j ∈ ns, PySem.W.exmOne K (.ref (cl i)) (.ref (cl j)) = some (decide (i = j))
  b : ∀ i ∈ ns, PySem.W.exmOne K (.ref (cl i)) (.ref (cl 0)) = some true
  c : ∀ i ∈ ns, ExcC K (cl i)
  v : ∀ i ∈ ns, PySem.W.kitOne K (.ref (cl i)) (.type "ValueError") = some true
theorem exm_by {K : PySem.W.Frag} {C D : Addr} {b : Bool} (hB : PySem.W.subIn K (.ref D) (.type "BaseException") = some true) (hI : PySem.W.isClsIn K D = true) (hT : PySem.W.typeIn K (.ref D) = some (.type "type")) (hS : PySem.W.subIn K (.ref C) (.ref D) = some b) : PySem.W.exmOne K (.ref C) (.ref D) = some b := by
  unfold PySem.W.exmOne PySem.W.kitCls
  unfold PySem.W.isClsIn at hI
  rw [hB, if_pos (by rfl)]
  show (if ((PySem.W.clsIn K D).isSome && PySem.W.typeIn K (.ref D) == some (.type "type")) = true then PySem.W.subIn K (.ref C) (.ref D) else none) = some b
  rw [hI, hT, hS]
  rfl
theorem kit_by {K : PySem.W.Frag} {C : Addr} {T : String} (h : PySem.W.subIn K (.ref C) (.type T) = some true) (hk : PySem.W.kitMeta T = true := by decide +kernel) : PySem.W.kitOne K (.ref C) (.type T) = some true := by
  unfold PySem.W.kitOne PySem.W.kitCls
  rw [if_neg (by intro z; cases eq_of_beq z)]
  show (if PySem.W.kitMeta T = true then PySem.W.subIn K (.ref C) (.type T) else none) = some true
  rw [if_pos hk, h]
/-- isinstance(e, c), e what the suite holds -/
def rIsEX (K : PySem.W.Frag) (a : Addr) (cls : Value) (d : Option Addr) : List V → Hp → VK → Prop := fun xs H Q => ∃ D, cls = .ref D ∧ d = none ∧ ExcC K D ∧ rIsE K D a xs H Q
theorem isE {X : Cx} {K : PySem.W.Frag} {a : Addr} {oe : Obj} {cls : Value} {d : Option Addr} {pn : List (Addr × Obj)} (hz : Zc cls d oe) (hf : ∃ vs, oe.data = .fields vs) (hK : X.K = K := by rfl) : CallR (X.suite a ((a, oe) :: pn)) (.builtin "isinstance") (rIsEX K a cls d) := by
  subst hK
  intro pins s σ H xs us Q I r ⟨D, e1, e2, C, h⟩
  subst e1
  subst e2
  exact call_isE C hz hf pins s σ H xs us Q I r h
theorem dpAll_len {K : PySem.W.Frag} {H : Hp} : ∀ {vs : List V} {ds : List PyData}, DpAll K H vs ds → vs.length = ds.length
  | [], [], .nil => rfl
  | _ :: _, _ :: _, .cons _ h => congrArg Nat.succ (dpAll_len h)
/-- xs != [] -/
theorem rv_neE {K : PySem.W.Frag} {H : Hp} {a b : Addr} {xs : List V} {ds : List PyData} (hA : SqL K H a xs) (hd : DpAll K H xs ds) (hc : PyData.canLayAll0 ds = true) (hp : PyData.depthAll ds ≤ 60) (hb : SqL K H b []) : RV (rNeD K) (.ref a) (.ref b) H (.bl (!decide (xs.length = 0))) := fun H1 e Q q => by
  refine ⟨.list ds, .list [], dp_mono e (.lst hA hd), dp_mono e (.lst hb .nil), ?_, by decide, ?_⟩
  · unfold SeqAt.shaped
    simp only [PyData.canLay0, PyData.depth]
    rw [hc]
    exact decide_eq_true (by omega)
  · have hl := dpAll_len hd
    have ev : PyData.eqv (.list ds) (.list []) = decide (xs.length = 0) := by
      rw [hl]
      cases ds with
      | nil => rfl
      | cons d r => rfl
    rw [ev]
    exact q H1 (Ex.refl H1)
theorem rv_eqE {K : PySem.W.Frag} {H : Hp} {a b : Addr} {xs : List V} {ds : List PyData} (hA : SqL K H a xs) (hd : DpAll K H xs ds) (hc : PyData.canLayAll0 ds = true) (hp : PyData.depthAll ds ≤ 60) (hb : SqL K H b []) : RV (rEqD K) (.ref a) (.ref b) H (.bl (decide (xs.length = 0))) := fun H1 e Q q => by
  refine ⟨.list ds, .list [], dp_mono e (.lst hA hd), dp_mono e (.lst hb .nil), ?_, by decide, ?_⟩
  · unfold SeqAt.shaped
    simp only [PyData.canLay0, PyData.depth]
    rw [hc]
    exact decide_eq_true (by omega)
  · have hl := dpAll_len hd
    have ev : PyData.eqv (.list ds) (.list []) = decide (xs.length = 0) := by
      rw [hl]
      cases ds with
      | nil => rfl
      | cons d r => rfl
    rw [ev]
    exact q H1 (Ex.refl H1)
/-- bids != [] -/
theorem ev_some {K : PySem.W.Frag} {σ : L2.St} {H : Hp} {te : TE} {a : Addr} {yss : List (List V)} (h : Ev te σ H (.ref a)) (hA : LV K H a yss) (hi : ∀ ys ∈ yss, ∀ y ∈ ys, Itm K H y) : Ev (tOp (rNeD K) te (tLst tNil)) σ H (.bl (!decide (yss.length = 0))) := by
  refine ev_opL h (el_lst ea_nil (by decide)) fun b H3 hb e3 => ?_
  obtain ⟨ds, h1, h2, h3⟩ := dp_rows (K := K) (H := H3) (yss := yss) fun ys m y hy => (hi ys m y hy).mono e3
  obtain ⟨ps, p1, p2, p3⟩ := hA.mono e3
  have := rv_neE p1 (h1 ps p2 p3) h2 (by omega) (sq_of hb)
  rw [List.length_map, p2] at this
  exact this
theorem ev_none {K : PySem.W.Frag} {σ : L2.St} {H : Hp} {te : TE} {a : Addr} {yss : List (List V)} (h : Ev te σ H (.ref a)) (hA : LV K H a yss) (hi : ∀ ys ∈ yss, ∀ y ∈ ys, Itm K H y) : Ev (tOp (rEqD K) te (tLst tNil)) σ H (.bl (decide (yss.length = 0))) := by
  refine ev_opL h (el_lst ea_nil (by decide)) fun b H3 hb e3 => ?_
  obtain ⟨ds, h1, h2, h3⟩ := dp_rows (K := K) (H := H3) (yss := yss) fun ys m y hy => (hi ys m y hy).mono e3
  obtain ⟨ps, p1, p2, p3⟩ := hA.mono e3
  have := rv_eqE p1 (h1 ps p2 p3) h2 (by omega) (sq_of hb)
  rw [List.length_map, p2] at this
  exact this
def nameD (n : Nat) : Str := if n = 1 then "NoPeople" else if n = 2 then "TooMany" else if n = 3 then "Uneven" else if n = 4 then "BadBid" else if n = 5 then "NoDeal" else ""
/-- what bids of rooms are refused with -/
def dueR (yss : List (List V)) : Nat := if dueB yss = 0 then (if yss.length < (yss.getD 0 []).length then 2 else 0) else dueB yss
end Xs

/-! Tx: texts. -/
namespace Tx
open PySem PySem.Spec PyProof.Rows L2 Evl Fs TL PySem.StrLaws
def rJoin (K : PySem.W.Frag) : V → List V → Hp → VK → Prop := fun x xs H Q => ∃ a p, ∃ ys : List Str, x = .str a ∧ xs = [.ref p] ∧ (SqL K H p (ys.map V.str) ∨ SqT K H p (ys.map V.str)) ∧
    (ys.map (·.length)).sum + ys.length * a.length ≤ 16777216 ∧ Q (.str (Txt.join a ys)) H
theorem pe_joinK {X : Cx} {K : PySem.W.Frag} {o e : Expr} {to te : TE} {apos pos : Pos} (ho : PE X o to) (he : PE X e te) (hs : starEach [e] X.env = [(false, eval e X.env)] := by rfl) (hbase : attributeBase o "join" X.env (eval o X.env) = eval o X.env := by rfl) (hline : (apos.endLine == pos.line) = true := by rfl) (hK : X.K = K := by rfl) :
    PE X (.Call (.Attribute o "join" apos) [e] [] pos) (tM1 (rJoin K) to te) := by
  subst hK
  exact pe_join ho he hs hbase hline
section
variable {K : PySem.W.Frag} {σ : L2.St} {H : Hp} {te to ta tb : TE}
theorem ev_join {a : Str} {ys : List Str} (h : EvL te σ H (ys.map V.str)) (hz : (ys.map (·.length)).sum + ys.length * a.length ≤ 16777216) : Ev (tM1 (rJoin K) (tC (.str a)) te) σ H (.str (Txt.join a ys)) := fun H1 e Q q =>
  ⟨⟨a, rfl⟩, h H1 e _ fun p H2 hp e2 h2 => ⟨a, p, ys, rfl, rfl, .inl (sq_of h2), hz, q H2 e2⟩⟩
theorem ev_addS {x y : Str} (h1 : Ev ta σ H (.str x)) (h2 : Ev tb σ H (.str y)) (hz : x.length + y.length ≤ 100000) : Ev (tOp (fun x y H Q => ∃ i j, x = .str i ∧ y = .str j ∧ i.length + j.length ≤ sizeLine ∧ Q (.str (i ++ j)) H) ta tb) σ H (.str (x ++ y)) :=
  ev_op h1 h2 fun H1 _ Q q => ⟨x, y, rfl, rfl, sz_of hz, q H1 (Ex.refl H1)⟩
theorem ev_strI {i : Int} (h : Ev te σ H (.int i)) (hz : i.natAbs.log2 < 1920) : Ev (tCB (fun xs H Q => ∃ i, xs = [.int i] ∧ i.natAbs.log2 < 1920 ∧ Q (.str (toString i)) H) (tCons te tNil)) σ H (.str (toString i)) :=
  ev_cb (ea_cons h ea_nil) fun H1 _ Q q => ⟨i, rfl, hz, q H1 (Ex.refl H1)⟩
theorem ev_m0 {r : V → List V → Hp → VK → Prop} {a : Str} {v : V} (h : Ev to σ H (.str a)) (hr : ∀ H1 Q, Q v H1 → r (.str a) [] H1 Q) : Ev (tM0 r to) σ H v := fun H1 e Q q => h H1 e _ fun H2 e2 => ⟨⟨a, rfl⟩, hr _ _ (q H2 e2)⟩
theorem ev_m1 {r : V → List V → Hp → VK → Prop} {a b : Str} {v : V} (h : Ev to σ H (.str a)) (h2 : Ev te σ H (.str b)) (hr : ∀ H1 Q, Q v H1 → r (.str a) [.str b] H1 Q) : Ev (tM1 r to te) σ H v := fun H1 e Q q => h H1 e _ fun H2 e2 => ⟨⟨a, rfl⟩, h2 H2 (e.trans e2) _ fun H3 e3 => hr _ _ (q H3 (e2.trans e3))⟩
theorem ev_lenS {a : Str} (h : Ev te σ H (.str a)) (hz : a.length ≤ 100000) : Ev (tCB (fun xs H Q => ∃ z, xs = [.str z] ∧ z.length ≤ sizeLine ∧ Q (.int z.length) H) (tCons te tNil)) σ H (.int (a.length : Nat)) :=
  ev_cb (ea_cons h ea_nil) fun H1 _ Q q => ⟨a, rfl, sz_of hz, q H1 (Ex.refl H1)⟩
end
/-! ### bids as texts -/
/-- a number as it is written -/
def numS (b : Int) : Str := toString b
def rowS (r : List Int) : Str := Txt.join " " (r.map numS)
def shownS (rows : List (List Int)) : Str := Txt.join "" (rows.map fun r => rowS r ++ "\n")
def rowL (r : List Int) : List Nat := joinL [32] (r.map fun b => numL b.toNat)
def shownL (rows : List (List Int)) : List Nat := (rows.map fun r => rowL r ++ [10]).flatten
theorem tl_numS {b : Int} (h : 0 ≤ b) : tl (numS b) = numL b.toNat := by
  have e : b = ((b.toNat : Nat) : Int) := by omega
  have := tl_num b.toNat
  rw [← e] at this
  exact this
theorem tl_rowS {r : List Int} (h : ∀ b ∈ r, 0 ≤ b) : tl (rowS r) = rowL r := by
  unfold rowS rowL
  rw [join_eq, tl_join, List.map_map]
  have e : tl (" " : Str) = [32] := by decide
  rw [e]
  congr 1
  exact List.map_congr_left fun b hb => tl_numS (h b hb)
theorem joinL_nil : ∀ ps : List (List Nat), joinL [] ps = ps.flatten
  | [] => rfl
  | [p] => by simp [joinL]
  | p :: q :: r => by
    show p ++ ([] ++ joinL [] (q :: r)) = _
    rw [joinL_nil (q :: r), List.nil_append]
    simp
theorem tl_shownS {rows : List (List Int)} (h : ∀ r ∈ rows, ∀ b ∈ r, 0 ≤ b) : tl (shownS rows) = shownL rows := by
  unfold shownS shownL
  rw [join_eq, tl_join, List.map_map]
  have e : tl ("" : Str) = [] := by decide
  rw [e, joinL_nil]
  congr 1
  refine List.map_congr_left fun r hr => ?_
  show tl (rowS r ++ "\n") = _
  rw [tl_append, tl_rowS (h r hr)]
  rfl
theorem len_numS {b : Int} (h0 : 0 ≤ b) (h1 : b ≤ 1000000000000) : (numS b).length ≤ 13 := by
  rw [len_tl, tl_numS h0]
  exact numL_len (by decide) (by omega)
theorem joinL_len (s : Nat) {k : Nat} : ∀ ps : List (List Nat), (∀ p ∈ ps, p.length ≤ k) → (joinL [s] ps).length ≤ ps.length * (k + 1)
  | [], _ => by simp [joinL]
  | [p], h => by
    have := h p List.mem_cons_self
    show p.length ≤ 1 * (k + 1)
    omega
  | p :: q :: r, h => by
    have h1 := h p List.mem_cons_self
    have ih := joinL_len s (k := k) (q :: r) fun x hx => h x (List.mem_cons_of_mem _ hx)
    show (p ++ ([s] ++ joinL [s] (q :: r))).length ≤ (r.length + 1 + 1) * (k + 1)
    rw [List.length_append, List.length_append]
    have e : (r.length + 1 + 1) * (k + 1) = (r.length + 1) * (k + 1) + (k + 1) := Nat.succ_mul _ _
    have ih : (joinL [s] (q :: r)).length ≤ (r.length + 1) * (k + 1) := ih
    have : ([s] : List Nat).length = 1 := rfl
    omega
theorem len_rowS {rows : List (List Int)} {m : Nat} (hb : Bids rows m) {r : List Int} (hr : r ∈ rows) : (rowS r).length ≤ 560 := by
  rw [len_tl, tl_rowS fun b h => (hb.ok r hr b h).1]
  have := joinL_len 32 (k := 13) (r.map fun b => numL b.toNat) fun p hp => by
    obtain ⟨b, hbm, rfl⟩ := List.mem_map.mp hp
    have := hb.ok r hr b hbm
    exact numL_len (by decide) (by omega)
  rw [List.length_map, hb.len r hr] at this
  have := hb.m40
  unfold rowL
  have e : m * (13 + 1) ≤ 40 * 14 := Nat.mul_le_mul hb.m40 (Nat.le_refl _)
  omega
theorem sum_bound {k : Nat} : ∀ l : List Nat, (∀ x ∈ l, x ≤ k) → l.sum ≤ l.length * k
  | [], _ => by simp
  | x :: l, h => by
    have h1 := h x List.mem_cons_self
    have h2 := sum_bound l fun y hy => h y (List.mem_cons_of_mem _ hy)
    rw [List.sum_cons, List.length_cons, Nat.succ_mul]
    omega
theorem log_ok {b : Int} (h0 : 0 ≤ b) (h1 : b ≤ 1000000000000) : b.natAbs.log2 < 1920 := by
  by_cases z : b.natAbs = 0
  · rw [z]
    decide
  · rw [Nat.log2_lt z]
    exact Nat.lt_of_le_of_lt (show b.natAbs ≤ 1000000000000 by omega) (by decide +kernel)
/-- "".join([" ".join([str(bid) for bid in row]) + "\\n" for row in bids]) -/
theorem ev_shown {K : PySem.W.Frag} {σ : L2.St} {H : Hp} {a : Addr} {rows : List (List Int)} {m : Nat} (hA : LL K H a rows) (hb : Bids rows m) (h0 : ∀ x y z, σ = [x, y, z] → x = some (.ref a)) (hl : σ.length = 3) :
    Ev (tM1 (rJoin K) (tC (.str "")) (tLc (iList K (tVar 0)) (gName 1) tYes (tOp (fun x y H Q => ∃ i j, x = .str i ∧ y = .str j ∧ i.length + j.length ≤ sizeLine ∧ Q (.str (i ++ j)) H) (tM1 (rJoin K) (tC (.str " ")) (tLc (iList K (tVar 1)) (gName 2) tYes (tCB (fun xs H Q => ∃ i, xs = [.int i] ∧ i.natAbs.log2 < 1920 ∧ Q (.str (toString i)) H) (tCons (tVar 2) tNil)) [2])) (tC (.str "\n"))) [1])) σ H (.str (shownS rows)) := by
  have hl9 := hb.l9
  have h40 := hb.m40
  match σ, hl with
  | [x, y, z], _ =>
    obtain rfl := h0 x y z rfl
    refine ev_join (ys := rows.map fun r => rowS r ++ "\n") ?_ ?_
    · rw [List.map_map]
      refine el_rows (rows := rows) (fun r => .str (rowS r ++ "\n")) (ev_var rfl) hA (by omega) (fun _ => rfl) fun i p H1 hi hs e1 => ?_
      have hrm : rows.getD i [] ∈ rows := by
        have e : rows.getD i [] = rows[i] := by simp [List.getD_eq_getElem?_getD, hi]
        rw [e]
        exact List.getElem_mem hi
      have hok := hb.ok _ hrm
      have hlen := hb.len _ hrm
      have hlr := len_rowS hb hrm
      generalize rows.getD i [] = r at hs hok hlen hlr
      refine ev_addS (ev_join (ys := r.map numS) ?_ ?_) ev_c (by have : ("\n" : Str).length = 1 := rfl; omega)
      · rw [List.map_map]
        refine el_all (xs := r) (enc := V.int) (fun b => .str (numS b)) (ev_var rfl) hs (by omega) (fun _ => rfl) fun b hbm H2 e2 => ev_strI (ev_var rfl) (log_ok (hok b hbm).1 (hok b hbm).2)
      · have := sum_bound (k := 13) ((r.map numS).map (·.length)) fun x hx => by
          obtain ⟨w, hw, rfl⟩ := List.mem_map.mp hx
          obtain ⟨b, hbm, rfl⟩ := List.mem_map.mp hw
          exact len_numS (hok b hbm).1 (hok b hbm).2
        rw [List.length_map, List.length_map] at this
        rw [List.length_map]
        have e1 : (" " : Str).length = 1 := rfl
        rw [e1]
        omega
    · have := sum_bound (k := 561) ((rows.map fun r => rowS r ++ "\n").map (·.length)) fun x hx => by
        obtain ⟨w, hw, rfl⟩ := List.mem_map.mp hx
        obtain ⟨r, hr, rfl⟩ := List.mem_map.mp hw
        have := len_rowS hb hr
        rw [len_tl, tl_append, List.length_append, ← len_tl]
        show (rowS r).length + 1 ≤ 561
        omega
      rw [List.length_map, List.length_map] at this
      have e1 : ("" : Str).length = 0 := rfl
      rw [e1]
      omega
/-! ### words that are numbers -/
def writtenB (l : List Nat) : Bool := ((decide (l ≠ []) && l.all fun c => decide (48 ≤ c ∧ c ≤ 57)) && decide (l.length ≤ 13)) && (decide (l = [48]) || !decide (l.head? = some 48))
theorem dig_ascii : ∀ c : Nat, c < 128 → Unicode.isDigit c = decide (48 ≤ c ∧ c ≤ 57) := by decide +kernel
theorem dig_txt (w : Str) : (Txt.isascii w && Txt.isdigit w) = (decide (tl w ≠ []) && (tl w).all fun c => decide (48 ≤ c ∧ c ≤ 57)) := by
  have h1 : Txt.isascii w = (tl w).all fun c => decide (c < 128) := by
    show w.cps.all _ = w.cps.toList.all _
    rw [Array.all_toList]
  have h2 : Txt.isdigit w = (decide (w.length > 0) && (tl w).all Unicode.isDigit) := by
    show (decide (w.length > 0) && w.cps.all _) = (_ && w.cps.toList.all _)
    rw [Array.all_toList]
  have h3 : decide (w.length > 0) = decide (tl w ≠ []) := by
    refine decide_eq_decide.mpr ?_
    rw [len_tl]
    exact List.length_pos_iff
  rw [h1, h2, h3]
  generalize tl w = l
  by_cases e : l = []
  · simp [e]
  · rw [decide_eq_true e, Bool.true_and, Bool.true_and, Bool.eq_iff_iff]
    rw [Bool.and_eq_true, List.all_eq_true, List.all_eq_true, List.all_eq_true]
    constructor
    · intro ⟨a, b⟩ c hc
      rw [← dig_ascii c (of_decide_eq_true (a c hc))]
      exact b c hc
    · intro h
      have lt : ∀ c ∈ l, c < 128 := fun c hc => by
        have := of_decide_eq_true (h c hc)
        omega
      exact ⟨fun c hc => decide_eq_true (lt c hc), fun c hc => by rw [dig_ascii c (lt c hc)]; exact h c hc⟩
theorem starts1 (w : Str) (c : Nat) : Txt.startswith w ⟨#[c]⟩ = decide ((tl w).head? = some c) := by
  have key : At w ⟨#[c]⟩ w.length 0 ↔ pre [c] ((tl w).drop 0) = true := at_iff (y := ⟨#[c]⟩) (by show [c] ≠ []; simp) 0
  have e1 : Txt.startswith w ⟨#[c]⟩ = true ↔ At w ⟨#[c]⟩ w.length 0 := by
    show (decide _ && _) = true ↔ (_ ∧ _)
    rw [Bool.and_eq_true, decide_eq_true_iff]
  rw [List.drop_zero] at key
  rw [Bool.eq_iff_iff, e1, key, decide_eq_true_iff]
  unfold pre
  cases tl w with
  | nil => simp
  | cons x r => simp
theorem ends1 (w : Str) (c : Nat) : Txt.endswith w ⟨#[c]⟩ = decide ((tl w).getLast? = some c) := by
  have e1 : Txt.endswith w ⟨#[c]⟩ = (decide (1 ≤ w.length) && Builtin.Str.subAt w ⟨#[c]⟩ (w.length - 1)) := by
    show (decide (0 + 1 ≤ w.length) && _) = _
    rfl
  rw [e1]
  by_cases h0 : tl w = []
  · have : w.length = 0 := by rw [len_tl, h0]; rfl
    rw [this, h0]
    rfl
  · have hl : 1 ≤ w.length := by
      rw [len_tl]
      exact List.length_pos_iff.mpr h0
    have key : At w ⟨#[c]⟩ w.length (w.length - 1) ↔ pre [c] ((tl w).drop (w.length - 1)) = true := at_iff (y := ⟨#[c]⟩) (by show [c] ≠ []; simp) _
    have e2 : At w ⟨#[c]⟩ w.length (w.length - 1) ↔ Builtin.Str.subAt w ⟨#[c]⟩ (w.length - 1) = true := ⟨fun h => h.2, fun h => ⟨by show w.length - 1 + 1 ≤ w.length; omega, h⟩⟩
    rw [decide_eq_true hl, Bool.true_and, Bool.eq_iff_iff, ← e2, key, decide_eq_true_iff]
    obtain ⟨l, x, hx⟩ : ∃ l x, tl w = l ++ [x] := ⟨_, _, (List.dropLast_concat_getLast h0).symm⟩
    have hn : w.length - 1 = l.length := by rw [len_tl, hx, List.length_append]; rfl
    rw [hn, hx, List.drop_left, List.getLast?_append]
    unfold pre
    simp
/-- what a line says -/
def lineNs (l : List Nat) : Option (List Int) := if l = [] then some [] else if (spl [32] 0 [] l).all writtenB = true then some ((spl [32] 0 [] l).map fun p => ((NumText.digitsVal p : Nat) : Int)) else none
theorem numL_head : ∀ n : Nat, 1 ≤ n → (numL n).head? ≠ some 48 := by
  intro n
  induction n using Nat.strongRecOn with
  | _ n ih =>
    intro h1
    by_cases h : n < 10
    · rw [numL_lt h]
      intro z
      have : 48 + n = 48 := Option.some.inj z
      omega
    · rw [numL_step (by omega), List.head?_append]
      have h2 := ih (n / 10) (by omega) (by omega)
      have h3 := numL_ne (n / 10)
      cases e : numL (n / 10) with
      | nil => exact absurd e h3
      | cons x r =>
        rw [e] at h2
        exact h2
theorem numL_written {n : Nat} (h : n ≤ 1000000000000) : writtenB (numL n) = true := by
  unfold writtenB
  rw [decide_eq_true (numL_ne n), Bool.true_and, decide_eq_true (numL_len (n := n) (k := 13) (by decide) (by omega)), Bool.and_true, Bool.and_eq_true]
  refine ⟨List.all_eq_true.mpr fun c hc => decide_eq_true (numL_digits n c hc), ?_⟩
  by_cases h0 : n = 0
  · subst h0
    decide +kernel
  · rw [decide_eq_false (numL_head n (by omega))]
    exact Bool.or_true _
theorem rowL_nil {r : List Int} (h : rowL r = []) : r = [] := by
  cases r with
  | nil => rfl
  | cons b t =>
    exfalso
    unfold rowL at h
    rw [List.map_cons] at h
    cases t with
    | nil => exact numL_ne _ h
    | cons c t =>
      have h : numL b.toNat ++ _ = [] := h
      exact numL_ne _ (List.append_eq_nil_iff.mp h).1
theorem nums_rowL {r : List Int} (hb : ∀ b ∈ r, 0 ≤ b ∧ b ≤ 1000000000000) : lineNs (rowL r) = some r := by
  unfold lineNs
  by_cases h : rowL r = []
  · rw [if_pos h, rowL_nil h]
  · rw [if_neg h]
    have hne : r.map (fun b => numL b.toNat) ≠ [] := fun z => h (by unfold rowL; rw [z]; rfl)
    have hs : spl [32] 0 [] (rowL r) = r.map fun b => numL b.toNat := spl_join hne fun p hp => by
      obtain ⟨b, _, rfl⟩ := List.mem_map.mp hp
      exact numL_free (by omega)
    rw [hs, if_pos (List.all_eq_true.mpr fun p hp => by
      obtain ⟨b, hbm, rfl⟩ := List.mem_map.mp hp
      exact numL_written (by have := hb b hbm; omega)), List.map_map]
    congr 1
    refine (List.map_congr_left fun b hbm => ?_).trans (List.map_id _)
    show ((NumText.digitsVal (numL b.toNat) : Nat) : Int) = b
    rw [numL_val]
    have := hb b hbm
    omega
theorem rowL_free {r : List Int} : 10 ∉ rowL r := by
  unfold rowL
  have : ∀ ps : List (List Nat), (∀ p ∈ ps, 10 ∉ p) → 10 ∉ joinL [32] ps := by
    intro ps
    induction ps with
    | nil => intro _ h; cases h
    | cons p ps ih =>
      intro h
      cases ps with
      | nil => exact h p List.mem_cons_self
      | cons q r =>
        intro m
        have m : 10 ∈ p ++ ([32] ++ joinL [32] (q :: r)) := m
        rcases List.mem_append.mp m with m | m
        · exact h p List.mem_cons_self m
        · rcases List.mem_append.mp m with m | m
          · have := List.mem_singleton.mp m
            omega
          · exact ih (fun x hx => h x (List.mem_cons_of_mem _ hx)) m
  refine this _ fun p hp => ?_
  obtain ⟨b, _, rfl⟩ := List.mem_map.mp hp
  exact numL_free (by omega)
theorem lines_shownL : ∀ rows : List (List Int), spl [10] 0 [] (shownL rows) = rows.map rowL ++ [[]]
  | [] => spl_nil _ _ _
  | r :: rows => by
    have h := spl_part1 (s := 10) (S := []) (acc := []) (p := rowL r) (rest := shownL rows) rowL_free
    have e : shownL (r :: rows) = rowL r ++ ([10] ++ shownL rows) := by
      unfold shownL
      rw [List.map_cons, List.flatten_cons, List.append_assoc]
    rw [e, List.map_cons]
    show spl [10] 0 [] (rowL r ++ ([10] ++ shownL rows)) = _
    rw [h, List.nil_append, lines_shownL rows]
    rfl
theorem last_shownL {rows : List (List Int)} (h : rows ≠ []) : (shownL rows).getLast? = some 10 := by
  obtain ⟨l, x, hx⟩ : ∃ l x, rows = l ++ [x] := ⟨_, _, (List.dropLast_concat_getLast h).symm⟩
  rw [hx]
  unfold shownL
  rw [List.map_append, List.flatten_append]
  show (_ ++ ([rowL x ++ [10]].flatten)).getLast? = _
  simp
section
variable {K : PySem.W.Frag} {σ : L2.St} {H : Hp} {te to ta tb : TE}
theorem el_slN {xs : List V} {lo hi : Option Int} {tlo thi : TO} (h : EvL te σ H xs) (h1 : EvO tlo σ H lo) (h2 : EvO thi σ H hi) : EvL (tSl (rSlL K) te tlo thi) σ H (cutV xs lo hi) := fun H1 e Q q => h H1 e _ fun a H2 ha e2 h0 =>
  el_sl (te := tC (.ref a)) (lo := lo) (hi := hi) ev_c (fun H3 e3 => h1 H3 ((e.trans e2).trans e3)) (fun H3 e3 => h2 H3 ((e.trans e2).trans e3)) (sq_of h0) H2 (Ex.refl _) _ fun p H3 hp e3 h3 => q p H3 (fresh_back e2 hp) (e2.trans e3) h3
theorem cut_last (xs : List V) : cutV xs none (some (-1)) = xs.dropLast := by
  unfold cutV
  rw [HT.sIx_none, List.drop_zero, List.dropLast_eq_take]
  congr 1
  have e : HT.sIx xs.length xs.length (some (-1)) = ((-1 : Int) + (xs.length : Int)).toNat := rfl
  rw [e]
  omega
end
theorem EvO.mono' {to : TO} {σ : L2.St} {H H' : Hp} {o : Option Int} (h : EvO to σ H o) (e : Ex H H') : EvO to σ H' o := fun H1 e1 Q q => h H1 (e.trans e1) Q q
theorem ev_slS {σ : L2.St} {H : Hp} {te : TE} {tlo thi : TO} {z : Str} {lo hi : Option Int} (h : Ev te σ H (.str z)) (h1 : EvO tlo σ H lo) (h2 : EvO thi σ H hi) (hz : z.length ≤ 100000) : Ev (tSl rSlS te tlo thi) σ H (.str (cutS z lo hi)) := fun H1 e Q q =>
  h H1 e _ fun H2 e2 => h1 H2 (e.trans e2) _ fun H3 e3 => h2 H3 ((e.trans e2).trans e3) _ fun H4 e4 => ⟨z, rfl, sz_of hz, q H4 ((e2.trans e3).trans e4)⟩
theorem len_app1 (l : Str) (c : Nat) : (l ++ ⟨#[c]⟩ : Str).length = l.length + 1 := by
  rw [len_tl, tl_append, List.length_append, ← len_tl]
  rfl
theorem len_app (l u : Str) : (l ++ u : Str).length = l.length + u.length := by
  rw [len_tl, tl_append, List.length_append, ← len_tl, ← len_tl]
theorem split_len {w y : Str} (hy : tl y = [32] ∨ tl y = [10]) : (Txt.split w y).length ≤ (tl w).length + 1 := by
  have key : ∀ (s : Nat) (l acc : List Nat), (spl [s] 0 acc l).length ≤ l.length + 1 := by
    intro s l
    induction l with
    | nil => intro acc; rw [spl_nil]; exact Nat.le_refl _
    | cons c r ih =>
      intro acc
      cases h : pre [s] (c :: r) with
      | true =>
        rw [spl_hit h]
        have := ih []
        show (spl [s] 0 [] r).length + 1 ≤ _
        rw [List.length_cons]
        omega
      | false =>
        rw [spl_miss h]
        have := ih (acc ++ [c])
        rw [List.length_cons]
        omega
  have hk : y.cps.all (· < 256) = true := by
    show _ = _
    rw [← Array.all_toList]
    rcases hy with h | h
    · have h : y.cps.toList = [32] := h
      rw [h]
      rfl
    · have h : y.cps.toList = [10] := h
      rw [h]
      rfl
  have := congrArg List.length (split_spl w y (by rcases hy with h | h <;> rw [h] <;> simp) (kind_ok hk))
  rw [List.length_map] at this
  rw [this]
  rcases hy with h | h <;> rw [h] <;> exact key _ _ _
theorem split_tl {w : Str} : (Txt.split w " ").map tl = spl [32] 0 [] (tl w) := split_spl w " " (by show ([32] : List Nat) ≠ []; simp) (kind_ok (by decide +kernel))
theorem split_nl {w : Str} : (Txt.split w "\n").map tl = spl [10] 0 [] (tl w) := split_spl w "\n" (by show ([10] : List Nat) ≠ []; simp) (kind_ok (by decide +kernel))
theorem spl_short (s : Nat) : ∀ (l acc : List Nat) (p : List Nat), p ∈ spl [s] 0 acc l → p.length ≤ acc.length + l.length
  | [], acc, p, h => by
    rw [spl_nil] at h
    rw [List.mem_singleton.mp h]
    exact Nat.le_add_right _ _
  | c :: r, acc, p, h => by
    cases e : pre [s] (c :: r) with
    | true =>
      rw [spl_hit e] at h
      rcases List.mem_cons.mp h with rfl | h
      · exact Nat.le_add_right _ _
      · have := spl_short s r [] p h
        rw [List.length_cons]
        have : p.length ≤ 0 + r.length := this
        omega
    | false =>
      rw [spl_miss e] at h
      have := spl_short s r (acc ++ [c]) p h
      rw [List.length_append] at this
      rw [List.length_cons]
      have : p.length ≤ acc.length + 1 + r.length := this
      omega
theorem word_int {w : Str} (h : writtenB (tl w) = true) : intText? w = some ((NumText.digitsVal (tl w) : Nat) : Int) ∧ w.length ≤ 640 := by
  unfold writtenB at h
  rw [Bool.and_eq_true, Bool.and_eq_true, Bool.and_eq_true] at h
  obtain ⟨⟨⟨h1, h2⟩, h3⟩, _⟩ := h
  have h3 := of_decide_eq_true h3
  have hl : w.length ≤ 13 := by rw [len_tl]; exact h3
  exact ⟨intText_digits (fun c hc => of_decide_eq_true (List.all_eq_true.mp h2 c hc)) (of_decide_eq_true h1) (by omega), by omega⟩
/-- words of a line, to be looked at -/
theorem ev_written {K : PySem.W.Frag} {σ : L2.St} {H : Hp} {a : Addr} {ws : List Str} {r : Sp} (hr : ∀ (w : Str) H1 (Q : VK), w.length ≤ 50000 → RetV (.bl (writtenB (tl w))) H1 Q → ∀ E, r [.str w] H1 Q E) (h0 : ∃ x z, σ = [x, some (.ref a), z]) (hA : SqL K H a (ws.map V.str)) (hz : ws.length ≤ 40000) (hw : ∀ w ∈ ws, w.length ≤ 50000) :
    Ev (tCB (rAll K) (tCons (tLc (iList K (tVar 1)) (gName 2) tYes (tCall r [] E0 (tCons (tVar 2) tNil)) [2]) tNil)) σ H (.bl ((ws.map tl).all writtenB)) := fun H1 e1 Q q => by
  obtain ⟨x, z, rfl⟩ := h0
  refine g_cb1 (el_all (K := K) (xs := ws) (enc := V.str) (fun w => .bl (writtenB (tl w))) (ev_var rfl) (ex_l e1 hA) hz (fun _ => rfl) (fun w hm H2 e2 => ev_call (ea_cons (ev_var rfl) ea_nil) fun H3 e3 Q q E => hr w H3 Q (hw w hm) (fun H4 e4 => q H4 e4) E) H1 (Ex.refl _) _ fun p H2 hp e2 h2 => ?_)
  refine ⟨p, ws.map fun w => writtenB (tl w), rfl, ?_, ?_⟩
  · rw [List.map_map]
    exact sq_of h2
  · have e : ((ws.map fun w => writtenB (tl w)).all id) = ((ws.map tl).all writtenB) := by
      rw [List.all_map, List.all_map]
      rfl
    rw [e]
    exact q H2 e2
theorem el_ints {K : PySem.W.Frag} {σ : L2.St} {H : Hp} {a : Addr} {ws : List Str} (h0 : ∃ x z, σ = [x, some (.ref a), z]) (hA : SqL K H a (ws.map V.str)) (hz : ws.length ≤ 40000) (hw : ∀ w ∈ ws, writtenB (tl w) = true) :
    EvL (tLc (iList K (tVar 1)) (gName 2) tYes (tCB (fun xs H Q => ∃ a n, xs = [.str a] ∧ intText? a = some n ∧ a.length ≤ 640 ∧ Q (.int n) H) (tCons (tVar 2) tNil)) [2]) σ H (((ws.map tl).map fun p => ((NumText.digitsVal p : Nat) : Int)).map V.int) := by
  obtain ⟨x, z, rfl⟩ := h0
  rw [List.map_map, List.map_map]
  refine el_all (K := K) (xs := ws) (enc := V.str) (fun w => .int ((NumText.digitsVal (tl w) : Nat) : Int)) (ev_var rfl) hA hz (fun _ => rfl) (fun w hm H2 e2 => ev_cb (ea_cons (ev_var rfl) ea_nil) fun H3 e3 Q q => ⟨w, _, rfl, (word_int (hw w hm)).1, (word_int (hw w hm)).2, q H3 (Ex.refl _)⟩)
end Tx

/-! Cr: name = [f(x) for x in ..] where f may raise. -/
namespace Cr
open PySem PySem.Spec PyProof.Rows L2 Evl Fs Xs Tx TL
section
variable {X : Cx} {pins : List (Addr × Obj)} {σ : L2.St} {H : Hp} {s : Shared}
theorem reXe {xe : Value → Shared → Prop} (I : Inv X pins σ H s) : Inv { X with xe := xe } pins σ H s :=
  ⟨⟨I.ok.mod, I.ok.kind, I.ok.glob, I.ok.blt, I.ok.above, I.ok.inj, I.ok.has, I.ok.cab, I.ok.hd, I.ok.frames, I.ok.stk, I.ok.exf, I.ok.bs, I.ok.bsz, I.ok.noex, I.ok.exfs, I.ok.funs, I.ok.frf⟩,
    I.os, I.bare, I.base, I.loc, I.cell, I.free, I.freeC, I.pin, I.hok, I.len⟩
/-- a comprehension's block in which a raise goes on in the def around -/
abbrev blkR (X : Cx) (s : Shared) (H : Hp) (scope : Scope) (cenv : Env) (fp : List Addr) (xe : Value → Shared → Prop) : Cx := { X.blk s H scope cenv fp with xe := xe }
theorem held_same {B h h' : Heap} {l : List Env} {e C L : Addr} {Z : Obj → Prop} {m m' : Str → Option Value} (hC : B.get? C = none) (hn : h.Ns C m) (hn' : h'.Ns C m') (sb : Heap.SameBut C h h') (x : HandSPX.HeldZ B l e Z L h) : HandSPX.HeldZ B l e Z L h' := by
  obtain ⟨st, ne, fr, oe, vs, T, oT, ts, he, hz, hd, h1, hbT, hTe, hT, hdT, h3⟩ := x
  have hne : ∀ {b : Addr} {o : Obj} {ws : Array Value}, h.get? b = some o → o.data = .fields ws → b ≠ C := fun e1 e2 z => by
    obtain ⟨oC, es, ep, hoC, hdC, _⟩ := hn
    subst z
    rw [e1] at hoC
    cases hoC
    rw [e2] at hdC
    cases hdC
  exact ⟨fun b o e1 => (sb.2 b fun z => by rw [z, hC] at e1; cases e1).trans (st b o e1), ne, Heap.FunFrames.sameBut sb hn' fr, oe, vs, T, oT, ts, (sb.2 _ (hne he hd)).trans he, hz, hd, h1, hbT, hTe, (sb.2 _ (hne hT hdT)).trans hT, hdT, h3⟩
/-- what is raised in the block goes on in the def -/
theorem block_passes {s3 : Shared} {H3 : Hp} {scope : Scope} {ce : Env} {fp : List Addr} {E : XK} (hs : X.stack = X.env :: X.outer) (hf : X.env.frame = some X.env.locals) (hcf : ce.frame = X.env.frame) (tk : Takes X (fun cls d _ H => E cls d H))
    (I3 : Inv X pins σ H3 s3) (hfp : ∀ b ∈ fp, FpOk X pins H3 b) (hC : s3.heap.objs.size ≤ ce.locals) :
    ∀ σ', PassesAt (L2.CX X.prog X.w) (blkR X s3 H3 scope ce fp (notedBy (model X.prog X.w) X.A ce (CompFails (model X.prog X.w) X.A X.xe ce))) σ' E := by
  intro σ' pins' H5 s5 u s6 Ib c
  obtain ⟨a, B, H', cls, d, rfl, fl, hok, ub, na, os, ag, hE⟩ := c
  generalize hL : ce.locals = C at hC
  have hCf : C ∉ frs X.stack := fun hm => by
    obtain ⟨_, o, ho, _⟩ := I3.stack.mem hm
    exact absurd (Nat.lt_of_lt_of_le (Heap.lt_size ho) hC) (Nat.lt_irrefl _)
  have n5 : H5 C = none := by
    have z : H5 ce.locals = none := Ib.free
    rwa [hL] at z
  obtain ⟨m, ⟨oC, es, ep, hoC, hdC, hrC⟩, _⟩ := Ib.loc
  have hoC : s5.heap.get? C = some oC := by rw [← hL]; exact hoC
  have bC : B.get? C = some oC := ub.keep C oC hoC n5 hCf
  have n' : H' C = none := ub.free C oC hoC n5
  have neC : ∀ {b : Addr} {o : Obj}, s3.heap.get? b = some o → b ≠ C := fun e z => by
    subst z
    exact absurd (Nat.lt_of_lt_of_le (Heap.lt_size e) hC) (Nat.lt_irrefl _)
  have gB : ∀ b o, B.get? b = some o → b ≠ C → (PySem.W.hideAll B [C]).get? b = some o := fun b o e ne => PySem.W.hideAll_get _ e fun hm => ne (List.mem_singleton.mp hm)
  have oB : ∀ b o, (PySem.W.hideAll B [C]).get? b = some o → B.get? b = some o := fun b o e => PySem.W.of_hideAll _ e
  have cB : (PySem.W.hideAll B [C]).get? C = none := PySem.W.hideAll_none _ List.mem_cons_self
  have nB : ∀ b, B.get? b = none → (PySem.W.hideAll B [C]).get? b = none := fun b e => by
    cases q : (PySem.W.hideAll B [C]).get? b with
    | none => rfl
    | some o => rw [oB b o q] at e; cases e
  generalize PySem.W.hideAll B [C] = B' at gB oB cB nB
  have hfr : X.A.frames = some (X.env :: X.outer) := by rw [I3.ok.frames, hs]
  have fl' : HandSPX.FlyingZ B' (X.env :: X.outer) a (Zc cls d) s6.heap := by
    rw [← hs]
    obtain ⟨f1, f2, f3, oe, vs, T, oT, ts, he, hz, hd, h1, hbT, hTe, hT, hdT, h3⟩ := fl
    exact ⟨fun b o e => f1 b o (oB b o e), nB a f2, funFrames_none f3 fun b hb => nB b (f3.mem hb).1, oe, vs, T, oT, ts, he, hz, hd, h1, nB T hbT, hTe, hT, hdT, h3⟩
  have hokB : HOk X.prog X.w H' B' := fun b ob e => (hok b ob e).stay (fun c w hc q => gB c w q fun z => by
    subst z
    rcases hc with hc | hc
    · rw [← hc, n'] at e; cases e
    · rw [n'] at hc; cases hc) (fun _ q => q) fun _ _ q => q
  show wpAny _ X.A (noteFrame (.ref a) ce) _ _ s6
  rw [noteFrame_env _ hcf]
  refine HandSPX.looks_onZ Zc.steady hfr hf fl' fun h1 held1 up1 => ?_
  have s6C : s6.heap.get? C = some oC := fl.1 C oC bC
  have ndC : ∀ vs, oC.data ≠ .fields vs := fun vs z => by rw [hdC] at z; cases z
  obtain ⟨slC, h1C⟩ := up1 C oC s6C ndC
  have ns1 : h1.Ns C m := ⟨_, es, ep, h1C, hdC, hrC⟩
  refine ⟨m, by rw [hL]; exact ns1, fun h2 m2 ns2 sb => ?_⟩
  rw [hL] at ns2 sb
  have held2 := held_same cB ns1 ns2 sb held1
  obtain ⟨oe, vs, T, oT, ts, he, hz, hd, hv1, r⟩ := held2.2.2.2
  unfold PySem.passOn
  refine wpAny_bind (wpAny_field he hd hv1 ?_)
  rw [if_neg (show ¬ ((Value.ref T == Value.none) = true) from by simp)]
  rw [hcf, hf]
  refine wpAny_bind (HandSPX.setFlight_onZ held2 fun h3 held3 up3 => ?_)
  refine wpAny_throw ?_
  refine tk _ _ ?_
  -- the state without the exception
  obtain ⟨G, g1, g2⟩ := restrict h3 fun b => (B'.get? b).isSome || decide (b ∈ frs X.stack)
  have st3 : B'.StaysIn h3 := held3.1
  have gB' : ∀ b o, B'.get? b = some o → G.get? b = some o := fun b o e => by
    rw [g1 b (by simp [e])]
    exact st3 b o e
  have gF : ∀ b, b ∈ frs X.stack → G.get? b = h3.get? b := fun b hb => g1 b (by simp [hb])
  have og : ∀ b o, G.get? b = some o → h3.get? b = some o ∧ ((B'.get? b).isSome = true ∨ b ∈ frs X.stack) := fun b o e => by
    cases q : ((B'.get? b).isSome || decide (b ∈ frs X.stack)) with
    | false => rw [g2 b q] at e; cases e
    | true =>
      rw [g1 b q] at e
      exact ⟨e, by simpa [Bool.or_eq_true] using q⟩
  have base : Un (frs X.stack) fp H3 H5 s3.heap s5.heap := Ib.base
  have hslot : ∀ b o, s3.heap.get? b = some o → H3 b = none → b ∈ frs X.stack → b ∉ C :: fp → ∃ sl, G.get? b = some { o with slots := sl } := fun b o e n hb hx => by
    obtain ⟨_, o', e', hnf⟩ := I3.stack.mem hb
    rw [e] at e'; cases e'
    obtain ⟨sl, e1⟩ := base.slot b o e n hb fun z => hx (List.mem_cons_of_mem _ z)
    obtain ⟨sl2, e2⟩ := ub.slot b _ e1 hb
    obtain ⟨sl3, e3⟩ := up1 b _ e2 hnf
    have e4 := (sb.2 b (neC e)).trans e3
    obtain ⟨sl4, e5⟩ := up3 b _ e4 hnf
    exact ⟨sl4, by rw [gF b hb]; exact e5⟩
  refine ⟨a, B', { s3 with heap := G, gens := s6.gens, drawn := s6.drawn, toks := s6.toks }, pins, σ, H', cls, d, rfl, ?_, fun b o e hb => ?_, Heap.UpToSlots.of_keeps fun b o e => (og b o e).1, .inr (.inr (by rw [hs]; exact held3)), na, ?_, ag, hE⟩
  · refine I3.call (ch := C :: fp) ⟨fun b o e n hb hx => ?_, hslot, fun b o e n hx => ?_, fun b o e hx => ?_, fun b xs e => ub.tups b xs (base.tups b xs e), fun b o xs e => ub.frzs b o xs (base.frzs b o xs e), fun b ps e => ?_⟩ (hokB.kept gB') ag fun b hb => ?_
    · have hx' : b ∉ fp := fun z => hx (List.mem_cons_of_mem _ z)
      exact gB' b o (gB b o (ub.keep b o (base.keep b o e n hb hx') (base.free b o e n hx') hb) (neC e))
    · have hx' : b ∉ fp := fun z => hx (List.mem_cons_of_mem _ z)
      obtain ⟨o', e'⟩ := base.there b o e hx'
      exact ub.free b o' e' (base.free b o e n hx')
    · have hx' : b ∉ fp := fun z => hx (List.mem_cons_of_mem _ z)
      by_cases hb : b ∈ frs X.stack
      · obtain ⟨sl, q⟩ := hslot b o e (I3.stkFree b hb) hb hx
        exact ⟨_, q⟩
      · obtain ⟨o', e'⟩ := base.there b o e hx'
        obtain ⟨o2, e2⟩ := ub.there b o' e' hb
        exact ⟨o2, gB' b o2 (gB b o2 e2 (neC e))⟩
    · obtain ⟨m1, e1⟩ := base.tbls b ps e
      obtain ⟨m2, e2⟩ := ub.tbls b _ e1
      exact ⟨m1 ++ m2, by rw [e2, Array.append_assoc]⟩
    · rcases List.mem_cons.mp hb with rfl | hb
      · obtain ⟨f0, f1, f2, f3, f4, f5⟩ := I3.fpOk (H' := H') hC n'
        exact ⟨f3, f1, f4, f5⟩
      · obtain ⟨f0, f1, f2, f3, f4, f5⟩ := hfp b hb
        exact ⟨f3, f1, f4, f5⟩
  · obtain ⟨e', h⟩ := og b o e
    rcases h with h | h
    · obtain ⟨o', q⟩ := Option.isSome_iff_exists.mp h
      have z := st3 b o' q
      rw [e'] at z; cases z
      exact q
    · exact absurd h hb
  · show s6.os = s3.os
    rw [os]
    exact Ib.os
/-- name = [..] on one line, its element may raise -/
theorem ps_setLcX {E : XK} {i : Nat} {y : Str} {py : Pos} {elt tg iter : Expr} {ifs : List Expr} {scope : Scope} {own : List (Str × Nat)} {pos spos : Pos} {wi : TI} {g : TG} {tt : TT} {te : TE}
    (hs : X.stack = X.env :: X.outer) (hf : X.env.frame = some X.env.locals) (tk : Takes X (fun cls d _ H => E cls d H)) (hc : X.calm = true) (hN : X.N.Nodup) (hy : X.N[i]? = some y) (hyl : X.env.scope.names.lookup y = some .local)
    (hsw : swapsWith (.ListComp elt [⟨tg, iter, ifs, 0⟩] scope pos) (some (.Name y py)) spos.line X.env = pure true) (hi : PI X tg iter wi) (ok : BlkOk X.N X.env.scope scope own)
    (hg : ∀ (s : Shared) (H : Hp) (C : Addr) (cl : List (Str × Addr)) (fp : List Addr) (xe : Value → Shared → Prop), PG (blkR X s H scope (compEnvC scope cl C X.env) fp xe) tg g)
    (ht : ∀ (s : Shared) (H : Hp) (C : Addr) (cl : List (Str × Addr)) (fp : List Addr) (xe : Value → Shared → Prop), PTs (blkR X s H scope (compEnvC scope cl C X.env) fp xe) ifs tt)
    (he : ∀ (s : Shared) (H : Hp) (C : Addr) (cl : List (Str × Addr)) (fp : List Addr) (xe : Value → Shared → Prop), (∀ σ, PassesAt (L2.CX X.prog X.w) (blkR X s H scope (compEnvC scope cl C X.env) fp xe) σ E) → PE (blkR X s H scope (compEnvC scope cl C X.env) fp xe) elt te)
    (hfs : ∀ x, foldedSetIterable iter X.env x = pure x := by intro _; rfl) :
    PS X (.Assign [.Name y py] (.ListComp elt [⟨tg, iter, ifs, 0⟩] scope pos) spos) (tAsg (tLc wi g tt te (own.map (·.2))) (gName i)) := by
  refine ⟨fun pins s σ H D I h => ?_⟩
  have h : tLc wi g tt te (own.map (·.2)) σ H (fun x H1 => gName i x σ H1 D.nx) := h
  rw [exec_Assign_Name_used _ _ _ _ hsw]
  refine wpAny_bind (wpAny_standAt (wpAny_bind ?_))
  show wpAny _ X.A (do let _ ← comprehension (.ListComp elt [⟨tg, iter, ifs, 0⟩] scope pos) scope X.env (firstIterPos [⟨tg, iter, ifs, 0⟩] pos) (newList []) false (eval iter X.env) (some (assign (.Name y py) X.env))) _ _ s
  refine wpAny_bind (thn (Q := fun _ s' => SP X pins D .next s') ?_ fun _ s' hq => wpAny_pure (wpAny_pure hq))
  have hfree : ∀ z ∈ scope.names, z.2 = .free → ∃ c, X.env.cells.lookup z.1 = some c := fun z hz e => I.ok.has _ ((ok.free z hz e).elim .inl .inr)
  refine comprehension_at (use := some (assign (.Name y py) X.env)) rfl hfs (closure_ok hfree) ok.kind (fun z hz e => by rw [ok.uniq z hz, e]) (thn (hi.run pins s σ H _ I h) fun xv s1 hx => thn hx fun itv s2 h2 => ?_)
  obtain ⟨it, fp, tn, J, H2, rfl, I2, T, st2, f2, q⟩ := h2
  refine wpAny_newObj_type (newEnv_comp ?_) (by show 0 ≤ sizeLine; decide)
  generalize hD : s2.heap.objs.size = L
  have hLn : H2 L = none := I2.hok.fresh (Nat.le_of_eq hD)
  obtain ⟨W, ⟨m0, w0⟩, turn⟩ := q L hLn
  have ex3 : ∀ b o, s2.heap.get? b = some o → (s2.heap.push { cls := .type "list", data := .seq ([] : List Value).toArray }).get? b = some o := fun b o e => Heap.get?_push_of_some _ e
  have I3 : Inv X pins σ (upd H2 L (.lst [])) { s2 with heap := s2.heap.push { cls := .type "list", data := .seq ([] : List Value).toArray } } :=
    I2.laid (t' := s2.toks) ex3 (Nat.le_of_eq hD) ⟨Nat.zero_le _, [], 0, .nil, by rw [← hD]; exact Heap.get?_push_size _ rfl⟩
  have f3 : ∀ b ∈ fp, FpOk X pins (upd H2 L (.lst [])) b ∧ b < (s2.heap.push { cls := .type "list", data := .seq ([] : List Value).toArray }).objs.size := fun b hb => by
    obtain ⟨o, e, _⟩ := T.obj _ _ st2 b hb
    have hlt := Heap.lt_size e
    exact ⟨⟨by rw [upd_ne (by rw [← hD]; exact Nat.ne_of_lt hlt)]; exact (f2 b hb).1, (f2 b hb).2⟩, by rw [Heap.size_push]; exact Nat.lt_succ_of_lt hlt⟩
  have st3 := T.keep _ _ _ st2 fun b _ o e => ex3 b o e
  generalize hs3 : ({ s2 with heap := s2.heap.push { cls := .type "list", data := .seq ([] : List Value).toArray } } : Shared) = s3 at I3
  have hh3 : s2.heap.push { cls := .type "list", data := .seq ([] : List Value).toArray } = s3.heap := by rw [← hs3]
  rw [hh3] at f3 st3
  have I4 := block_start I3 ok hN f3
  have nfp : ∀ b ∈ fp, (upd H2 L (.lst [])) b = none := fun b hb => (f3 b hb).1.1
  generalize hcl : cellsFrom (s3.heap.objs.size + 1) scope.names (cloFrom X.env.cells scope.names []) = cl at I4
  have hend : codeAny (model X.prog X.w) X.A (.compStart (.ListComp elt [⟨tg, iter, ifs, 0⟩] scope pos) 0 (.ref it) (.ref L) (compEnvC scope cl s3.heap.objs.size X.env))
      (compEnds (model X.prog X.w) X.A X.xe (some (assign (.Name y py) X.env)) (fun _ s' => SP X pins D .next s') (.ref L) (compEnvC scope cl s3.heap.objs.size X.env)) { s3 with heap := pushCells (s3.heap.push { cls := .type "dict", data := .dict #[] }) scope.names } := by
    generalize hce : compEnvC scope cl s3.heap.objs.size X.env = ce at I4
    have cL : ce.locals = s3.heap.objs.size := by subst hce; rfl
    have cF : ce.frame = X.env.frame := by subst hce; rfl
    generalize hH3 : upd H2 L (.lst []) = H3 at I3 I4 w0 nfp f3
    generalize hs4 : ({ s3 with heap := pushCells (s3.heap.push { cls := .type "dict", data := .dict #[] }) scope.names } : Shared) = s4 at I4 ⊢
    have st4 : tn 0 s4.heap := T.keep _ _ _ st3 fun b _ o e => by rw [← hs4]; exact pushCells_keeps _ _ _ _ (Heap.get?_push_of_some _ e)
    have pas := block_passes (scope := scope) (ce := ce) (fp := fp) hs hf cF tk I3 (fun b hb => (f3 b hb).1) (Nat.le_of_eq cL.symm)
    have pg := hg s3 H3 s3.heap.objs.size cl fp (notedBy (model X.prog X.w) X.A ce (CompFails (model X.prog X.w) X.A X.xe ce))
    have pt := ht s3 H3 s3.heap.objs.size cl fp (notedBy (model X.prog X.w) X.A ce (CompFails (model X.prog X.w) X.A X.xe ce))
    have pe := he s3 H3 s3.heap.objs.size cl fp (notedBy (model X.prog X.w) X.A ce (CompFails (model X.prog X.w) X.A X.xe ce))
    rw [hce] at pg pt pe
    have pe := pe pas
    have I4 : Inv (blkR X s3 H3 scope ce fp (notedBy (model X.prog X.w) X.A ce (CompFails (model X.prog X.w) X.A X.xe ce))) [] (wipe σ (own.map (·.2))) H3 s4 := reXe I4
    generalize hXr : blkR X s3 H3 scope ce fp (notedBy (model X.prog X.w) X.A ce (CompFails (model X.prog X.w) X.A X.xe ce)) = Xr at pg pt pe I4
    have r1 : Xr.prog = X.prog := by rw [← hXr]
    have stat : ∀ {σ' : L2.St} {H' : Hp} {s' : Shared}, Inv Xr [] σ' H' s' → (∀ b ∈ fp, H' b = none) → ∀ b ∈ fp, FpOk Xr [] H' b := by
      subst hXr
      exact fun {σ' H' s'} I' hn b hb => ⟨hn b hb, (I'.ok.exf b hb).1, I'.ok.exfs b hb, .inl hb, fun x c e => (I'.ok.exf b hb).2 x c e, fun p hp => by cases hp⟩
    have loop : codeAny (model X.prog X.w) X.A (.compLoop (.ListComp elt [⟨tg, iter, ifs, 0⟩] scope pos) 0 (.ref it) (.ref L) ce)
        (compEnds (model X.prog X.w) X.A X.xe (some (assign (.Name y py) X.env)) (fun _ s' => SP X pins D .next s') (.ref L) ce) s4 := by
      refine compLoop_any (fun n s' => ∃ i H', Inv Xr [] (wipe σ (own.map (·.2))) H' s' ∧ tn i s'.heap ∧ (∀ b ∈ fp, H' b = none) ∧ W i n H') ?_ m0 ⟨0, H3, I4, st4, nfp, w0⟩
      rintro n s5 ⟨j, H5, I5, st5, n5, w5⟩
      rcases turn j n H5 w5 with ⟨stop, qq⟩ | ⟨go, Nx, hNx, step⟩
      · have td := T.done Xr (by rw [← hXr]) (by rw [← hXr]) (by rw [← hXr]) (by rw [← hXr]; exact hc) j [] s5 _ H5 (fun _ _ => False) I5 (stat I5 n5) st5 stop
        subst hXr
        refine thnF td fun r s6 ⟨hr, I6⟩ => ?_
        subst hr
        have I7 : Inv X pins σ H5 s6 := I3.call' (ch := fp) I6.os I6.base I6.hok I6.bare fun b hb => ⟨(f3 b hb).1.2.2.2.1, (f3 b hb).1.2.1, (f3 b hb).1.2.2.2.2.1, (f3 b hb).1.2.2.2.2.2⟩
        have nC : H5 ce.locals = none := I6.free
        obtain ⟨m, hn, _⟩ := I6.loc
        have hn : s6.heap.Ns ce.locals m := hn
        obtain ⟨f0, f1, f2', f3', f4, f5⟩ := I3.fpOk (Nat.le_of_eq cL.symm) nC
        show wpAny _ _ (assign (.Name y py) X.env (.ref L)) _ _ _
        refine wpAny_assign_Name (store_ok2 (v := V.ref L) I7 hN hy (.inl hyl) rfl (fun s2 J2 ⟨b, sb, hb⟩ => ?_) (.inr hyl))
        have hCb : ce.locals ≠ b := by
          rcases hb with z | z
          · rw [z]; exact f1
          · exact fun e => f4 y b z e.symm
        exact ⟨m, hn.sameBut sb hCb, fun h3 sb3 => ⟨_, H5, J2.turned (t' := s2.toks) (fun b o hb e => (sb3.2 b hb).trans e) f0 f1 f3' f4 f5, qq⟩⟩
      · have ti := T.item Xr (by rw [← hXr]) (by rw [← hXr]) (by rw [← hXr]) (by rw [← hXr]; exact hc) j [] s5 _ H5 (fun _ _ => False) I5 (stat I5 n5) st5 go
        subst hXr
        refine thnF ti fun r s6 ⟨u, hr, h6⟩ => ?_
        subst hr
        refine thnF h6 fun _ s7 ⟨x, H7, I7, r7, y7, st7, n7⟩ => ?_
        have I7' := I7.pinned (stat I7 n7) (T.obj _ _ st7)
        refine thn (pg.run _ s7 _ H7 x u _ I7' r7 (step x H7 y7)) fun _ s8 ⟨σ8, H8, I8, hw8, q8⟩ => ?_
        refine thn (pt.run _ s8 σ8 H8 _ I8 q8) fun b s9 ⟨H9, I9, q9⟩ => ?_
        have fin : ∀ {s' : Shared} {H' : Hp}, Inv (blkR X s3 H3 scope ce fp (notedBy (model X.prog X.w) X.A ce (CompFails (model X.prog X.w) X.A X.xe ce))) ([] ++ pinsAt fp s7.heap) σ8 H' s' → Nx H' →
            ∃ m, m < n ∧ ∃ i H', Inv (blkR X s3 H3 scope ce fp (notedBy (model X.prog X.w) X.A ce (CompFails (model X.prog X.w) X.A X.xe ce))) [] (wipe σ (own.map (·.2))) H' s' ∧ tn i s'.heap ∧ (∀ b ∈ fp, H' b = none) ∧ W i m H' := fun {s' H'} I' nx => by
          obtain ⟨m', hm, w'⟩ := hNx H' nx
          have pin' : ∀ b ∈ fp, ∀ o, s7.heap.get? b = some o → s'.heap.get? b = some o ∧ H' b = none := fun b hb o e =>
            let z := I'.pin (b, o) (List.mem_append_right _ (List.mem_append_right _ (mem_pinsAt hb e)))
            ⟨z.1, z.2.1⟩
          have hl : (wipe σ (own.map (·.2))).length = σ8.length := by rw [← hw8, wipe_length]
          refine ⟨m', hm, j + 1, H', (I'.unpinned (pins := [])).weak hl (fun k v e => ?_), T.keep _ _ _ st7 fun b hb o e => (pin' b hb o e).1, fun b hb => ?_, w'⟩
          · rw [← hw8] at e
            exact (wipe_some e).1
          · obtain ⟨o, e, _⟩ := T.obj _ _ st7 b hb
            exact (pin' b hb o e).2
        cases b with
        | false =>
          simp only [Bool.false_eq_true, if_false] at q9 ⊢
          exact fin I9 q9
        | true =>
          simp only [if_true] at q9 ⊢
          refine thn (pe.run _ s9 σ8 H9 _ I9 q9) fun z s10 ⟨yv, H10, I10, r10, acc, hD10, hz10, nx⟩ => ?_
          exact app_ok (X := blkR X s3 H3 scope ce fp (notedBy (model X.prog X.w) X.A ce (CompFails (model X.prog X.w) X.A X.xe ce))) I10 hD10 hz10 r10 fun s11 I11 => fin I11 nx
    exact codeAny_compStart_list loop (T.self X.A 0 _ _ _ st4 loop)
  exact hend
end
section
variable {K : PySem.W.Frag} {H : Hp} {a : Addr}
/-- [te for x in xs], each te a new list, or a raise -/
theorem en_opt {α : Type} {σ : L2.St} {te tl : TE} {j : Nat} {vs : List Nat} {xs : List α} {enc : α → V} {os : List (Option (List V))} (h : Ev tl σ H (.ref a)) (hx : SqL K H a (xs.map enc)) (hz : xs.length ≤ 40000) (hl : os.length = xs.length)
    (hw : ∀ x, wipe ((wipe σ vs).set j (some x)) vs = wipe σ vs)
    (he : ∀ (i : Nat) (x : α) (y : List V) H1, xs[i]? = some x → os[i]? = some (some y) → Ex H H1 → EvL te ((wipe σ vs).set j (some (enc x))) H1 y)
    (hn : ∀ (i : Nat) (x : α) H1, xs[i]? = some x → os[i]? = some none → Ex H H1 → ∀ Q : VK, te ((wipe σ vs).set j (some (enc x))) H1 Q)
    {Q : VK} (q : ∀ ys : List (List V), os = ys.map some → ∀ p ps H2, LNew H H2 p ps ys → Ex H H2 → Q (.ref p) H2) : tLc (iList K tl) (gName j) tYes te vs σ H Q := by
  refine h H (Ex.refl H) _ fun H1 e1 => ⟨a, rfl, ⟨_, ex_l e1 hx⟩, fun D hD => ?_⟩
  refine lc_list (K := K) (a := a) (xs := xs.map enc) (fun i H' => ∃ (ys : List (List V)) (ps : List Addr), os.take i = ys.map some ∧ Ex H1 H' ∧ LNew H1 H' D ps ys) ⟨[], [], by simp, Ex.new hD, hD, upd_same, by simp, by simp, fun i q y h1 => by simp at h1⟩
    (fun i H' _ p => ex_l (e1.trans p.choose_spec.choose_spec.2.1) hx) (fun i x H' hi p => ?_) (fun H' p => ?_)
  · obtain ⟨ys, ps, et, ex, L⟩ := p
    rw [List.getElem?_map] at hi
    cases ei : xs[i]? with
    | none =>
      rw [ei] at hi
      cases hi
    | some y =>
      rw [ei] at hi
      obtain rfl : enc y = x := Option.some.inj hi
      have hil : i < xs.length := (List.getElem?_eq_some_iff.mp ei).1
      have hio : i < os.length := by omega
      have eo : os[i]? = some os[i] := List.getElem?_eq_getElem hio
      have e12 : os.take (i + 1) = os.take i ++ [os[i]] := by
        rw [List.take_add_one, eo]
        rfl
      have lys : ys.length = i := by
        have := congrArg List.length et
        rw [List.length_take, List.length_map] at this
        omega
      refine ⟨hw _, iteT (B := ∃ (ys : List (List V)) (ps : List Addr), os.take (i + 1) = ys.map some ∧ Ex H1 H' ∧ LNew H1 H' D ps ys) ?_⟩
      cases eoi : os[i] with
      | none =>
        rw [eoi] at eo
        exact hn i y H' ei eo (e1.trans ex) _
      | some z =>
        rw [eoi] at eo e12
        refine he i y z H' ei eo (e1.trans ex) H' (Ex.refl H') _ fun p H2 hp e2 h2 => ⟨ps.map V.ref, e2 _ _ L.top, sz_lt ?_, ys ++ [z], ps ++ [p], by rw [e12, et, List.map_append]; rfl, Ex.mut (ex.trans e2) hD, L.push ex e2 hp h2⟩
        have := L.len
        rw [List.length_map]
        omega
  · obtain ⟨ys, ps, et, ex, L⟩ := p
    have e3 : os.take (xs.map enc).length = os := by rw [List.length_map, ← hl, List.take_length]
    rw [e3] at et
    exact q ys et D ps H' (L.back e1) (e1.trans ex)
theorem q_asgO {α : Type} {σ : L2.St} {te tl : TE} {i j : Nat} {vs : List Nat} {tz : TS} {D : Ends} {xs : List α} {enc : α → V} {os : List (Option (List V))} (h : Ev tl σ H (.ref a)) (hx : SqL K H a (xs.map enc)) (hz : xs.length ≤ 40000) (hl : os.length = xs.length)
    (hw : ∀ x, wipe ((wipe σ vs).set j (some x)) vs = wipe σ vs)
    (he : ∀ (i : Nat) (x : α) (y : List V) H1, xs[i]? = some x → os[i]? = some (some y) → Ex H H1 → EvL te ((wipe σ vs).set j (some (enc x))) H1 y)
    (hn : ∀ (i : Nat) (x : α) H1, xs[i]? = some x → os[i]? = some none → Ex H H1 → ∀ Q : VK, te ((wipe σ vs).set j (some (enc x))) H1 Q)
    (q : ∀ ys : List (List V), os = ys.map some → ∀ p ps H2, LNew H H2 p ps ys → Ex H H2 → tz D (σ.set i (some (.ref p))) H2) : tSeq (tAsg (tLc (iList K tl) (gName j) tYes te vs) (gName i)) tz D σ H :=
  en_opt (Q := fun x H2 => tz D (σ.set i (some x)) H2) h hx hz hl hw he hn q
/-- a call that may raise, in an element -/
theorem el_callS {sp : Sp} {E : L2.St → XK} {σ : L2.St} {vs xs : List V} {ta : TA} (h : EvA ta σ H vs) (hs : ∀ H1, Ex H H1 → ∀ Q : VK, RetL xs H1 Q → sp vs H1 Q (E σ)) : EvL (tCallS sp E ta) σ H xs := fun H1 e Q q =>
  h H1 e _ fun H2 e2 => hs H2 (e.trans e2) Q fun p H3 hp e3 h3 => q p H3 (fresh_back e2 hp) (e2.trans e3) h3
end
theorem units65 {k : Nat} {A : Around} (r : Room k A) : A.units + 65 < cLine := by
  have := r.un
  omega
theorem inDK {X : Cx} {K : PySem.W.Frag} (hu : X.A.units + 65 < cLine) (hK : X.K = K := by rfl) : OpR X (compareOp .In) (rInD K) := by
  subst hK
  exact op_inD hu
/-! ### what a text says -/
def allSome {α : Type} : List (Option α) → Option (List α)
  | [] => some []
  | none :: _ => none
  | some x :: t => (allSome t).map (x :: ·)
theorem allSome_map {α : Type} : ∀ xs : List α, allSome (xs.map some) = some xs
  | [] => rfl
  | x :: t => by
    show (allSome (t.map some)).map (x :: ·) = _
    rw [allSome_map t]
    rfl
theorem allSome_of {α : Type} : ∀ {os : List (Option α)} {xs : List α}, allSome os = some xs → os = xs.map some
  | [], xs, h => by
    obtain rfl := Option.some.inj h
    rfl
  | none :: _, xs, h => by cases h
  | some x :: t, xs, h => by
    have h : (allSome t).map (x :: ·) = some xs := h
    cases e : allSome t with
    | none => rw [e] at h; cases h
    | some ys =>
      rw [e] at h
      obtain rfl := Option.some.inj h
      rw [allSome_of e]
      rfl
theorem allSome_none {α : Type} : ∀ {os : List (Option α)} {i : Nat}, os[i]? = some none → allSome os = none
  | [], i, h => by simp at h
  | none :: _, _, _ => rfl
  | some x :: t, 0, h => by simp at h
  | some x :: t, i + 1, h => by
    show (allSome t).map (x :: ·) = none
    rw [allSome_none (i := i) h]
    rfl
def endB (l : List Nat) : Bool := decide (l = []) || decide (l.getLast? = some 10)
def linesT (l : List Nat) : List (List Nat) := (spl [10] 0 [] l).dropLast
def rowsO (l : List Nat) : Option (List (List Int)) := if endB l = true then allSome ((linesT l).map lineNs) else none
def dueT (l : List Nat) : Nat := match rowsO l with
  | none => 8
  | some rows => dueB (iv rows)
theorem dueT_8 {l : List Nat} (h : rowsO l = none) : dueT l = 8 := by
  unfold dueT
  rw [h]
theorem dueT_some {l : List Nat} {rows : List (List Int)} (h : rowsO l = some rows) : dueT l = dueB (iv rows) := by
  unfold dueT
  rw [h]
section
variable {K : PySem.W.Frag} {H : Hp} {σ : L2.St} {D : Ends} {tu tz : TS} {te : TE} {z : Str} {j : Nat}
/-- a text, sign by sign: p is behind -/
theorem s_forS (h : Ev te σ H (.str z)) (Pv : List Nat → L2.St → Hp → Prop) (h0 : ∀ H1, Ex H H1 → Pv [] σ H1)
    (hs : ∀ p c r σ' H', tl z = p ++ c :: r → Pv p σ' H' → tu { D with nx := Pv (p ++ [c]), ct := Pv (p ++ [c]), bk := D.nx } (σ'.set j (some (.str ⟨#[c]⟩))) H') (hd : ∀ σ' H', Pv (tl z) σ' H' → D.nx σ' H') : tFor (iStr te) (gName j) tu D σ H :=
  h H (Ex.refl H) _ fun H1 e => ⟨z, rfl, for_it walk_str (fun i σ H => Pv ((tl z).take i) σ H) (by rw [List.take_zero]; exact h0 H1 e) (fun _ _ _ _ _ => trivial) (fun i x σ' H' H2 hi p y => by
    obtain ⟨eh, c, hc, rfl⟩ := y
    rw [eh]
    have hc : (tl z)[i]? = some c := by
      rw [← hc]
      exact Array.getElem?_toList
    have hil : i < (tl z).length := (List.getElem?_eq_some_iff.mp hc).1
    have e1 : (tl z).take (i + 1) = (tl z).take i ++ [c] := by
      rw [List.take_add_one, hc]
      rfl
    have e2 : tl z = (tl z).take i ++ c :: (tl z).drop (i + 1) := by
      have h1 := List.take_append_drop i (tl z)
      rw [List.drop_eq_getElem_cons hil] at h1
      have : (tl z)[i] = c := by
        rw [List.getElem?_eq_getElem hil] at hc
        exact Option.some.inj hc
      rw [this] at h1
      exact h1.symm
    have := hs _ c _ σ' H' e2 p
    rw [← e1] at this
    exact this) (fun σ' H' p => hd σ' H' (by
    have e3 : (tl z).take z.cps.size = tl z := by
      rw [← Array.length_toList]
      exact List.take_length
    rwa [e3] at p))⟩
theorem q_forS (h : Ev te σ H (.str z)) (Pv : List Nat → L2.St → Hp → Prop) (h0 : ∀ H1, Ex H H1 → Pv [] σ H1)
    (hs : ∀ p c r σ' H', tl z = p ++ c :: r → Pv p σ' H' → tu { D with nx := Pv (p ++ [c]), ct := Pv (p ++ [c]), bk := tz D } (σ'.set j (some (.str ⟨#[c]⟩))) H') (hd : ∀ σ' H', Pv (tl z) σ' H' → tz D σ' H') : tSeq (tFor (iStr te) (gName j) tu) tz D σ H :=
  s_forS (D := { D with nx := tz D }) h Pv h0 hs hd
/-- what is put behind a list, told by P -/
theorem s_appP {l : Addr} {xs : List V} {ta te : TE} {P : V → Hp → Prop} (hl : H l = some (.lst xs)) (ha : Ev ta σ H (.ref l)) (hz : xs.length < 100000) (h : ∀ H1, Ex H H1 → ∀ Q : VK, (∀ v H2, Ex H H2 → P v H2 → Q v H2) → te σ H1 Q)
    (k : ∀ v H2, Ex H H2 → P v H2 → D.nx σ (upd H2 l (.lst (xs ++ [v])))) : tDrop (tBM K "list" rAppend ta (tCons te tNil)) D σ H := ha H (Ex.refl H) _ fun H1 e1 =>
  ⟨Or.inl ⟨rfl, xs, sq_of (e1 l _ hl)⟩, h H1 e1 _ fun v H2 e2 p => ⟨l, xs, v, rfl, rfl, e2 l _ hl, sz_lt hz, k v H2 e2 p⟩⟩
theorem q_appP {l : Addr} {xs : List V} {ta te : TE} {P : V → Hp → Prop} (hl : H l = some (.lst xs)) (ha : Ev ta σ H (.ref l)) (hz : xs.length < 100000) (h : ∀ H1, Ex H H1 → ∀ Q : VK, (∀ v H2, Ex H H2 → P v H2 → Q v H2) → te σ H1 Q)
    (k : ∀ v H2, Ex H H2 → P v H2 → tz D σ (upd H2 l (.lst (xs ++ [v])))) : tSeq (tDrop (tBM K "list" rAppend ta (tCons te tNil))) tz D σ H := s_appP (D := { D with nx := tz D }) hl ha hz h k
theorem rv_notS {c : Nat} : RV (fun x y H Q => ∃ (c : Nat) (z : Str), x = .str ⟨#[c]⟩ ∧ y = .str z ∧ Q (.bl (!decide (c ∈ z.cps.toList))) H) (.str ⟨#[c]⟩) (.str z) H (.bl (!decide (c ∈ tl z))) := fun H1 _ Q q => ⟨c, z, rfl, rfl, q H1 (Ex.refl _)⟩
end
theorem written_iff {l : List Nat} : writtenB l = true ↔ l ≠ [] ∧ l.length ≤ 13 ∧ (∀ c ∈ l, 48 ≤ c ∧ c ≤ 57) ∧ (l = [48] ∨ l.head? ≠ some 48) := by
  unfold writtenB
  simp only [Bool.and_eq_true, Bool.or_eq_true, Bool.not_eq_true', decide_eq_true_eq, decide_eq_false_iff_not, List.all_eq_true]
  exact ⟨fun ⟨⟨⟨a, b⟩, c⟩, d⟩ => ⟨a, c, b, d⟩, fun ⟨a, c, b, d⟩ => ⟨⟨⟨a, b⟩, c⟩, d⟩⟩
theorem digits_in : ∀ c : Nat, c ∈ tl "0123456789" ↔ 48 ≤ c ∧ c ≤ 57 := by
  intro c
  have e : tl "0123456789" = [48, 49, 50, 51, 52, 53, 54, 55, 56, 57] := by decide +kernel
  rw [e]
  simp only [List.mem_cons, List.not_mem_nil, or_false]
  omega
theorem digit_at : ∀ d : Nat, d < 10 → Builtin.Str.occurrences "0123456789" ⟨#[48 + d]⟩ 0 ("0123456789" : Str).length 1 = [d] := by decide +kernel
theorem digits_snoc (p : List Nat) (c : Nat) : NumText.digitsVal (p ++ [c]) = NumText.digitsVal p * 10 + (c - 48) := by
  unfold NumText.digitsVal
  rw [List.foldl_append]
  rfl
/-! ### cuts by one sign -/
theorem pre1 (s c : Nat) (r : List Nat) : pre [s] (c :: r) = decide (c = s) := by
  by_cases h : c = s
  · subst h
    rw [decide_eq_true rfl]
    exact pre_self [c] r
  · rw [decide_eq_false h]
    exact pre_of_head [] r h
theorem spl_ne (s : Nat) : ∀ (l acc : List Nat), spl [s] 0 acc l ≠ []
  | [], acc => by rw [spl_nil]; simp
  | c :: r, acc => by
    by_cases h : c = s
    · rw [spl_hit (by rw [pre1, decide_eq_true h])]
      simp
    · rw [spl_miss (by rw [pre1, decide_eq_false h])]
      exact spl_ne s r _
theorem spl_mid (s : Nat) (r : List Nat) : ∀ (p acc : List Nat), spl [s] 0 acc (p ++ s :: r) = spl [s] 0 acc p ++ spl [s] 0 [] r
  | [], acc => by
    rw [List.nil_append, spl_hit (by rw [pre1, decide_eq_true rfl]), spl_nil]
    rfl
  | c :: p, acc => by
    by_cases h : c = s
    · rw [List.cons_append, spl_hit (by rw [pre1, decide_eq_true h]), spl_hit (by rw [pre1, decide_eq_true h])]
      show acc :: spl [s] 0 [] (p ++ s :: r) = _
      rw [spl_mid s r p []]
      rfl
    · rw [List.cons_append, spl_miss (by rw [pre1, decide_eq_false h]), spl_miss (by rw [pre1, decide_eq_false h])]
      exact spl_mid s r p _
theorem spl_end (s : Nat) (p : List Nat) : spl [s] 0 [] (p ++ [s]) = spl [s] 0 [] p ++ [[]] := by
  rw [spl_mid, spl_nil]
theorem spl_put {s c : Nat} (h : c ≠ s) : ∀ (p acc : List Nat) (ls : List (List Nat)) (l : List Nat), spl [s] 0 acc p = ls ++ [l] → spl [s] 0 acc (p ++ [c]) = ls ++ [l ++ [c]]
  | [], acc, ls, l, e => by
    rw [spl_nil] at e
    have e2 : [] ++ [acc] = ls ++ [l] := e
    obtain ⟨rfl, e3⟩ := List.append_inj' e2 rfl
    obtain rfl := (List.cons.inj e3).1
    rw [List.nil_append, spl_miss (by rw [pre1, decide_eq_false h]), spl_nil]
    rfl
  | d :: p, acc, ls, l, e => by
    by_cases hd : d = s
    · rw [spl_hit (by rw [pre1, decide_eq_true hd])] at e
      have e : acc :: spl [s] 0 [] p = ls ++ [l] := e
      rw [List.cons_append, spl_hit (by rw [pre1, decide_eq_true hd])]
      show acc :: spl [s] 0 [] (p ++ [c]) = _
      cases ls with
      | nil => exact absurd (List.cons.inj e).2 (spl_ne s p [])
      | cons m ms =>
        obtain ⟨e1, e2⟩ := List.cons.inj e
        rw [spl_put h p [] ms l e2, e1]
        rfl
    · rw [spl_miss (by rw [pre1, decide_eq_false hd])] at e
      rw [List.cons_append, spl_miss (by rw [pre1, decide_eq_false hd])]
      exact spl_put h p _ ls l e
/-- what stands behind the last cut -/
theorem spl_last (s : Nat) : ∀ (p : List Nat) (ls : List (List Nat)) (l : List Nat), spl [s] 0 [] p = ls ++ [l] → (l = [] ↔ p = [] ∨ p.getLast? = some s) := by
  intro p
  rcases List.eq_nil_or_concat p with rfl | ⟨q, c, rfl⟩
  · intro ls l e
    rw [spl_nil] at e
    have e2 : [] ++ [([] : List Nat)] = ls ++ [l] := e
    obtain ⟨rfl, e3⟩ := List.append_inj' e2 rfl
    obtain rfl := (List.cons.inj e3).1
    simp
  · intro ls l e
    rw [List.concat_eq_append] at e ⊢
    by_cases h : c = s
    · subst h
      rw [spl_end] at e
      obtain ⟨_, e3⟩ := List.append_inj' e rfl
      obtain rfl := (List.cons.inj e3).1
      simp
    · obtain ⟨ms, m, em⟩ : ∃ ms m, spl [s] 0 [] q = ms ++ [m] := by
        rcases List.eq_nil_or_concat (spl [s] 0 [] q) with z | ⟨ms, m, z⟩
        · exact absurd z (spl_ne s q [])
        · exact ⟨ms, m, by rw [z, List.concat_eq_append]⟩
      rw [spl_put h q [] ms m em] at e
      obtain ⟨_, e3⟩ := List.append_inj' e rfl
      obtain rfl := (List.cons.inj e3).1
      simp [h]
def optsT (l : List Nat) : List (Option (List Int)) := if endB l = true then (linesT l).map lineNs else [none]
theorem rowsO_opts (l : List Nat) : rowsO l = allSome (optsT l) := by
  unfold rowsO optsT
  by_cases h : endB l = true
  · rw [if_pos h, if_pos h]
  · rw [if_neg h, if_neg h]
    rfl
theorem lineNs_nn {l : List Nat} {ns : List Int} (h : lineNs l = some ns) : ∀ b ∈ ns, 0 ≤ b := by
  unfold lineNs at h
  by_cases h0 : l = []
  · rw [if_pos h0] at h
    obtain rfl := Option.some.inj h
    intro b hb
    cases hb
  · rw [if_neg h0] at h
    by_cases h1 : (spl [32] 0 [] l).all writtenB = true
    · rw [if_pos h1] at h
      obtain rfl := Option.some.inj h
      intro b hb
      obtain ⟨p, _, rfl⟩ := List.mem_map.mp hb
      exact Int.natCast_nonneg _
    · rw [if_neg h1] at h
      cases h
theorem opts_nn {l : List Nat} : ∀ o ∈ optsT l, ∀ ns, o = some ns → ∀ b ∈ ns, (0 : Int) ≤ b := by
  intro o ho ns e
  unfold optsT at ho
  by_cases h : endB l = true
  · rw [if_pos h] at ho
    obtain ⟨p, _, rfl⟩ := List.mem_map.mp ho
    exact lineNs_nn e
  · rw [if_neg h] at ho
    rw [List.mem_singleton.mp ho] at e
    cases e
/-! ### a list of rows, some of which are none -/
structure RowsX (H : Hp) (p : Addr) (vs : List V) (os : List (Option (List Int))) : Prop where
  top : H p = some (.lst vs)
  len : vs.length = os.length
  non : ∀ i : Nat, os[i]? = some none → vs[i]? = some .non
  row : ∀ (i : Nat) (ns : List Int), os[i]? = some (some ns) → ∃ q, vs[i]? = some (.ref q) ∧ q ≠ p ∧ H q = some (.lst (ns.map V.int))
theorem RowsX.mono {H H' : Hp} {p : Addr} {vs : List V} {os : List (Option (List Int))} (h : RowsX H p vs os) (e : Ex H H') : RowsX H' p vs os :=
  ⟨e _ _ h.top, h.len, h.non, fun i ns hi => by obtain ⟨q, h1, h2, h3⟩ := h.row i ns hi; exact ⟨q, h1, h2, e _ _ h3⟩⟩
theorem RowsX.pushN {H : Hp} {p : Addr} {vs : List V} {os : List (Option (List Int))} (h : RowsX H p vs os) : RowsX (upd H p (.lst (vs ++ [.non]))) p (vs ++ [.non]) (os ++ [none]) := by
  refine ⟨upd_same, by simp [h.len], fun i hi => ?_, fun i ns hi => ?_⟩
  · by_cases z : i < os.length
    · rw [List.getElem?_append_left z] at hi
      have z2 : i < vs.length := by have := h.len; omega
      rw [List.getElem?_append_left z2]
      exact h.non i hi
    · have : i < (os ++ [none]).length := (List.getElem?_eq_some_iff.mp hi).1
      rw [List.length_append] at this
      have z2 : i = vs.length := by
        have h1 := h.len
        have h2 : [(none : Option (List Int))].length = 1 := rfl
        omega
      rw [z2]
      simp
  · by_cases z : i < os.length
    · rw [List.getElem?_append_left z] at hi
      have z2 : i < vs.length := by have := h.len; omega
      obtain ⟨q, h1, h2, h3⟩ := h.row i ns hi
      exact ⟨q, by rw [List.getElem?_append_left z2]; exact h1, h2, by rw [upd_ne h2]; exact h3⟩
    · rw [List.getElem?_append_right (by omega)] at hi
      have : i < (os ++ [none]).length := by
        rw [List.length_append]
        have := (List.getElem?_eq_some_iff.mp hi).1
        simp at this
        simp
        omega
      rw [List.length_append] at this
      have z2 : i - os.length = 0 := by simp at this; omega
      rw [z2] at hi
      cases hi
theorem RowsX.pushR {H : Hp} {p q : Addr} {vs : List V} {os : List (Option (List Int))} {ns : List Int} (h : RowsX H p vs os) (hq : q ≠ p) (hr : H q = some (.lst (ns.map V.int))) : RowsX (upd H p (.lst (vs ++ [.ref q]))) p (vs ++ [.ref q]) (os ++ [some ns]) := by
  refine ⟨upd_same, by simp [h.len], fun i hi => ?_, fun i ms hi => ?_⟩
  · by_cases z : i < os.length
    · rw [List.getElem?_append_left z] at hi
      have z2 : i < vs.length := by have := h.len; omega
      rw [List.getElem?_append_left z2]
      exact h.non i hi
    · rw [List.getElem?_append_right (by omega)] at hi
      have z2 : i - os.length = 0 := by
        have := (List.getElem?_eq_some_iff.mp hi).1
        simp at this
        omega
      rw [z2] at hi
      cases hi
  · by_cases z : i < os.length
    · rw [List.getElem?_append_left z] at hi
      have z2 : i < vs.length := by have := h.len; omega
      obtain ⟨q2, h1, h2, h3⟩ := h.row i ms hi
      exact ⟨q2, by rw [List.getElem?_append_left z2]; exact h1, h2, by rw [upd_ne h2]; exact h3⟩
    · rw [List.getElem?_append_right (by omega)] at hi
      have z2 : i - os.length = 0 := by
        have := (List.getElem?_eq_some_iff.mp hi).1
        simp at this
        omega
      rw [z2] at hi
      obtain rfl : ns = ms := Option.some.inj (Option.some.inj hi)
      have z3 : i = vs.length := by have := h.len; omega
      exact ⟨q, by rw [z3]; simp, hq, by rw [upd_ne hq]; exact hr⟩
/-- [te for x in xs], of each no more than P is known -/
theorem lc_some {K : PySem.W.Frag} {H : Hp} {α : Type} {σ : L2.St} {te tl : TE} {j : Nat} {vs : List Nat} {xs : List α} {enc : α → V} {P : V → Prop} (h : EvL tl σ H (xs.map enc)) (hz : xs.length ≤ 40000)
    (hw : ∀ x, wipe ((wipe σ vs).set j (some x)) vs = wipe σ vs)
    (he : ∀ (x : α) H1, x ∈ xs → Ex H H1 → ∀ Q : VK, (∀ v H2, P v → Ex H1 H2 → Q v H2) → te ((wipe σ vs).set j (some (enc x))) H1 Q)
    {Q : VK} (q : ∀ ys p H2, ys.length = xs.length → (∀ y ∈ ys, P y) → H p = none → Ex H H2 → H2 p = some (.lst ys) → Q (.ref p) H2) : tLc (iList K tl) (gName j) tYes te vs σ H Q := by
  refine h H (Ex.refl H) _ fun a H1 ha e1 h1 => ⟨a, rfl, ⟨_, sq_of h1⟩, fun D hD => ?_⟩
  refine lc_list (K := K) (a := a) (xs := xs.map enc) (fun i H' => ∃ ys : List V, ys.length = i ∧ (∀ y ∈ ys, P y) ∧ Ex H1 H' ∧ H' D = some (.lst ys)) ⟨[], rfl, (fun y hy => nomatch hy), Ex.new hD, upd_same⟩
    (fun i H' _ p => ex_l p.choose_spec.2.2.1 (sq_of h1)) (fun i x H' hi p => ?_) (fun H' p => ?_)
  · obtain ⟨ys, hl, hp, ex, hT⟩ := p
    rw [List.getElem?_map] at hi
    cases ei : xs[i]? with
    | none =>
      rw [ei] at hi
      cases hi
    | some y =>
      rw [ei] at hi
      obtain rfl : enc y = x := Option.some.inj hi
      have hil : i < xs.length := (List.getElem?_eq_some_iff.mp ei).1
      refine ⟨hw _, iteT (B := ∃ ys : List V, ys.length = i + 1 ∧ (∀ y ∈ ys, P y) ∧ Ex H1 H' ∧ H' D = some (.lst ys)) ?_⟩
      refine he y H' (List.mem_of_getElem? ei) (e1.trans ex) _ fun v H2 hv e2 => ⟨ys, e2 _ _ hT, sz_lt (by omega), ys ++ [v], by rw [List.length_append, hl]; rfl, fun z hz => ?_, Ex.mut (ex.trans e2) hD, upd_same⟩
      rcases List.mem_append.mp hz with hz | hz
      · exact hp z hz
      · rw [List.mem_singleton.mp hz]
        exact hv
  · obtain ⟨ys, hl, hp, ex, hT⟩ := p
    rw [List.length_map] at hl
    exact q ys D H' hl hp (fresh_back e1 hD) (e1.trans ex) hT
theorem cutV_map (ns : List Int) (lo hi : Option Int) : ∃ zs : List Int, cutV (ns.map V.int) lo hi = zs.map V.int ∧ zs.length ≤ ns.length ∧ ∀ z ∈ zs, z ∈ ns := by
  refine ⟨(ns.drop (HT.sIx ns.length 0 lo)).take (HT.sIx ns.length ns.length hi - HT.sIx ns.length 0 lo), ?_, ?_, fun z hz => ?_⟩
  · unfold cutV
    rw [List.length_map, List.map_take, List.map_drop]
  · rw [List.length_take, List.length_drop]
    omega
  · exact List.mem_of_mem_drop (List.mem_of_mem_take hz)
theorem strs_of {ys : List V} {k : Nat} (h : ∀ y ∈ ys, ∃ w : Str, y = .str w ∧ w.length ≤ k) : ∃ ws : List Str, ys = ws.map V.str ∧ ∀ w ∈ ws, w.length ≤ k := by
  induction ys with
  | nil => exact ⟨[], rfl, fun w hw => nomatch hw⟩
  | cons y t ih =>
    obtain ⟨ws, e, hw⟩ := ih fun z hz => h z (List.mem_cons_of_mem _ hz)
    obtain ⟨w, rfl, hwl⟩ := h y List.mem_cons_self
    refine ⟨w :: ws, by rw [e]; rfl, fun z hz => ?_⟩
    rcases List.mem_cons.mp hz with rfl | hz
    · exact hwl
    · exact hw z hz
end Cr

namespace Fk07
open PySem PySem.Spec PyProof.Rows L2 Evl Fs Xs Tx TL Cr
def topS (i : Nat) : Stmt := PySem.Challenge.pw_fairsplit_k07_texts_read.main.body.getD i (.Pass ⟨0, 0, 0, 0⟩)
/-! ### is_number -/
abbrev s_is_number : Stmt := topS 11
theorem sc_is_number : FnScope ["thing"] ["thing"] (defScope s_is_number) := ⟨rfl, rfl, rfl, by decide +kernel, rfl, by decide +kernel, by decide +kernel⟩
def sp_is_number (K : PySem.W.Frag) : Sp := spWhole
section
variable {P : Program} {w : World} {K : PySem.W.Frag} {mg : Str → Option Value} {base : Heap} {cl : Nat → Addr}
theorem ok_is_number (D : DnX K mg "is_number" s_is_number ["thing"]) (B : Bt mg) : Ok P w K mg base CX0 1 "is_number" ["thing"] (sp_is_number K) := by
  refine ok_of D sc_is_number (fun vs H Q E h => by obtain ⟨_, rfl, _⟩ := h; rfl) (fun f cdv A outer s H vs Q E hr h => ⟨_, (pss_one (ps_ret (pe_and (pe_callB (isiK (K := K)) (by rfl) B.isinstance (by decide +kernel) (pa_cons (pv 0) (pa_cons (pe_bltn (v := .ty "int") (by rfl) B.int (by decide +kernel) rfl) pa_nil))) (pe_one (pe_not (pe_callB (isiK (K := K)) (by rfl) B.isinstance (by decide +kernel) (pa_cons (pv 0) (pa_cons (pe_bltn (v := .ty "bool") (by rfl) B.bool (by decide +kernel) rfl) pa_nil)))))))), ?_⟩)
  obtain ⟨x, rfl, ha, q⟩ := h
  exact rd_whole ha q fun Q q => ⟨x, rfl, q⟩
end
/-! ### is_bid -/
abbrev s_is_bid : Stmt := topS 12
theorem sc_is_bid : FnScope ["thing"] ["thing"] (defScope s_is_bid) := ⟨rfl, rfl, rfl, by decide +kernel, rfl, by decide +kernel, by decide +kernel⟩
def sp_is_bid (K : PySem.W.Frag) : Sp := sp1 fun x H Q => Any H x ∧ Q (.bl (bidOk x)) H
section
variable {P : Program} {w : World} {K : PySem.W.Frag} {mg : Str → Option Value} {base : Heap} {cl : Nat → Addr}
theorem ok_is_bid (D : DnX K mg "is_bid" s_is_bid ["thing"]) (B : Bt mg) (c_GREATEST_BID : KInt mg "GREATEST_BID" 1000000000000) (h_is_number : Ok P w K mg base CX0 1 "is_number" ["thing"] (sp_is_number K)) : Ok P w K mg base CX0 2 "is_bid" ["thing"] (sp_is_bid K) := by
  refine ok_of D sc_is_bid (fun vs H Q E h => by obtain ⟨_, rfl, _⟩ := h; rfl) (fun f cdv A outer s H vs Q E hr h => ⟨_, (pss_one (ps_ret (pe_and (pe_ok h_is_number hr (by rfl) pass0 (pa_cons (pv 0) pa_nil)) (pe_one (pe_chain op_le op_le pe_int (pv 0) (pe_const (by rfl) c_GREATEST_BID)))))), ?_⟩)
  obtain ⟨x, rfl, ha, q⟩ := h
  refine ⟨x, rfl, x, rfl, ha, isInt x, rfl, ?_⟩
  cases x with
  | int i =>
    refine iteT ⟨_, rfl, _, _, rfl, rfl, _, rfl, ?_⟩
    by_cases h0 : 0 ≤ i
    · rw [decide_eq_true h0]
      refine iteT ⟨_, _, rfl, rfl, ?_⟩
      have e : bidOk (.int i) = decide (i ≤ 1000000000000) := by simp [bidOk, h0]
      rw [e] at q
      exact q
    · rw [decide_eq_false h0]
      refine iteF ?_
      have e : bidOk (.int i) = false := by simp [bidOk, h0]
      rw [e] at q
      exact q
  | _ => exact q
end
/-! ### check_line -/
abbrev s_check_line : Stmt := topS 13
theorem sc_check_line : FnScope ["line", "many", "bid"] ["line", "many"] (defScope s_check_line) := ⟨rfl, rfl, rfl, by decide +kernel, rfl, by decide +kernel, by decide +kernel⟩
def sp_check_line (K : PySem.W.Frag) (cl : Nat → Addr) : Sp := sp2X fun x y H Q E => ∃ (a : Addr) (r : List V) (m : Int), x = .ref a ∧ y = .int m ∧ SqL K H a r ∧ (∀ y ∈ r, Any H y) ∧ DueX cl (lineD m r) .non H Q E
section
variable {P : Program} {w : World} {K : PySem.W.Frag} {mg : Str → Option Value} {base : Heap} {cl : Nat → Addr}
theorem ok_check_line (D : DnX K mg "check_line" s_check_line ["line", "many"]) (B : Bt mg) (x_Uneven : ExC K mg "Uneven" (cl 3)) (x_BadBid : ExC K mg "BadBid" (cl 4)) (h_is_bid : Ok P w K mg base CX0 2 "is_bid" ["thing"] (sp_is_bid K)) : Ok P w K mg base (L2.CX P w) 3 "check_line" ["line", "many"] (sp_check_line K cl) := by
  refine okX_of D sc_check_line (fun vs H Q E h => by obtain ⟨_, _, rfl, _⟩ := h; rfl) (fun f cdv A outer s H vs Q E hr h => ⟨_, (pss_cons (ps_if (pt_cmpR op_ne (pe_callB (lenK (K := K)) (by rfl) B.len PySem.boot_len (pa_cons (pv 0) pa_nil)) (pv 1) (nomark _))
        (pss_one (ps_raiseX x_Uneven (takes_of rfl rfl rfl rfl)))
        pss_nil)
      (pss_one (ps_for (passes_of rfl) rfl (pi_listK (K := K) (pv 0)) (pg_name (i := 2) sc_check_line.nd rfl (Or.inl rfl))
        (pss_one (ps_if (pt_not (pt_val (pe_ok h_is_bid hr (by rfl) pass0 (pa_cons (pv 2) pa_nil))))
          (pss_one (ps_raiseX x_BadBid (takes_of rfl rfl rfl rfl)))
          pss_nil))))), ?_⟩)
  obtain ⟨x, y, rfl, a, r, m, rfl, rfl, hA, hy, q⟩ := h
  refine q_when (et_test (ev_op (ev_len (ev_var rfl) hA) (ev_var rfl) (rv_ne rfl))) (fun hb H1 e1 => ?_) fun hb H1 e1 => ?_
  · refine q.out (k := 3) ?_ (by decide) e1
    unfold lineD
    rw [if_neg fun z => ?_]
    rw [z, decide_eq_true rfl] at hb
    cases hb
  have hm : (r.length : Int) = m := by
    by_cases z : (r.length : Int) = m
    · exact z
    · rw [decide_eq_false fun h => z (V.int.inj h)] at hb
      cases hb
  have ed : lineD m r = if r.all bidOk = true then 0 else 4 := if_pos hm
  refine s_forLn (ev_var rfl) (ex_l e1 hA) (fun i σ H' => ∃ z, σ = [some (.ref a), some (.int m), z] ∧ Ex H H' ∧ ∀ (k : Nat) y, k < i → r[k]? = some y → bidOk y = true) (fun H2 e2 => ⟨none, rfl, e1.trans e2, fun k y hk => by omega⟩) (fun i σ' H' _ h => by obtain ⟨z, _, e, _⟩ := h; exact ex_l e hA) ?_ ?_
  · rintro i x σ' H' hi ⟨z, rfl, e, hall⟩
    refine s_when (et_not (et_B (ev_call (ea_cons (ev_var rfl) ea_nil) fun H2 e2 Q q E => ⟨_, rfl, (hy x (List.mem_of_getElem? hi)).mono (e.trans e2), q H2 (Ex.refl H2)⟩))) (fun hb H2 e2 => ?_) fun hb H2 e2 => ⟨_, rfl, e.trans e2, fun k y hk hk2 => ?_⟩
    · refine q.out (k := 4) ?_ (by decide) (e.trans e2)
      rw [ed, if_neg fun z => ?_]
      rw [List.all_eq_true.mp z x (List.mem_of_getElem? hi)] at hb
      cases hb
    · by_cases hki : k = i
      · subst hki
        obtain rfl : x = y := Option.some.inj (hi.symm.trans hk2)
        cases h : bidOk x with
        | true => rfl
        | false =>
          rw [h] at hb
          cases hb
      · exact hall k y (by omega) hk2
  · rintro σ' H' ⟨z, rfl, e, hall⟩
    refine q.1 ?_ H' e
    rw [ed, if_pos (List.all_eq_true.mpr fun y hy => ?_)]
    obtain ⟨k, hk⟩ := List.getElem?_of_mem hy
    exact hall k y (List.getElem?_eq_some_iff.mp hk).1 hk
end
/-! ### check_bids -/
abbrev s_check_bids : Stmt := topS 14
theorem sc_check_bids : FnScope ["bids", "many", "row"] ["bids"] (defScope s_check_bids) := ⟨rfl, rfl, rfl, by decide +kernel, rfl, by decide +kernel, by decide +kernel⟩
def sp_check_bids (K : PySem.W.Frag) (cl : Nat → Addr) : Sp := sp1X fun x H Q E => ∃ (a : Addr) (yss : List (List V)), x = .ref a ∧ LV K H a yss ∧ (∀ y ∈ yss.flatten, Any H y) ∧ DueX cl (dueB yss) .non H Q E
section
variable {P : Program} {w : World} {K : PySem.W.Frag} {mg : Str → Option Value} {base : Heap} {cl : Nat → Addr}
theorem ok_check_bids (D : DnX K mg "check_bids" s_check_bids ["bids"]) (B : Bt mg) (x_NoPeople : ExC K mg "NoPeople" (cl 1)) (x_TooMany : ExC K mg "TooMany" (cl 2)) (c_MOST_PEOPLE : KInt mg "MOST_PEOPLE" 9) (c_MOST_GOODS : KInt mg "MOST_GOODS" 40) (h_check_line : Ok P w K mg base (L2.CX P w) 3 "check_line" ["line", "many"] (sp_check_line K cl)) : Ok P w K mg base (L2.CX P w) 4 "check_bids" ["bids"] (sp_check_bids K cl) := by
  refine okX_of D sc_check_bids (fun vs H Q E h => by obtain ⟨_, rfl, _⟩ := h; rfl) (fun f cdv A outer s H vs Q E hr h => ⟨_, (pss_cons (ps_if (pt_cmpR op_eq (pe_callB (lenK (K := K)) (by rfl) B.len PySem.boot_len (pa_cons (pv 0) pa_nil)) pe_int (nomark _))
        (pss_one (ps_raiseX x_NoPeople (takes_of rfl rfl rfl rfl)))
        pss_nil)
      (pss_cons (ps_if (pt_cmpR op_gt (pe_callB (lenK (K := K)) (by rfl) B.len PySem.boot_len (pa_cons (pv 0) pa_nil)) (pe_const (by rfl) c_MOST_PEOPLE) (nomark _))
        (pss_one (ps_raiseX x_TooMany (takes_of rfl rfl rfl rfl)))
        pss_nil)
      (pss_cons (ps_set (i := 1) sc_check_bids.nd rfl (Or.inl rfl) (pe_callB (lenK (K := K)) (by rfl) B.len PySem.boot_len (pa_cons (pe_ix (ixL (K := K)) (pv 0) pe_int (fun _ _ => rfl)) pa_nil)))
      (pss_cons (ps_if (pt_cmpR op_gt (pv 1) (pe_const (by rfl) c_MOST_GOODS) (nomark _))
        (pss_one (ps_raiseX x_TooMany (takes_of rfl rfl rfl rfl)))
        pss_nil)
      (pss_one (ps_for (passes_of rfl) rfl (pi_listK (K := K) (pv 0)) (pg_name (i := 2) sc_check_bids.nd rfl (Or.inl rfl))
        (pss_one (ps_expr (pe_okS h_check_line hr (by rfl) (fun σ => passAt (takes_of rfl rfl rfl rfl) σ) (pa_cons (pv 2) (pa_cons (pv 1) pa_nil))))))))))), ?_⟩)
  obtain ⟨x, rfl, a, yss, rfl, hA, hy, q⟩ := h
  refine q_when (et_test (ev_op (ev_lenLL hA (ev_var rfl)) ev_c (rv_eq rfl))) (fun hb H1 e1 => ?_) fun hb H1 e1 => ?_
  · refine q.out (k := 1) ?_ (by decide) e1
    have := V.int.inj (of_decide_eq_true hb)
    unfold dueB
    rw [if_pos (by omega)]
  have n0 : yss.length ≠ 0 := fun z => by
    rw [z] at hb
    cases hb
  refine q_when (et_test (ev_op (ev_lenLL (hA.mono e1) (ev_var rfl)) ev_c rv_I0)) (fun hb H2 e2 => ?_) fun hb H2 e2 => ?_
  · refine q.out (k := 2) ?_ (by decide) (e1.trans e2)
    have := of_decide_eq_true hb
    unfold dueB
    rw [if_neg n0, if_pos (by omega)]
  have n9 : ¬ 9 < yss.length := by
    have := of_decide_eq_false hb
    omega
  have e12 := e1.trans e2
  obtain ⟨ps, r0, hps, hpl, hr0, hs0⟩ := (hA.mono e12).at2 (i := 0) (by omega)
  have eh : yss.getD 0 [] = yss[0] := by
    have : 0 < yss.length := by omega
    simp [List.getD_eq_getElem?_getD, this]
  refine q_asg (v := .int ((yss.getD 0 []).length : Int)) (ev_is (ev_len (ev_op (ev_var rfl) ev_c (rv_ixL hps (at_refs (i := 0) hr0))) hs0) (by rw [eh])) fun H3 e3 => ?_
  refine q_when (et_test (ev_op (ev_var rfl) ev_c rv_I0)) (fun hb H4 e4 => ?_) fun hb H4 e4 => ?_
  · refine q.out (k := 2) ?_ (by decide) ((e12.trans e3).trans e4)
    have := of_decide_eq_true hb
    unfold dueB
    rw [if_neg n0, if_neg n9, if_pos (by omega)]
  have n40 : ¬ 40 < (yss.getD 0 []).length := by
    have := of_decide_eq_false hb
    omega
  have ed : dueB yss = rowsD (yss.getD 0 []).length yss := by
    unfold dueB
    rw [if_neg n0, if_neg n9, if_neg n40]
  have e14 := (e12.trans e3).trans e4
  obtain ⟨qs, hqs, hql, hqa⟩ := hA
  refine s_forLn (ev_var rfl) (ex_l e14 hqs) (fun i σ H' => ∃ z, σ = [some (.ref a), some (.int ((yss.getD 0 []).length : Int)), z] ∧ Ex H H' ∧ ∀ (k : Nat) y, k < i → yss[k]? = some y → lineD (yss.getD 0 []).length y = 0) (fun H2 e2 => ⟨none, rfl, e14.trans e2, fun k y hk => by omega⟩) (fun i σ' H' _ h => by obtain ⟨z, _, e, _⟩ := h; exact ex_l e hqs) ?_ ?_
  · rintro i x σ' H' hi ⟨z, rfl, e, hall⟩
    rw [List.getElem?_map] at hi
    cases ei : qs[i]? with
    | none =>
      rw [ei] at hi
      cases hi
    | some p =>
      rw [ei] at hi
      obtain rfl : V.ref p = x := Option.some.inj hi
      have hil : i < yss.length := by
        have := (List.getElem?_eq_some_iff.mp ei).1
        omega
      have hyi : yss[i]? = some yss[i] := List.getElem?_eq_getElem hil
      have hs := hqa i p _ ei hyi
      refine s_dropS (ea_cons (ev_var rfl) (ea_cons (ev_var rfl) ea_nil)) fun H5 e5 => ⟨_, _, rfl, p, yss[i], _, rfl, rfl, ex_l (e.trans e5) hs, fun y hm => (hy y (List.mem_flatten.mpr ⟨_, List.getElem_mem hil, hm⟩)).mono (e.trans e5), fun h0 H6 e6 => ⟨_, rfl, (e.trans e5).trans e6, fun k y hk hk2 => ?_⟩, fun h0 H6 e6 => ?_⟩
      · by_cases hki : k = i
        · subst hki
          obtain rfl : yss[k] = y := Option.some.inj (hyi.symm.trans hk2)
          exact h0
        · exact hall k y (by omega) hk2
      · exact q.out (by rw [ed]; exact rowsD_at hyi hall h0) h0 ((e.trans e5).trans e6)
  · rintro σ' H' ⟨z, rfl, e, hall⟩
    refine q.1 ?_ H' e
    rw [ed]
    refine rowsD_zero fun y hm => ?_
    obtain ⟨k, hk⟩ := List.getElem?_of_mem hm
    refine hall k y ?_ hk
    have := (List.getElem?_eq_some_iff.mp hk).1
    rw [List.length_map]
    omega
end
/-! ### is_written -/
abbrev s_is_written : Stmt := topS 19
theorem sc_is_written : FnScope ["word"] ["word"] (defScope s_is_written) := ⟨rfl, rfl, rfl, by decide +kernel, rfl, by decide +kernel, by decide +kernel⟩
def sp_is_written (K : PySem.W.Frag) : Sp := sp1 fun x H Q => ∃ w : Str, x = .str w ∧ w.length ≤ 50000 ∧ RetV (.bl (writtenB (tl w))) H Q
theorem str_eq {x y : Str} : decide (V.str x = V.str y) = decide (tl x = tl y) := decide_eq_decide.mpr ⟨fun h => by rw [V.str.inj h], fun h => by rw [ext_tl h]⟩
section
variable {P : Program} {w : World} {K : PySem.W.Frag} {mg : Str → Option Value} {base : Heap} {cl : Nat → Addr}
theorem ok_is_written (D : DnX K mg "is_written" s_is_written ["word"]) (B : Bt mg) (c_MOST_FIGURES : KInt mg "MOST_FIGURES" 13) : Ok P w K mg base CX0 1 "is_written" ["word"] (sp_is_written K) := by
  refine ok_of D sc_is_written (fun vs H Q E h => by obtain ⟨_, rfl, _⟩ := h; rfl) (fun f cdv A outer s H vs Q E hr h => ⟨_, (pss_cons (ps_if (pt_not (PW.pt (pw_and (pt_val (pe_m0 PySem.F.slot_str_isascii PySem.F.type_str_isascii mt_isascii (pv 0))) (pw_and1 (pt_val (pe_m0 PySem.F.slot_str_isdigit PySem.F.type_str_isdigit mt_isdigit (pv 0)))))))
        (pss_one (ps_ret pe_bl))
        pss_nil)
      (pss_cons (ps_if (pt_cmpR op_gt (pe_callB call_len_str (by rfl) B.len PySem.boot_len (pa_cons (pv 0) pa_nil)) (pe_const (by rfl) c_MOST_FIGURES) (nomark _))
        (pss_one (ps_ret pe_bl))
        pss_nil)
      (pss_one (ps_ret (pe_or (pe_cmpR op_eq (pv 0) pe_str (nomark _)) (pe_one (pe_not (pe_m1 PySem.F.slot_str_startswith PySem.F.type_str_startswith mt_startswith (pv 0) pe_str)))))))), ?_⟩)
  obtain ⟨x, rfl, w, rfl, hz, q⟩ := h
  have hd := dig_txt w
  refine q_when (b := !(Txt.isascii w && Txt.isdigit w)) (et_not (et_and (et_B (ev_m0 (ev_var rfl) fun H1 Q q => ⟨w, rfl, rfl, trivial, q⟩)) fun _ => et_B (ev_m0 (ev_var rfl) fun H1 Q q => ⟨w, rfl, rfl, trivial, q⟩))) (fun h H1 e1 => ?_) fun h H1 e1 => ?_
  · refine s_ret ev_c fun H2 e2 => ?_
    have e : writtenB (tl w) = false := by
      unfold writtenB
      rw [← hd]
      cases z : (Txt.isascii w && Txt.isdigit w) with
      | false => rfl
      | true =>
        rw [z] at h
        cases h
    rw [e] at q
    exact q H2 (e1.trans e2)
  have hdig : (Txt.isascii w && Txt.isdigit w) = true := by
    cases z : (Txt.isascii w && Txt.isdigit w) with
    | true => rfl
    | false =>
      rw [z] at h
      cases h
  rw [hd] at hdig
  refine q_when (et_test (ev_op (ev_lenS (ev_var rfl) (by omega)) ev_c rv_I0)) (fun h H2 e2 => ?_) fun h H2 e2 => ?_
  · have h := of_decide_eq_true h
    rw [len_tl] at h
    refine s_ret ev_c fun H3 e3 => ?_
    have e : writtenB (tl w) = false := by
      unfold writtenB
      rw [decide_eq_false (show ¬ (tl w).length ≤ 13 by omega), Bool.and_false, Bool.false_and]
    rw [e] at q
    exact q H3 ((e1.trans e2).trans e3)
  have h := of_decide_eq_false h
  rw [len_tl] at h
  have e : writtenB (tl w) = (decide (V.str w = V.str "0") || !Txt.startswith w "0") := by
    unfold writtenB
    have e0 : Txt.startswith w "0" = decide ((tl w).head? = some 48) := starts1 w 48
    rw [hdig, decide_eq_true (show (tl w).length ≤ 13 by omega), str_eq, e0]
    rfl
  rw [e] at q
  exact s_ret (ev_orV (ev_op (ev_var rfl) ev_c (rv_eq rfl)) fun _ => ev_notV (ev_m1 (ev_var rfl) ev_c fun H1 Q q => ⟨_, _, rfl, rfl, q⟩)) fun H3 e3 => q H3 ((e1.trans e2).trans e3)
end
/-! ### numbers -/
abbrev s_numbers : Stmt := topS 18
theorem sc_numbers : FnScope ["line", "words", "word"] ["line"] (defScope s_numbers) := ⟨rfl, rfl, rfl, by decide +kernel, rfl, by decide +kernel, by decide +kernel⟩
def sp_numbers (K : PySem.W.Frag) (cl : Nat → Addr) : Sp := sp1X fun x H Q E => ∃ w : Str, x = .str w ∧ w.length ≤ 20000 ∧ (∀ ns, lineNs (tl w) = some ns → RetL (ns.map V.int) H Q) ∧ (lineNs (tl w) = none → ∀ H1, Ex H H1 → E (.ref (cl 8)) none H1)
section
variable {P : Program} {w : World} {K : PySem.W.Frag} {mg : Str → Option Value} {base : Heap} {cl : Nat → Addr}
theorem ok_numbers (D : DnX K mg "numbers" s_numbers ["line"]) (B : Bt mg) (x_NoText : ExC K mg "NoText" (cl 8)) (h_is_written : Ok P w K mg base CX0 1 "is_written" ["word"] (sp_is_written K)) : Ok P w K mg base (L2.CX P w) 2 "numbers" ["line"] (sp_numbers K cl) := by
  refine okX_of D sc_numbers (fun vs H Q E h => by obtain ⟨_, rfl, _⟩ := h; rfl) (fun f cdv A outer s H vs Q E hr h => ⟨_, (pss_cons (ps_if (pt_cmpR op_eq (pv 0) pe_str (nomark _))
        (pss_one (ps_ret (pe_lst pa_nil)))
        pss_nil)
      (pss_cons (ps_set (i := 1) sc_numbers.nd rfl (Or.inl rfl) (pe_split (pv 0) pe_str))
      (pss_cons (ps_if (pt_not (pt_val (pe_callB (allK (K := K) rfl) (by rfl) B.all (by decide +kernel) (pa_cons (pe_lc (own := [("word", 2)]) rfl sc_numbers.nd  (pi_listK (K := K) (pv 1)) (blkOk_by (own := [("word", 2)]) (N := ["line", "words", "word"]) (sc := (defScope s_numbers)) (by decide +kernel)) (fun _ _ _ _ _ => (pg_name (i := 2) sc_numbers.nd rfl (Or.inl rfl))) (fun _ _ _ _ _ => pts_nil) (fun _ _ _ _ _ => (pe_ok h_is_written hr (by rfl) pass0 (pa_cons (pv 2) pa_nil)))) pa_nil))))
        (pss_one (ps_raiseX x_NoText (takes_of rfl rfl rfl rfl)))
        pss_nil)
      (pss_one (ps_ret (pe_lc (own := [("word", 2)]) rfl sc_numbers.nd  (pi_listK (K := K) (pv 1)) (blkOk_by (own := [("word", 2)]) (N := ["line", "words", "word"]) (sc := (defScope s_numbers)) (by decide +kernel)) (fun _ _ _ _ _ => (pg_name (i := 2) sc_numbers.nd rfl (Or.inl rfl))) (fun _ _ _ _ _ => pts_nil) (fun _ _ _ _ _ => (pe_callTy call_int_str (by rfl) B.int (by decide +kernel) (pa_cons (pv 2) pa_nil))))))))), ?_⟩)
  obtain ⟨x, rfl, w, rfl, hz, q, qn⟩ := h
  unfold lineNs at q qn
  refine q_when (et_test (ev_op (ev_var rfl) ev_c (rv_eq rfl))) (fun h H1 e1 => ?_) fun h H1 e1 => ?_
  · rw [str_eq] at h
    have q := q [] (if_pos (show tl w = [] from of_decide_eq_true h))
    exact s_retL (el_lst ea_nil (by decide)) fun p H2 hp e2 h2 => q p H2 (fresh_back e1 hp) (e1.trans e2) h2
  rw [str_eq] at h
  have hw0 : ¬ tl w = [] := of_decide_eq_false h
  have hlw : (tl w).length ≤ 20000 := by rw [← len_tl]; exact hz
  refine q_set ⟨_, rfl, ⟨w, rfl⟩, w, " ", rfl, rfl, rfl, sz_of (by omega), fun a ha => ?_⟩
  have x1 := Ex.new (o := .lst ((Txt.split w " ").map V.str)) ha
  have hA : SqL K (upd H1 a (.lst ((Txt.split w " ").map V.str))) a ((Txt.split w " ").map V.str) := sq_of upd_same
  generalize upd H1 a (.lst ((Txt.split w " ").map V.str)) = H2 at x1 hA
  have hsl : (Txt.split w " ").length ≤ 20001 := by
    have := split_len (w := w) (y := " ") (.inl rfl)
    omega
  have hst := split_tl (w := w)
  have hsh : ∀ u ∈ Txt.split w " ", u.length ≤ 50000 := fun u hu => by
    have := spl_short 32 (tl w) [] (tl u) (by rw [← hst]; exact List.mem_map.mpr ⟨u, hu, rfl⟩)
    rw [len_tl]
    have : (tl u).length ≤ 0 + (tl w).length := this
    omega
  generalize Txt.split w " " = ws at hA hsl hst hsh
  rw [← hst] at q qn
  refine q_when (et_not (et_B (ev_written (fun w H1 Q hw q E => ⟨_, rfl, w, rfl, hw, q⟩) ⟨_, _, rfl⟩ hA (by omega) hsh))) (fun hb H3 e3 => ?_) fun hb H3 e3 => ?_
  · refine qn ?_ H3 ((e1.trans x1).trans e3)
    have hall : (ws.map tl).all writtenB = false := by simpa using hb
    rw [if_neg hw0, hall]
    rfl
  · have hall : (ws.map tl).all writtenB = true := by simpa using hb
    have q := q _ (by rw [if_neg hw0, if_pos hall])
    refine s_retL (el_ints ⟨_, _, rfl⟩ (ex_l e3 hA) (by omega) fun u hu => List.all_eq_true.mp hall _ (List.mem_map.mpr ⟨u, hu, rfl⟩)) fun p H4 hp e4 h4 => q p H4 (fresh_back ((e1.trans x1).trans e3) hp) (((e1.trans x1).trans e3).trans e4) h4
end
/-! ### read -/
abbrev s_read : Stmt := topS 17
theorem sc_read : FnScope ["text", "lines", "bids", "line"] ["text"] (defScope s_read) := ⟨rfl, rfl, rfl, by decide +kernel, rfl, by decide +kernel, by decide +kernel⟩
def sp_read (K : PySem.W.Frag) (cl : Nat → Addr) : Sp := sp1X fun x H Q E => ∃ w : Str, x = .str w ∧ w.length ≤ 20000 ∧
  (∀ rows, rowsO (tl w) = some rows → dueB (iv rows) = 0 → ∀ p ps H2, LNew H H2 p ps (iv rows) → Ex H H2 → Q (.ref p) H2) ∧ (dueT (tl w) ≠ 0 → ∀ H', Ex H H' → E (.ref (cl (dueT (tl w)))) none H')
section
variable {P : Program} {w : World} {K : PySem.W.Frag} {mg : Str → Option Value} {base : Heap} {cl : Nat → Addr}
theorem ok_read (D : DnX K mg "read" s_read ["text"]) (B : Bt mg) (x_NoText : ExC K mg "NoText" (cl 8)) (h_check_bids : Ok P w K mg base (L2.CX P w) 4 "check_bids" ["bids"] (sp_check_bids K cl)) (h_numbers : Ok P w K mg base (L2.CX P w) 2 "numbers" ["line"] (sp_numbers K cl)) : Ok P w K mg base (L2.CX P w) 5 "read" ["text"] (sp_read K cl) := by
  refine okX_of D sc_read (fun vs H Q E h => by obtain ⟨_, rfl, _⟩ := h; rfl) (fun f cdv A outer s H vs Q E hr h => ⟨_, (pss_cons (ps_if (PW.pt (pw_and (pt_cmpR op_ne (pv 0) pe_str (nomark _)) (pw_and1 (pt_not (pt_val (pe_m1 PySem.F.slot_str_endswith PySem.F.type_str_endswith mt_endswith (pv 0) pe_str))))))
        (pss_one (ps_raiseX x_NoText (takes_of rfl rfl rfl rfl)))
        pss_nil)
      (pss_cons (ps_set (i := 1) sc_read.nd rfl (Or.inl rfl) (pe_slice (slK (K := K)) (pe_split (pv 0) pe_str) po_none (po_some (pe_un un_neg pe_int))))
      (pss_cons (ps_setLcX (own := [("line", 3)]) (i := 2) rfl rfl (takes_of rfl rfl rfl rfl) rfl sc_read.nd rfl rfl (sw_true rfl rfl rfl (by decide +kernel))  (pi_listK (K := K) (pv 1)) (blkOk_by (own := [("line", 3)]) (N := ["text", "lines", "bids", "line"]) (sc := (defScope s_read)) (by decide +kernel)) (fun _ _ _ _ _ _ => (pg_name (i := 3) sc_read.nd rfl (Or.inl rfl))) (fun _ _ _ _ _ _ => pts_nil) (fun _ _ _ _ _ _ hx => (pe_okS h_numbers (hr.mono (by decide)) (by rfl) hx (pa_cons (pv 3) pa_nil))))
      (pss_cons (ps_expr (pe_okS h_check_bids hr (by rfl) (fun σ => passAt (takes_of rfl rfl rfl rfl) σ) (pa_cons (pv 2) pa_nil)))
      (pss_one (ps_ret (pv 2))))))), ?_⟩)
  obtain ⟨x, rfl, w, rfl, hz, q, qe⟩ := h
  have ee : (decide (tl w ≠ []) && !Txt.endswith w "\n") = !endB (tl w) := by
    have e0 : Txt.endswith w "\n" = decide ((tl w).getLast? = some 10) := ends1 w 10
    rw [e0]
    unfold endB
    by_cases h1 : tl w = []
    · simp [h1]
    · simp [h1]
  refine q_when (b := !endB (tl w)) (et_is (et_and (a := !decide (V.str w = V.str "")) (b := !Txt.endswith w "\n") (et_test (ev_op (ev_var rfl) ev_c (rv_ne rfl))) fun _ => et_not (et_B (ev_m1 (ev_var rfl) ev_c fun H1 Q q => ⟨_, _, rfl, rfl, q⟩))) (by rw [← ee, str_eq, decide_not]; rfl)) (fun h H1 e1 => ?_) fun h H1 e1 => ?_
  · have hn : rowsO (tl w) = none := by
      unfold rowsO
      rw [if_neg (by simpa using h)]
    rw [dueT_8 hn] at qe
    exact qe (by decide) H1 e1
  have he : endB (tl w) = true := by simpa using h
  have hro : rowsO (tl w) = allSome ((linesT (tl w)).map lineNs) := if_pos he
  have hlw : (tl w).length ≤ 20000 := by rw [← len_tl]; exact hz
  have hst := split_nl (w := w)
  have hsl : (Txt.split w "\n").length ≤ 20001 := by
    have := split_len (w := w) (y := "\n") (.inr rfl)
    omega
  have hsh : ∀ u ∈ Txt.split w "\n", u.length ≤ 20000 := fun u hu => by
    have := spl_short 10 (tl w) [] (tl u) (by rw [← hst]; exact List.mem_map.mpr ⟨u, hu, rfl⟩)
    rw [len_tl]
    have : (tl u).length ≤ 0 + (tl w).length := this
    omega
  refine q_asgL (xs := ((Txt.split w "\n").dropLast).map V.str) ?_ fun a H2 ha e2 hA => ?_
  · have h := el_slN (K := K) (σ := [some (.str w), none, none, none]) (H := H1) (te := tM1 (fun x xs H Q => ∃ a b, x = .str a ∧ xs = [.str b] ∧ (b.length == 0) = false ∧ a.length + 2 ≤ sizeLine ∧ rNewStrs (Txt.split a b) H Q) (tVar 0) (tC (.str "\n"))) (xs := (Txt.split w "\n").map V.str) (lo := none) (hi := some (-1)) (tlo := tNoPart) (thi := tPart (tUn (rU fun i => .int (-i)) (tC (.int 1)))) (fun H2 e2 Q q => ⟨_, rfl, ⟨w, rfl⟩, w, "\n", rfl, rfl, rfl, sz_of (by omega), fun a ha => q a _ ha (Ex.new ha) upd_same⟩) eo_none (eo_some (ev_un ev_c ru_neg))
    rw [cut_last] at h
    rw [List.map_dropLast]
    exact h
  have hlines : ((Txt.split w "\n").dropLast).map tl = linesT (tl w) := by
    rw [List.map_dropLast, hst]
    rfl
  have hsh2 : ∀ u ∈ (Txt.split w "\n").dropLast, u.length ≤ 20000 := fun u hu => hsh u ((List.dropLast_sublist _).subset hu)
  have hsl2 : ((Txt.split w "\n").dropLast).length ≤ 20001 := by
    rw [List.length_dropLast]
    omega
  generalize (Txt.split w "\n").dropLast = ls at hA hlines hsh2 hsl2
  rw [← hlines] at hro
  have eo : ∀ (i : Nat) (u : Str), ls[i]? = some u → ((ls.map tl).map lineNs)[i]? = some (lineNs (tl u)) := fun i u h => by
    rw [List.getElem?_map, List.getElem?_map, h]
    rfl
  have e12 := e1.trans e2
  refine q_asgO (xs := ls) (enc := V.str) (os := ((ls.map tl).map lineNs).map fun o => o.map fun r => r.map V.int) (ev_var rfl) (sq_of hA) (by omega) (by rw [List.length_map, List.length_map, List.length_map]) (fun _ => rfl) (fun i u y H3 hi hy e3 => ?_) (fun i u H3 hi hy e3 Q => ?_) fun ys hys bp bs H3 Lb e3 => ?_
  · rw [List.getElem?_map, eo i u hi] at hy
    refine el_callS (ea_cons (ev_var rfl) ea_nil) fun H4 e4 Q q => ⟨_, rfl, u, rfl, hsh2 u (List.mem_of_getElem? hi), fun ns hn => ?_, fun hn => ?_⟩
    · rw [hn] at hy
      obtain rfl : ns.map V.int = y := Option.some.inj (Option.some.inj hy)
      exact q
    · rw [hn] at hy
      cases hy
  · rw [List.getElem?_map, eo i u hi] at hy
    have hn : lineNs (tl u) = none := by
      cases z : lineNs (tl u) with
      | none => rfl
      | some ns =>
        rw [z] at hy
        cases hy
    have hno : rowsO (tl w) = none := by
      rw [hro]
      exact allSome_none (i := i) ((eo i u hi).trans (by rw [hn]))
    rw [dueT_8 hno] at qe
    exact g_callS (ea_cons (ev_var rfl) ea_nil) fun H4 e4 => ⟨_, rfl, u, rfl, hsh2 u (List.mem_of_getElem? hi), fun ns h => (by rw [hn] at h; cases h), fun _ H5 e5 => qe (by decide) H5 (((e12.trans e3).trans e4).trans e5)⟩
  · have hrows : ∃ rows, rowsO (tl w) = some rows ∧ ys = iv rows := by
      rw [hro]
      have : ∀ (os : List (Option (List Int))) (ys : List (List V)), (os.map fun o => o.map fun r => r.map V.int) = ys.map some → ∃ rows, allSome os = some rows ∧ ys = iv rows := by
        intro os
        induction os with
        | nil =>
          intro ys h
          cases ys with
          | nil => exact ⟨[], rfl, rfl⟩
          | cons y t => cases h
        | cons o t ih =>
          intro ys h
          cases ys with
          | nil => cases h
          | cons y u =>
            obtain ⟨h1, h2⟩ := List.cons.inj h
            cases o with
            | none => cases h1
            | some r =>
              obtain ⟨rows, e, rfl⟩ := ih u h2
              obtain rfl := Option.some.inj h1
              exact ⟨r :: rows, by show (allSome t).map (r :: ·) = _; rw [e]; rfl, rfl⟩
      exact this _ _ hys
    obtain ⟨rows, hr, rfl⟩ := hrows
    have q := q rows hr
    rw [dueT_some hr] at qe
    refine q_dropS (ea_cons (ev_var rfl) ea_nil) fun H4 e4 => ⟨_, rfl, bp, iv rows, rfl, (Lb.ext e4).lv, any_flat rows, fun h0 H5 e5 => ?_, fun h0 H5 e5 => qe h0 H5 (((e12.trans e3).trans e4).trans e5)⟩
    exact s_ret (ev_var rfl) fun H6 e6 => q h0 bp bs H6 ((((Lb.back e12).ext e4).ext e5).ext e6) ((((e12.trans e3).trans e4).trans e5).trans e6)
end
/-! ### _law_whole -/
abbrev s__law_whole : Stmt := topS 21
theorem sc__law_whole : FnScope ["_law_found"] ["_law_found"] (defScope s__law_whole) := ⟨rfl, rfl, rfl, by decide +kernel, rfl, by decide +kernel, by decide +kernel⟩
def sp__law_whole (K : PySem.W.Frag) : Sp := spWhole
section
variable {P : Program} {w : World} {K : PySem.W.Frag} {mg : Str → Option Value} {base : Heap} {cl : Nat → Addr}
theorem ok__law_whole (D : DnX K mg "_law_whole" s__law_whole ["_law_found"]) (B : Bt mg) : Ok P w K mg base CX0 1 "_law_whole" ["_law_found"] (sp__law_whole K) := by
  refine ok_of D sc__law_whole (fun vs H Q E h => by obtain ⟨_, rfl, _⟩ := h; rfl) (fun f cdv A outer s H vs Q E hr h => ⟨_, (pss_one (ps_ret (pe_and (pe_callB (isiK (K := K)) (by rfl) B.isinstance (by decide +kernel) (pa_cons (pv 0) (pa_cons (pe_bltn (v := .ty "int") (by rfl) B.int (by decide +kernel) rfl) pa_nil))) (pe_one (pe_not (pe_callB (isiK (K := K)) (by rfl) B.isinstance (by decide +kernel) (pa_cons (pv 0) (pa_cons (pe_bltn (v := .ty "bool") (by rfl) B.bool (by decide +kernel) rfl) pa_nil)))))))), ?_⟩)
  obtain ⟨x, rfl, ha, q⟩ := h
  exact rd_whole ha q fun Q q => ⟨x, rfl, q⟩
end
/-! ### _law_cell -/
abbrev s__law_cell : Stmt := topS 22
theorem sc__law_cell : FnScope ["_law_script", "_law_k"] ["_law_script", "_law_k"] (defScope s__law_cell) := ⟨rfl, rfl, rfl, by decide +kernel, rfl, by decide +kernel, by decide +kernel⟩
/-- a cell of the script -/
def cellM (ns : List Int) (k : Int) : Int :=
  if k < ns.length then ns.getD k.toNat 0 else if ns.length = 0 then k * 7919 else (ns.getD (k * 7 % ns.length).toNat 0 * 48271 + k * 7919) % 2147483647
def sp__law_cell (K : PySem.W.Frag) : Sp := sp2 fun x y H Q => ∃ (a : Addr) (ns : List Int) (k : Int), x = .ref a ∧ y = .int k ∧ SqL K H a (ns.map V.int) ∧ 0 ≤ k ∧ Q (.int (cellM ns k)) H
theorem ev_cell {K : PySem.W.Frag} {σ : L2.St} {H : Hp} {a : Addr} {ns : List Int} {tk : TE} {k : Int} (h0 : σ[0]? = some (some (.ref a))) (hS : SqL K H a (ns.map V.int)) (hk : Ev tk σ H (.int k)) (k0 : 0 ≤ k) :
    Ev (tCall (sp__law_cell K) [] E0 (tCons (tVar 0) (tCons tk tNil))) σ H (.int (cellM ns k)) :=
  ev_call (ea_cons (ev_var h0) (ea_cons hk ea_nil)) fun H1 e Q q E => ⟨_, _, rfl, a, ns, k, rfl, rfl, ex_l e hS, k0, q H1 (Ex.refl H1)⟩
section
variable {P : Program} {w : World} {K : PySem.W.Frag} {mg : Str → Option Value} {base : Heap} {cl : Nat → Addr}
theorem ok__law_cell (D : DnX K mg "_law_cell" s__law_cell ["_law_script", "_law_k"]) (B : Bt mg) : Ok P w K mg base CX0 1 "_law_cell" ["_law_script", "_law_k"] (sp__law_cell K) := by
  refine ok_of D sc__law_cell (fun vs H Q E h => by obtain ⟨_, _, rfl, _⟩ := h; rfl) (fun f cdv A outer s H vs Q E hr h => ⟨_, (pss_cons (ps_if (pt_cmpR op_lt (pv 1) (pe_callB (lenK (K := K)) (by rfl) B.len PySem.boot_len (pa_cons (pv 0) pa_nil)) (nomark _))
        (pss_one (ps_ret (pe_ix (ixL (K := K)) (pv 0) (pv 1) (fun _ _ => rfl))))
        pss_nil)
      (pss_cons (ps_if (pt_cmpR op_eq (pe_callB (lenK (K := K)) (by rfl) B.len PySem.boot_len (pa_cons (pv 0) pa_nil)) pe_int (nomark _))
        (pss_one (ps_ret (pe_op op_mul (pv 1) pe_int)))
        pss_nil)
      (pss_one (ps_ret (pe_op op_mod (pe_op op_add (pe_op op_mul (pe_ix (ixL (K := K)) (pv 0) (pe_op op_mod (pe_op op_mul (pv 1) pe_int) (pe_callB (lenK (K := K)) (by rfl) B.len PySem.boot_len (pa_cons (pv 0) pa_nil))) (fun _ _ => rfl)) pe_int) (pe_op op_mul (pv 1) pe_int)) pe_int))))), ?_⟩)
  obtain ⟨x, y, rfl, a, ns, k, rfl, rfl, hS, h0, q⟩ := h
  have el : ((ns.map V.int).length : Int) = ns.length := by rw [List.length_map]
  refine ⟨_, rfl, _, rfl, a, _, rfl, .inl hS, _, _, rfl, rfl, _, rfl, ite2 (fun h => ?_) (fun h => ?_)⟩
  · have h1 : k < ns.length := by
      have := of_decide_eq_true h
      omega
    refine ⟨_, rfl, _, rfl, a, _, _, _, rfl, rfl, hS, at_ints h0 h1, ?_⟩
    rw [cellM, if_pos h1] at q
    exact q
  · have h1 : ¬ k < ns.length := fun z => h (decide_eq_true (by omega))
    refine ⟨_, rfl, a, _, rfl, .inl hS, rfl, _, rfl, ite2 (fun h => ?_) (fun h => ?_)⟩
    · have h2 : ns.length = 0 := by
        have := V.int.inj (of_decide_eq_true h)
        omega
      refine ⟨_, rfl, _, _, rfl, rfl, mulR ⟨by decide, by decide⟩, ?_⟩
      rw [cellM, if_neg h1, if_pos h2] at q
      exact q
    · have h2 : ns.length ≠ 0 := fun z => h (decide_eq_true (by rw [el, z]; rfl))
      have hp : (0 : Int) < ns.length := by omega
      have g0 : 0 ≤ k * 7 % (ns.length : Int) := Int.emod_nonneg _ (by omega)
      have g1 : k * 7 % (ns.length : Int) < ns.length := Int.emod_lt_of_pos _ hp
      refine ⟨_, rfl, _, rfl, _, _, rfl, rfl, mulR ⟨by decide, by decide⟩, _, rfl, a, _, rfl, .inl hS, _, _, rfl, rfl, (by show (0 : Int) < ((ns.map V.int).length : Int); omega), a, _, _, _, rfl, rfl, hS, (by rw [el]; exact at_ints g0 g1), ?_⟩
      refine ⟨_, _, rfl, rfl, mulR ⟨by decide, by decide⟩, _, rfl, _, _, rfl, rfl, mulR ⟨by decide, by decide⟩, _, _, rfl, rfl, _, _, rfl, rfl, (by show (0 : Int) < 2147483647; decide), ?_⟩
      rw [cellM, if_neg h1, if_neg h2] at q
      exact q
end
/-! ### _law_draws -/
abbrev s__law_draws : Stmt := topS 23
theorem sc__law_draws : FnScope ["_law_cell_here", "_law_many", "_law_found", "_law_k"] ["_law_cell_here", "_law_many"] (defScope s__law_draws) := ⟨rfl, rfl, rfl, by decide +kernel, rfl, by decide +kernel, by decide +kernel⟩
def nextM (c : Int) : Int := (c * 48271 + 12345) % 2147483647
/-- the cell behind so many turns, and what was drawn -/
def drawnM (c : Int) : Nat → Int
  | 0 => c
  | n + 1 => nextM (drawnM c n)
def drawsM (c : Int) (n : Nat) : List Int := (List.range n).map fun i => drawnM c (i + 1) / 16
theorem drawsM_len (c : Int) (n : Nat) : (drawsM c n).length = n := by simp [drawsM]
theorem drawsM_nn (c : Int) (n : Nat) : ∀ x ∈ drawsM c n, 0 ≤ x := by
  intro x hx
  obtain ⟨i, _, rfl⟩ := List.mem_map.mp hx
  have h : 0 ≤ drawnM c (i + 1) := by
    show 0 ≤ nextM (drawnM c i)
    exact Int.emod_nonneg _ (by decide)
  omega
theorem drawsM_succ (c : Int) (n : Nat) : drawsM c (n + 1) = drawsM c n ++ [drawnM c (n + 1) / 16] := by
  simp [drawsM, List.range_succ]
def sp__law_draws (K : PySem.W.Frag) : Sp := sp2 fun x y H Q => ∃ (c : Int) (n : Nat), x = .int c ∧ y = .int n ∧ n ≤ 4000 ∧ RetL ((drawsM c n).map V.int) H Q
section
variable {P : Program} {w : World} {K : PySem.W.Frag} {mg : Str → Option Value} {base : Heap} {cl : Nat → Addr}
theorem ok__law_draws (D : DnX K mg "_law_draws" s__law_draws ["_law_cell_here", "_law_many"]) (B : Bt mg) : Ok P w K mg base CX0 1 "_law_draws" ["_law_cell_here", "_law_many"] (sp__law_draws K) := by
  refine ok_of D sc__law_draws (fun vs H Q E h => by obtain ⟨_, _, rfl, _⟩ := h; rfl) (fun f cdv A outer s H vs Q E hr h => ⟨_, (pss_cons (ps_set (i := 2) sc__law_draws.nd rfl (Or.inl rfl) (pe_lst pa_nil))
      (pss_cons (ps_for PassesOwn.never rfl (pi_range1 (by rfl) B.range (pa_cons (pv 1) pa_nil)) (pg_name (i := 3) sc__law_draws.nd rfl (Or.inl rfl))
        (pss_cons (ps_set (i := 0) sc__law_draws.nd rfl (Or.inl rfl) (pe_op op_mod (pe_op op_add (pe_op op_mul (pv 0) pe_int) pe_int) pe_int))
        (pss_one (ps_expr (pe_bm PySem.F.plainAttrs_list PySem.F.slot_list_append PySem.F.type_list_append mt_append (pv 2) (pa_cons (pe_op op_fdiv (pv 0) pe_int) pa_nil))))))
      (pss_one (ps_ret (pv 2))))), ?_⟩)
  obtain ⟨x, y, rfl, c, n, rfl, rfl, hn, q⟩ := h
  refine q_asgL (el_lst ea_nil (by decide)) fun l H1 hl e1 h1 => ?_
  refine q_forR1 (n := n) (ea_cons (ev_var rfl) ea_nil) ⟨by omega, by omega⟩ (fun i σ H' => ∃ z, σ = [some (.int (drawnM c i)), some (.int n), some (.ref l), z] ∧ Ex H H' ∧ H' l = some (.lst ((drawsM c i).map V.int))) (fun H2 e2 => ⟨none, rfl, e1.trans e2, e2 _ _ h1⟩) ?_ ?_
  · rintro i σ' H' hi ⟨z, rfl, e, hl'⟩
    refine q_asg (v := .int (drawnM c (i + 1))) (ev_op (ev_op (ev_op (ev_var rfl) ev_c (rv_I (mulR ⟨by decide, by decide⟩))) ev_c rv_I0) ev_c (rv_I (by show (0 : Int) < 2147483647; decide))) fun H2 e2 => ?_
    refine s_app (v := .int (drawnM c (i + 1) / 16)) (e2 _ _ hl') (ev_var rfl) (ev_op (ev_var rfl) ev_c (rv_I ⟨by decide, by decide⟩)) (by rw [List.length_map, drawsM_len]; omega) fun H3 e3 => ?_
    refine ⟨some (.int i), rfl, Ex.mut ((e.trans e2).trans e3) hl, ?_⟩
    rw [upd_same, drawsM_succ, List.map_append]
    rfl
  · rintro σ' H' ⟨z, rfl, e, hl'⟩
    exact s_ret (ev_var rfl) fun H2 e2 => q l H2 hl (e.trans e2) (e2 _ _ (by simpa using hl'))
end
/-! ### _law_number -/
abbrev s__law_number : Stmt := topS 24
theorem sc__law_number : FnScope ["_law_word_here", "_law_total", "_law_sign_here"] ["_law_word_here"] (defScope s__law_number) := ⟨rfl, rfl, rfl, by decide +kernel, rfl, by decide +kernel, by decide +kernel⟩
def numV (l : List Nat) : V := if writtenB l = true then .int ((NumText.digitsVal l : Nat) : Int) else .non
def sp__law_number (K : PySem.W.Frag) : Sp := sp1 fun x H Q => ∃ w : Str, x = .str w ∧ w.length ≤ 50000 ∧ RetV (numV (tl w)) H Q
section
variable {P : Program} {w : World} {K : PySem.W.Frag} {mg : Str → Option Value} {base : Heap} {cl : Nat → Addr}
theorem ok__law_number (D : DnX K mg "_law_number" s__law_number ["_law_word_here"]) (B : Bt mg) : Ok P w K mg base CX0 1 "_law_number" ["_law_word_here"] (sp__law_number K) := by
  refine ok_of D sc__law_number (fun vs H Q E h => by obtain ⟨_, rfl, _⟩ := h; rfl) (fun f cdv A outer s H vs Q E hr h => ⟨_, (pss_cons (ps_if (PW.pt (pw_or (pt_cmpR op_eq (pv 0) pe_str (nomark _)) (pw_or (pt_cmpR op_gt (pe_callB call_len_str (by rfl) B.len PySem.boot_len (pa_cons (pv 0) pa_nil)) pe_int (nomark _)) (pw_or1 (PW.pt (pw_and (pt_cmpR op_eq (pe_ix ix_str (pv 0) pe_int (fun _ _ => rfl)) pe_str (nomark _)) (pw_and1 (pt_cmpR op_gt (pe_callB call_len_str (by rfl) B.len PySem.boot_len (pa_cons (pv 0) pa_nil)) pe_int (nomark _)))))))))
        (pss_one (ps_ret pe_non))
        pss_nil)
      (pss_cons (ps_set (i := 1) sc__law_number.nd rfl (Or.inl rfl) pe_int)
      (pss_cons (ps_for PassesOwn.never rfl (pi_str (pv 0)) (pg_name (i := 2) sc__law_number.nd rfl (Or.inl rfl))
        (pss_cons (ps_if (pt_cmpR op_notIn_sign (pv 2) pe_str rfl)
          (pss_one (ps_ret pe_non))
          pss_nil)
        (pss_one (ps_set (i := 1) sc__law_number.nd rfl (Or.inl rfl) (pe_op op_add (pe_op op_mul (pv 1) pe_int) (pe_m1 PySem.F.slot_str_index PySem.F.type_str_index mt_sindex pe_str (pv 2)))))))
      (pss_one (ps_ret (pv 1)))))), ?_⟩)
  obtain ⟨x, rfl, w, rfl, hz, q⟩ := h
  have hlen : w.length = (tl w).length := len_tl w
  have no : ∀ H1, Ex H H1 → writtenB (tl w) = false → tRet (tC .non) { nx := fun _ H' => Q .non H', rt := Q } [some (.str w), none, none] H1 := fun H1 e1 hw => by
    have q : RetV .non H Q := by
      unfold numV at q
      rwa [hw] at q
    exact s_ret ev_c fun H2 e2 => q H2 (e1.trans e2)
  refine q_when (b := decide (tl w = []) || (decide (13 < (tl w).length) || (decide ((tl w).head? = some 48) && decide (1 < (tl w).length)))) (et_or (et_is (et_test (ev_op (ev_var rfl) ev_c (rv_eq rfl))) str_eq) fun h0 => et_or (et_is (et_test (ev_op (ev_lenS (ev_var rfl) (by omega)) ev_c rv_I0)) (decide_eq_decide.mpr (by rw [hlen]; omega))) fun _ => et_and (et_is (et_test (ev_op (ev_op (ev_var rfl) ev_c (rv_ixS (c := (tl w).headD 0) (by omega) ?_)) ev_c (rv_eq rfl))) ?_) fun _ => et_is (et_test (ev_op (ev_lenS (ev_var rfl) (by omega)) ev_c rv_I0)) (decide_eq_decide.mpr (by rw [hlen]; omega))) (fun h H1 e1 => ?_) fun h H1 e1 => ?_
  · cases e : tl w with
    | nil => exact absurd e (of_decide_eq_false h0)
    | cons c r =>
      exact atI_nat (j := 0) (by show (tl w)[0]? = _; rw [e]; rfl)
  · cases e : tl w with
    | nil => exact absurd e (of_decide_eq_false h0)
    | cons c r =>
      rw [str_eq]
      refine decide_eq_decide.mpr ?_
      show [c] = [48] ↔ some c = some 48
      simp
  · refine no H1 e1 ?_
    cases z : writtenB (tl w) with
    | false => rfl
    | true =>
      obtain ⟨a, b, c, d⟩ := written_iff.mp z
      simp only [Bool.or_eq_true, Bool.and_eq_true, decide_eq_true_eq] at h
      rcases h with h | h | ⟨h1, h2⟩
      · exact absurd h a
      · omega
      · rcases d with d | d
        · rw [d] at h2
          exact absurd h2 (by decide)
        · exact absurd h1 d
  simp only [Bool.or_eq_false_iff, Bool.and_eq_false_iff, decide_eq_false_iff_not] at h
  obtain ⟨h0, h13, h1⟩ := h
  refine q_asg ev_c fun H2 e2 => ?_
  refine q_forS (ev_var rfl) (fun p σ H' => ∃ zz, σ = [some (.str w), some (.int ((NumText.digitsVal p : Nat) : Int)), zz] ∧ Ex H H' ∧ ∀ c ∈ p, 48 ≤ c ∧ c ≤ 57) (fun H3 e3 => ⟨none, rfl, (e1.trans e2).trans e3, fun c hc => nomatch hc⟩) ?_ ?_
  · rintro p c r σ' H' hw ⟨zz, rfl, ex, hp⟩
    refine q_when (et_test (ev_op (ev_var rfl) ev_c rv_notS)) (fun hb H3 e3 => ?_) fun hb H3 e3 => ?_
    · have hb : ¬ (48 ≤ c ∧ c ≤ 57) := by
        rw [← digits_in]
        simpa using hb
      have q : RetV .non H Q := by
        unfold numV at q
        rw [if_neg] at q
        · exact q
        · intro z
          exact hb ((written_iff.mp z).2.2.1 c (by rw [hw]; simp))
      exact s_ret ev_c fun H4 e4 => q H4 ((ex.trans e3).trans e4)
    · have hb : 48 ≤ c ∧ c ≤ 57 := by
        rw [← digits_in]
        simpa using hb
      obtain ⟨d, rfl⟩ : ∃ d, c = 48 + d := ⟨c - 48, by omega⟩
      refine s_asg (v := .int ((NumText.digitsVal (p ++ [48 + d]) : Nat) : Int)) (ev_is (ev_op (ev_op (ev_var rfl) ev_c (rv_I (mulR (by decide)))) (ev_m1 ev_c (ev_var rfl) fun H4 Q q => ⟨_, _, d, [], rfl, rfl, digit_at d (by omega), q⟩) rv_I0) (by rw [digits_snoc]; congr 1; omega)) fun H4 e4 => ⟨_, rfl, (ex.trans e3).trans e4, fun c hc => ?_⟩
      rcases List.mem_append.mp hc with hc | hc
      · exact hp c hc
      · rw [List.mem_singleton.mp hc]
        exact hb
  · rintro σ' H' ⟨zz, rfl, ex, hp⟩
    have hw : writtenB (tl w) = true := written_iff.mpr ⟨h0, by omega, hp, by
      by_cases hh : (tl w).head? = some 48
      · refine .inl ?_
        have h1 := h1.resolve_left (fun z => z hh)
        cases e : tl w with
        | nil => exact absurd e h0
        | cons c r =>
          rw [e] at hh h1
          obtain rfl := Option.some.inj hh
          cases r with
          | nil => rfl
          | cons _ _ => exact absurd (by simp) h1
      · exact .inr hh⟩
    unfold numV at q
    rw [if_pos hw] at q
    exact s_ret (ev_var rfl) fun H3 e3 => q H3 (ex.trans e3)
end
/-! ### _law_word -/
abbrev s__law_word : Stmt := topS 25
theorem sc__law_word : FnScope ["_law_cell_here", "_law_some", "_law_odd"] ["_law_cell_here"] (defScope s__law_word) := ⟨rfl, rfl, rfl, by decide +kernel, rfl, by decide +kernel, by decide +kernel⟩
def someW : List Str := ["0", "1", "7", "10", "99", "305", "1000000000000", "999999999999", "1000000000001", "9999999999999"]
def oddW : List Str := ["00", "01", "-1", "+1", "1.0", "12345678901234", "", "a", "1_0", "0x1", "1e3", "10000000000000", "O", "l", "- 1", "1,0", "\t1", "0000000000000", "True", "1 "]
theorem shortW : (∀ w ∈ someW, w.length ≤ 14) ∧ ∀ w ∈ oddW, w.length ≤ 14 := ⟨by decide +kernel, by decide +kernel⟩
theorem at_strs {ws : List Str} {n : Nat} {k : Int} (hk : k = (n : Int)) (h : n < ws.length) : atI (ws.map V.str) k = some (.str ws[n]) := by
  subst hk
  refine atI_nat ?_
  rw [List.getElem?_map, List.getElem?_eq_getElem h]
  rfl
def sp__law_word (K : PySem.W.Frag) : Sp := sp1 fun x H Q => ∃ n : Int, x = .int n ∧ 0 ≤ n ∧ ∀ (w : Str) H2, w.length ≤ 14 → Ex H H2 → Q (.str w) H2
section
variable {P : Program} {w : World} {K : PySem.W.Frag} {mg : Str → Option Value} {base : Heap} {cl : Nat → Addr}
theorem ok__law_word (D : DnX K mg "_law_word" s__law_word ["_law_cell_here"]) (B : Bt mg) : Ok P w K mg base CX0 1 "_law_word" ["_law_cell_here"] (sp__law_word K) := by
  refine ok_of D sc__law_word (fun vs H Q E h => by obtain ⟨_, rfl, _⟩ := h; rfl) (fun f cdv A outer s H vs Q E hr h => ⟨_, (pss_cons (ps_set (i := 1) sc__law_word.nd rfl (Or.inl rfl) (pe_lst (pa_cons pe_str (pa_cons pe_str (pa_cons pe_str (pa_cons pe_str (pa_cons pe_str (pa_cons pe_str (pa_cons pe_str (pa_cons pe_str (pa_cons pe_str (pa_cons pe_str pa_nil))))))))))))
      (pss_cons (ps_set (i := 2) sc__law_word.nd rfl (Or.inl rfl) (pe_lst (pa_cons pe_str (pa_cons pe_str (pa_cons pe_str (pa_cons pe_str (pa_cons pe_str (pa_cons pe_str (pa_cons pe_str (pa_cons pe_str (pa_cons pe_str (pa_cons pe_str (pa_cons pe_str (pa_cons pe_str (pa_cons pe_str (pa_cons pe_str (pa_cons pe_str (pa_cons pe_str (pa_cons pe_str (pa_cons pe_str (pa_cons pe_str (pa_cons pe_str pa_nil))))))))))))))))))))))
      (pss_cons (ps_if (pt_cmpR op_gt (pe_op op_mod (pv 0) pe_int) pe_int (nomark _))
        (pss_one (ps_ret (pe_ix (ixL (K := K)) (pv 1) (pe_op op_mod (pe_op op_fdiv (pv 0) pe_int) pe_int) (fun _ _ => rfl))))
        pss_nil)
      (pss_cons (ps_if (pt_cmpR op_eq (pe_op op_mod (pe_op op_fdiv (pv 0) pe_int) pe_int) pe_int (nomark _))
        (pss_one (ps_ret (pe_ix (ixL (K := K)) (pv 1) (pe_op op_add pe_int (pe_op op_mod (pe_op op_fdiv (pv 0) pe_int) pe_int)) (fun _ _ => rfl))))
        pss_nil)
      (pss_one (ps_ret (pe_ix (ixL (K := K)) (pv 2) (pe_op op_mod (pe_op op_fdiv (pv 0) pe_int) pe_int) (fun _ _ => rfl)))))))), ?_⟩)
  obtain ⟨x, rfl, n, rfl, hn, q⟩ := h
  refine q_asgL (xs := someW.map V.str) (el_lst (ea_cons ev_c (ea_cons ev_c (ea_cons ev_c (ea_cons ev_c (ea_cons ev_c (ea_cons ev_c (ea_cons ev_c (ea_cons ev_c (ea_cons ev_c (ea_cons ev_c ea_nil)))))))))) (by decide)) fun a H1 ha e1 h1 => ?_
  refine q_asgL (xs := oddW.map V.str) (el_lst (ea_cons ev_c (ea_cons ev_c (ea_cons ev_c (ea_cons ev_c (ea_cons ev_c (ea_cons ev_c (ea_cons ev_c (ea_cons ev_c (ea_cons ev_c (ea_cons ev_c (ea_cons ev_c (ea_cons ev_c (ea_cons ev_c (ea_cons ev_c (ea_cons ev_c (ea_cons ev_c (ea_cons ev_c (ea_cons ev_c (ea_cons ev_c (ea_cons ev_c ea_nil)))))))))))))))))))) (by decide)) fun b H2 hb e2 h2 => ?_
  refine q_when (et_test (ev_op (ev_op (ev_var rfl) ev_c (rv_I (by show (0 : Int) < 12; decide))) ev_c rv_I0)) (fun _ H3 e3 => ?_) fun _ H3 e3 => ?_
  · obtain ⟨k, hk, hkl⟩ := mod_range (n / 12) (m := 8) (by decide)
    have hkl : k < someW.length := by show k < 10; omega
    exact s_ret (ev_op (ev_var rfl) (ev_op (ev_op (ev_var rfl) ev_c (rv_I ⟨by decide, by decide⟩)) ev_c (rv_I (by show (0 : Int) < 8; decide))) (rv_ixL (sq_of ((e2.trans e3) _ _ h1)) (at_strs hk hkl))) fun H4 e4 => q _ H4 (shortW.1 _ (List.getElem_mem hkl)) (((e1.trans e2).trans e3).trans e4)
  refine q_when (et_test (ev_op (ev_op (ev_op (ev_var rfl) ev_c (rv_I ⟨by decide, by decide⟩)) ev_c (rv_I (by show (0 : Int) < 6; decide))) ev_c (rv_eq rfl))) (fun _ H4 e4 => ?_) fun _ H4 e4 => ?_
  · obtain ⟨k, hk, hkl⟩ := mod_range (n / 72) (m := 2) (by decide)
    have hkl : 8 + k < someW.length := by show 8 + k < 10; omega
    exact s_ret (ev_op (ev_var rfl) (ev_op ev_c (ev_op (ev_op (ev_var rfl) ev_c (rv_I ⟨by decide, by decide⟩)) ev_c (rv_I (by show (0 : Int) < 2; decide))) rv_I0) (rv_ixL (sq_of (((e2.trans e3).trans e4) _ _ h1)) (at_strs (n := 8 + k) (by rw [hk]; omega) hkl))) fun H5 e5 => q _ H5 (shortW.1 _ (List.getElem_mem hkl)) ((((e1.trans e2).trans e3).trans e4).trans e5)
  · obtain ⟨k, hk, hkl⟩ := mod_range (n / 72) (m := 20) (by decide)
    have hkl : k < oddW.length := by show k < 20; omega
    exact s_ret (ev_op (ev_var rfl) (ev_op (ev_op (ev_var rfl) ev_c (rv_I ⟨by decide, by decide⟩)) ev_c (rv_I (by show (0 : Int) < 20; decide))) (rv_ixL (sq_of ((e3.trans e4) _ _ h2)) (at_strs hk hkl))) fun H5 e5 => q _ H5 (shortW.2 _ (List.getElem_mem hkl)) ((((e1.trans e2).trans e3).trans e4).trans e5)
end
/-! ### _law_sign -/
abbrev s__law_sign : Stmt := topS 26
theorem sc__law_sign : FnScope ["_law_cell_here", "_law_some"] ["_law_cell_here"] (defScope s__law_sign) := ⟨rfl, rfl, rfl, by decide +kernel, rfl, by decide +kernel, by decide +kernel⟩
def signA : Str := " !\"#$&'()*+,-./0123456789:;<=>?@ABCDEFGHIJKLMNOPQRSTUVWXYZ[\\]^_`"
def signB : Str := "abcdefghijklmnopqrstuvwxyz{|}~\t\n"
theorem signs_len : (tl (signA ++ signB)).length = 96 ∧ signA.length + signB.length ≤ 100000 := ⟨by decide +kernel, by decide +kernel⟩
def sp__law_sign (K : PySem.W.Frag) : Sp := sp1 fun x H Q => ∃ n : Int, x = .int n ∧ ∀ (c : Nat) H2, Ex H H2 → Q (.str ⟨#[c]⟩) H2
section
variable {P : Program} {w : World} {K : PySem.W.Frag} {mg : Str → Option Value} {base : Heap} {cl : Nat → Addr}
theorem ok__law_sign (D : DnX K mg "_law_sign" s__law_sign ["_law_cell_here"]) (B : Bt mg) : Ok P w K mg base CX0 1 "_law_sign" ["_law_cell_here"] (sp__law_sign K) := by
  refine ok_of D sc__law_sign (fun vs H Q E h => by obtain ⟨_, rfl, _⟩ := h; rfl) (fun f cdv A outer s H vs Q E hr h => ⟨_, (pss_cons (ps_set (i := 1) sc__law_sign.nd rfl (Or.inl rfl) pe_str)
      (pss_cons (ps_set (i := 1) sc__law_sign.nd rfl (Or.inl rfl) (pe_op op_add_str (pv 1) pe_str))
      (pss_one (ps_ret (pe_ix ix_str (pv 1) (pe_op op_mod (pv 0) pe_int) (fun _ _ => rfl)))))), ?_⟩)
  obtain ⟨x, rfl, n, rfl, q⟩ := h
  refine q_asg (v := .str signA) ev_c fun H1 e1 => ?_
  refine q_asg (v := .str (signA ++ signB)) (ev_addS (ev_var rfl) ev_c signs_len.2) fun H2 e2 => ?_
  obtain ⟨k, hk, hkl⟩ := mod_range n (m := 96) (by decide)
  have hkl : k < (tl (signA ++ signB)).length := by rw [signs_len.1]; omega
  exact s_ret (ev_op (ev_var rfl) (ev_op (ev_var rfl) ev_c (rv_I (by show (0 : Int) < 96; decide))) (rv_ixS (c := (tl (signA ++ signB))[k]) (by rw [len_tl, signs_len.1]; decide) (by rw [hk]; exact atI_nat (List.getElem?_eq_getElem hkl)))) fun H3 e3 => q _ H3 ((e1.trans e2).trans e3)
end
/-! ### _law_row -/
abbrev s__law_row : Stmt := topS 27
theorem sc__law_row : FnScope ["_law_line", "_law_row_here", "_law_word_here", "_law_sign_here", "_law_one"] ["_law_line"] (defScope s__law_row) := ⟨rfl, rfl, rfl, by decide +kernel, rfl, by decide +kernel, by decide +kernel⟩
/-- a new list, or None -/
def RetO (o : Option (List Int)) (H : Hp) (Q : VK) : Prop := (∀ ns, o = some ns → RetL (ns.map V.int) H Q) ∧ (o = none → RetV .non H Q)
def sp__law_row (K : PySem.W.Frag) : Sp := sp1 fun x H Q => ∃ w : Str, x = .str w ∧ w.length ≤ 20000 ∧ RetO (lineNs (tl w)) H Q
section
variable {P : Program} {w : World} {K : PySem.W.Frag} {mg : Str → Option Value} {base : Heap} {cl : Nat → Addr}
theorem ok__law_row (D : DnX K mg "_law_row" s__law_row ["_law_line"]) (B : Bt mg) (h__law_number : Ok P w K mg base CX0 1 "_law_number" ["_law_word_here"] (sp__law_number K)) : Ok P w K mg base CX0 2 "_law_row" ["_law_line"] (sp__law_row K) := by
  refine ok_of D sc__law_row (fun vs H Q E h => by obtain ⟨_, rfl, _⟩ := h; rfl) (fun f cdv A outer s H vs Q E hr h => ⟨_, (pss_cons (ps_set (i := 1) sc__law_row.nd rfl (Or.inl rfl) (pe_lst pa_nil))
      (pss_cons (ps_set (i := 2) sc__law_row.nd rfl (Or.inl rfl) pe_str)
      (pss_cons (ps_if (pt_cmpR op_eq (pv 0) pe_str (nomark _))
        (pss_one (ps_ret (pv 1)))
        pss_nil)
      (pss_cons (ps_for PassesOwn.never rfl (pi_str (pe_op op_add_str (pv 0) pe_str)) (pg_name (i := 3) sc__law_row.nd rfl (Or.inl rfl))
        (pss_one (ps_if (pt_cmpR op_eq (pv 3) pe_str (nomark _))
          (pss_cons (ps_set (i := 4) sc__law_row.nd rfl (Or.inl rfl) (pe_ok h__law_number hr (by rfl) pass0 (pa_cons (pv 2) pa_nil)))
          (pss_cons (ps_if (pt_cmpR op_isN (pv 4) pe_non (nomark _))
            (pss_one (ps_ret pe_non))
            pss_nil)
          (pss_cons (ps_expr (pe_bm PySem.F.plainAttrs_list PySem.F.slot_list_append PySem.F.type_list_append mt_append (pv 1) (pa_cons (pv 4) pa_nil)))
          (pss_one (ps_set (i := 2) sc__law_row.nd rfl (Or.inl rfl) pe_str)))))
          (pss_one (ps_set (i := 2) sc__law_row.nd rfl (Or.inl rfl) (pe_op op_add_str (pv 2) (pv 3)))))))
      (pss_one (ps_ret (pv 1))))))), ?_⟩)
  obtain ⟨x, rfl, w, rfl, hz, q, qn⟩ := h
  have hlen : w.length = (tl w).length := len_tl w
  refine q_asgL (el_lst ea_nil (by decide)) fun l H1 hl e1 h1 => ?_
  refine q_asg ev_c fun H2 e2 => ?_
  refine q_when (et_is (et_test (ev_op (ev_var rfl) ev_c (rv_eq rfl))) str_eq) (fun h H3 e3 => ?_) fun h H3 e3 => ?_
  · have h := of_decide_eq_true h
    exact s_ret (ev_var rfl) fun H4 e4 => q [] (if_pos h) l H4 hl (((e1.trans e2).trans e3).trans e4) (((e2.trans e3).trans e4) _ _ h1)
  have h0 : tl w ≠ [] := of_decide_eq_false h
  have hsp : tl (w ++ " " : Str) = tl w ++ [32] := by rw [tl_append]; rfl
  refine q_forS (z := w ++ " ") (ev_addS (ev_var rfl) ev_c (by show _ + 1 ≤ _; omega)) (fun p σ H' => ∃ (ls : List (List Nat)) (wd : Str) (z1 z2 : Option V), spl [32] 0 [] p = ls ++ [tl wd] ∧ (∀ u ∈ ls, writtenB u = true) ∧ (tl wd).length ≤ p.length ∧ ls.length ≤ p.length ∧
    σ = [some (.str w), some (.ref l), some (.str wd), z1, z2] ∧ Ex H H' ∧ H' l = some (.lst ((ls.map fun u => ((NumText.digitsVal u : Nat) : Int)).map V.int))) (fun H4 e4 => ⟨[], "", none, none, rfl, (fun u hu => nomatch hu), Nat.le_refl _, Nat.le_refl _, rfl, ((e1.trans e2).trans e3).trans e4, ((e2.trans e3).trans e4) _ _ h1⟩) ?_ ?_
  · rintro p c r σ' H' hp ⟨ls, wd, z1, z2, hs, hw, hl1, hl2, rfl, ex, hT⟩
    rw [hsp] at hp
    have hpl : p.length + (r.length + 1) = (tl w).length + 1 := by
      have := congrArg List.length hp
      rw [List.length_append, List.length_append, List.length_cons] at this
      exact this.symm
    refine s_if (et_is (et_test (ev_op (ev_var rfl) ev_c (rv_eq rfl))) str_eq) (fun hb H4 e4 => ?_) fun hb H4 e4 => ?_
    · have hb := of_decide_eq_true hb
      obtain rfl : c = 32 := (List.cons.inj hb).1
      refine q_asg (v := numV (tl wd)) (ev_call (ea_cons (ev_var rfl) ea_nil) fun H5 e5 Q q E => ⟨_, rfl, wd, rfl, by rw [len_tl]; omega, q⟩) fun H5 e5 => ?_
      refine q_when (et_test (ev_op (ev_var rfl) ev_c fun H6 e6 Q q => ⟨rfl, q H6 (Ex.refl _)⟩)) (fun hn H6 e6 => ?_) fun hn H6 e6 => ?_
      · have hwn : writtenB (tl wd) = false := by
          cases z : writtenB (tl wd) with
          | false => rfl
          | true =>
            unfold numV at hn
            rw [if_pos z] at hn
            cases hn
        refine s_ret ev_c fun H7 e7 => qn ?_ H7 ((((ex.trans e4).trans e5).trans e6).trans e7)
        unfold lineNs
        rw [if_neg h0, if_neg]
        intro hall
        have h2 : ls ++ [tl wd] ++ spl [32] 0 [] r = spl [32] 0 [] (tl w) ++ [[]] := by
          rw [← hs, ← spl_mid, ← hp, spl_end]
        obtain ⟨ms, m, em⟩ : ∃ ms m, spl [32] 0 [] r = ms ++ [m] := by
          rcases List.eq_nil_or_concat (spl [32] 0 [] r) with z | ⟨ms, m, z⟩
          · exact absurd z (spl_ne 32 r [])
          · exact ⟨ms, m, by rw [z, List.concat_eq_append]⟩
        rw [em, ← List.append_assoc] at h2
        obtain ⟨h3, _⟩ := List.append_inj' h2 rfl
        have := List.all_eq_true.mp hall (tl wd) (by rw [← h3]; simp)
        rw [hwn] at this
        cases this
      · have hwt : writtenB (tl wd) = true := by
          cases z : writtenB (tl wd) with
          | true => rfl
          | false =>
            unfold numV at hn
            rw [z] at hn
            cases hn
        have hnv : numV (tl wd) = .int ((NumText.digitsVal (tl wd) : Nat) : Int) := if_pos hwt
        rw [hnv]
        refine q_app ((e4.trans (e5.trans e6)) _ _ hT) (ev_var rfl) (ev_var rfl) (by rw [List.length_map, List.length_map]; omega) fun H7 e7 => ?_
        have e17 := (ex.trans e4).trans ((e5.trans e6).trans e7)
        refine s_asg ev_c fun H8 e8 => ⟨ls ++ [tl wd], "", _, _, ?_, ?_, Nat.zero_le _, ?_, rfl, (Ex.mut e17 hl).trans e8, ?_⟩
        · rw [spl_end, hs]
          rfl
        · intro u hu
          rcases List.mem_append.mp hu with hu | hu
          · exact hw u hu
          · rw [List.mem_singleton.mp hu]
            exact hwt
        · rw [List.length_append, List.length_append]
          show ls.length + 1 ≤ p.length + 1
          omega
        · refine e8 _ _ ?_
          rw [upd_same, List.map_append, List.map_append]
          rfl
    · have hb := of_decide_eq_false hb
      have hc : c ≠ 32 := fun z => hb (by rw [z]; rfl)
      refine s_asg (v := .str (wd ++ ⟨#[c]⟩)) (ev_addS (ev_var rfl) (ev_var rfl) (by rw [len_tl wd]; show _ + 1 ≤ _; omega)) fun H5 e5 => ⟨ls, _, _, _, ?_, hw, ?_, ?_, rfl, (ex.trans e4).trans e5, (e4.trans e5) _ _ hT⟩
      · rw [spl_put hc p [] ls _ hs, tl_append]
      · rw [tl_append, List.length_append, List.length_append]
        show (tl wd).length + 1 ≤ p.length + 1
        omega
      · rw [List.length_append]
        omega
  · rintro σ' H' ⟨ls, wd, z1, z2, hs, hw, hl1, hl2, rfl, ex, hT⟩
    rw [hsp, spl_end] at hs
    obtain ⟨h3, _⟩ := List.append_inj' hs rfl
    refine s_ret (ev_var rfl) fun H5 e5 => q _ ?_ l H5 hl (ex.trans e5) (e5 _ _ hT)
    unfold lineNs
    rw [if_neg h0, h3, if_pos (List.all_eq_true.mpr hw)]
end
/-! ### _law_lines -/
abbrev s__law_lines : Stmt := topS 28
theorem sc__law_lines : FnScope ["_law_text", "_law_rows", "_law_line", "_law_sign_here"] ["_law_text"] (defScope s__law_lines) := ⟨rfl, rfl, rfl, by decide +kernel, rfl, by decide +kernel, by decide +kernel⟩
def sp__law_lines (K : PySem.W.Frag) : Sp := sp1 fun x H Q => ∃ w : Str, x = .str w ∧ w.length ≤ 20000 ∧ ∀ p vs H2, RowsX H2 p vs (optsT (tl w)) → Ex H H2 → Q (.ref p) H2
section
variable {P : Program} {w : World} {K : PySem.W.Frag} {mg : Str → Option Value} {base : Heap} {cl : Nat → Addr}
theorem ok__law_lines (D : DnX K mg "_law_lines" s__law_lines ["_law_text"]) (B : Bt mg) (h__law_row : Ok P w K mg base CX0 2 "_law_row" ["_law_line"] (sp__law_row K)) : Ok P w K mg base CX0 3 "_law_lines" ["_law_text"] (sp__law_lines K) := by
  refine ok_of D sc__law_lines (fun vs H Q E h => by obtain ⟨_, rfl, _⟩ := h; rfl) (fun f cdv A outer s H vs Q E hr h => ⟨_, (pss_cons (ps_set (i := 1) sc__law_lines.nd rfl (Or.inl rfl) (pe_lst pa_nil))
      (pss_cons (ps_set (i := 2) sc__law_lines.nd rfl (Or.inl rfl) pe_str)
      (pss_cons (ps_for PassesOwn.never rfl (pi_str (pv 0)) (pg_name (i := 3) sc__law_lines.nd rfl (Or.inl rfl))
        (pss_one (ps_if (pt_cmpR op_eq (pv 3) pe_str (nomark _))
          (pss_cons (ps_expr (pe_bm PySem.F.plainAttrs_list PySem.F.slot_list_append PySem.F.type_list_append mt_append (pv 1) (pa_cons (pe_ok h__law_row hr (by rfl) pass0 (pa_cons (pv 2) pa_nil)) pa_nil)))
          (pss_one (ps_set (i := 2) sc__law_lines.nd rfl (Or.inl rfl) pe_str)))
          (pss_one (ps_set (i := 2) sc__law_lines.nd rfl (Or.inl rfl) (pe_op op_add_str (pv 2) (pv 3)))))))
      (pss_cons (ps_if (pt_cmpR op_ne (pv 2) pe_str (nomark _))
        (pss_one (ps_ret (pe_lst (pa_cons pe_non pa_nil))))
        pss_nil)
      (pss_one (ps_ret (pv 1))))))), ?_⟩)
  obtain ⟨x, rfl, w, rfl, hz, q⟩ := h
  have hlen : w.length = (tl w).length := len_tl w
  refine q_asgL (el_lst ea_nil (by decide)) fun l H1 hl e1 h1 => ?_
  refine q_asg ev_c fun H2 e2 => ?_
  refine q_forS (ev_var rfl) (fun p σ H' => ∃ (ls : List (List Nat)) (wd : Str) (vs : List V) (z1 : Option V), spl [10] 0 [] p = ls ++ [tl wd] ∧ (tl wd).length ≤ p.length ∧ ls.length ≤ p.length ∧
    σ = [some (.str w), some (.ref l), some (.str wd), z1] ∧ Ex H H' ∧ RowsX H' l vs (ls.map lineNs)) (fun H4 e4 => ⟨[], "", [], none, rfl, Nat.le_refl _, Nat.le_refl _, rfl, (e1.trans e2).trans e4, ⟨(e2.trans e4) _ _ h1, rfl, fun i hi => by simp at hi, fun i ns hi => by simp at hi⟩⟩) ?_ ?_
  · rintro p c r σ' H' hp ⟨ls, wd, vs, z1, hs, hl1, hl2, rfl, ex, R⟩
    have hpl : p.length + (r.length + 1) = (tl w).length := by
      have := congrArg List.length hp
      rw [List.length_append, List.length_cons] at this
      exact this.symm
    have hvl : vs.length = ls.length := by rw [R.len, List.length_map]
    refine s_if (et_is (et_test (ev_op (ev_var rfl) ev_c (rv_eq rfl))) str_eq) (fun hb H4 e4 => ?_) fun hb H4 e4 => ?_
    · have hb := of_decide_eq_true hb
      obtain rfl : c = 10 := (List.cons.inj hb).1
      have hsp : spl [10] 0 [] (p ++ [10]) = (ls ++ [tl wd]) ++ [tl ""] := by
        rw [spl_end, hs]
        rfl
      have hmp : (ls ++ [tl wd]).map lineNs = ls.map lineNs ++ [lineNs (tl wd)] := by rw [List.map_append]; rfl
      have hl3 : (ls ++ [tl wd]).length ≤ (p ++ [10]).length := by
        rw [List.length_append, List.length_append]
        show ls.length + 1 ≤ p.length + 1
        omega
      have e14 := ex.trans e4
      have hT := e4 _ _ R.top
      refine q_appP (P := fun v H5 => (∃ ns q, lineNs (tl wd) = some ns ∧ v = .ref q ∧ H4 q = none ∧ H5 q = some (.lst (ns.map V.int))) ∨ (lineNs (tl wd) = none ∧ v = .non)) hT (ev_var rfl) (by omega) (fun H5 e5 Q q => g_call (ea_cons (ev_var rfl) ea_nil H5 (Ex.refl _) _ fun H6 e6 => ⟨_, rfl, wd, rfl, by rw [len_tl]; omega, fun ns hn p2 H7 hp2 e7 h7 => q _ H7 ((e5.trans e6).trans e7) (.inl ⟨ns, p2, hn, rfl, fresh_back (e5.trans e6) hp2, h7⟩), fun hn H7 e7 => q _ H7 ((e5.trans e6).trans e7) (.inr ⟨hn, rfl⟩)⟩)) fun v H5 e5 hv => ?_
      have exl := Ex.mut (o := .lst (vs ++ [v])) (e14.trans e5) hl
      rcases hv with ⟨ns, q2, hn, rfl, hq2, h5⟩ | ⟨hn, rfl⟩
      · have R5 := (R.mono (e4.trans e5)).pushR (q := q2) (ns := ns) (fun z => by rw [z, hT] at hq2; cases hq2) h5
        refine s_asg ev_c fun H6 e6 => ⟨ls ++ [tl wd], "", vs ++ [.ref q2], _, hsp, Nat.zero_le _, hl3, rfl, exl.trans e6, by rw [hmp, hn]; exact R5.mono e6⟩
      · have R5 := (R.mono (e4.trans e5)).pushN
        refine s_asg ev_c fun H6 e6 => ⟨ls ++ [tl wd], "", vs ++ [.non], _, hsp, Nat.zero_le _, hl3, rfl, exl.trans e6, by rw [hmp, hn]; exact R5.mono e6⟩
    · have hb := of_decide_eq_false hb
      have hc : c ≠ 10 := fun z => hb (by rw [z]; rfl)
      refine s_asg (v := .str (wd ++ ⟨#[c]⟩)) (ev_addS (ev_var rfl) (ev_var rfl) (by rw [len_tl wd]; show _ + 1 ≤ _; omega)) fun H5 e5 => ⟨ls, _, vs, _, ?_, ?_, ?_, rfl, (ex.trans e4).trans e5, R.mono (e4.trans e5)⟩
      · rw [spl_put hc p [] ls _ hs, tl_append]
      · rw [tl_append, List.length_append, List.length_append]
        show (tl wd).length + 1 ≤ p.length + 1
        omega
      · rw [List.length_append]
        omega
  · rintro σ' H' ⟨ls, wd, vs, z1, hs, hl1, hl2, rfl, ex, R⟩
    have hlast := spl_last 10 (tl w) ls (tl wd) hs
    have hee : endB (tl w) = decide (tl wd = []) := by
      unfold endB
      rw [← Bool.decide_or]
      exact decide_eq_decide.mpr hlast.symm
    have hlt : linesT (tl w) = ls := by
      unfold linesT
      rw [hs, List.dropLast_concat]
    unfold optsT at q
    rw [hee, hlt] at q
    refine q_when (et_is (et_test (ev_op (ev_var rfl) ev_c (rv_ne rfl))) (congrArg (!·) str_eq)) (fun hb H4 e4 => ?_) fun hb H4 e4 => ?_
    · have hn : ¬ tl wd = [] := fun z => by
        rw [decide_eq_true (show tl wd = tl "" from z)] at hb
        cases hb
      rw [decide_eq_false hn, if_neg (by decide)] at q
      exact s_retL (el_lst (ea_cons ev_c ea_nil) (by decide)) fun p H5 hp e5 h5 => q p [.non] H5 ⟨h5, rfl, fun i hi => by
        cases i with
        | zero => rfl
        | succ i => simp at hi, fun i ns hi => by
        cases i with
        | zero => cases hi
        | succ i => simp at hi⟩ ((ex.trans e4).trans e5)
    · have hn : tl wd = [] := by
        by_cases z : tl wd = []
        · exact z
        · rw [decide_eq_false (show ¬ tl wd = tl "" from z)] at hb
          cases hb
      rw [decide_eq_true hn, if_pos rfl] at q
      exact s_ret (ev_var rfl) fun H5 e5 => q l vs H5 (R.mono (e4.trans e5)) ((ex.trans e4).trans e5)
end
/-! ### _law_due -/
abbrev s__law_due : Stmt := topS 29
theorem sc__law_due : FnScope ["_law_rows", "_law_row_here", "_law_one"] ["_law_rows"] (defScope s__law_due) := ⟨rfl, rfl, rfl, by decide +kernel, rfl, by decide +kernel, by decide +kernel⟩
def nameT : Nat → Str
  | 1 => "NoPeople"
  | 2 => "TooMany"
  | 3 => "Uneven"
  | 4 => "BadBid"
  | _ => "NoText"
def encO : Option (List Int) → PyData
  | none => .none
  | some ns => dI ns
theorem any_none : ∀ os : List (Option (List Int)), ((os.map encO).any fun z => PyData.eqv z .none) = decide (allSome os = none)
  | [] => rfl
  | none :: t => by
    show (PyData.eqv .none .none || _) = _
    simp [PyData.eqv, allSome]
  | some ns :: t => by
    show (PyData.eqv (dI ns) .none || ((t.map encO).any fun z => PyData.eqv z .none)) = _
    rw [any_none t]
    have e : PyData.eqv (dI ns) .none = false := by simp [PyData.eqv]
    rw [e, Bool.false_or]
    refine decide_eq_decide.mpr ?_
    show allSome t = none ↔ (allSome t).map (ns :: ·) = none
    simp
theorem dp_opts {K : PySem.W.Frag} {H : Hp} : ∀ {vs : List V} {os : List (Option (List Int))}, vs.length = os.length → (∀ i : Nat, os[i]? = some none → vs[i]? = some .non) →
    (∀ (i : Nat) (ns : List Int), os[i]? = some (some ns) → ∃ q, vs[i]? = some (.ref q) ∧ H q = some (.lst (ns.map V.int))) → DpAll K H vs (os.map encO)
  | [], [], _, _, _ => .nil
  | [], _ :: _, h, _, _ => by cases h
  | _ :: _, [], h, _, _ => by cases h
  | v :: vs, o :: os, h, h1, h2 => by
    refine .cons ?_ (dp_opts (Nat.succ.inj h) (fun i hi => h1 (i + 1) hi) fun i ns hi => h2 (i + 1) ns hi)
    cases o with
    | none =>
      obtain rfl : v = .non := Option.some.inj (h1 0 rfl)
      exact .non
    | some ns =>
      obtain ⟨q, hq, hr⟩ := h2 0 ns rfl
      obtain rfl : v = .ref q := Option.some.inj hq
      exact .lst (sq_of hr) (dpAll_ints ns)
theorem shaped_opts (os : List (Option (List Int))) : SeqAt.shaped (.list (os.map encO)) = true := by
  refine shaped_list fun d hd => ?_
  obtain ⟨o, _, rfl⟩ := List.mem_map.mp hd
  cases o with
  | none => exact ⟨by simp only [encO, PyData.canLay0], by simp [encO, PyData.depth]⟩
  | some ns => exact ⟨(encList encInt).lay ns, Nat.le_trans ((encList encInt).dep ns) (by decide)⟩
theorem rowsX_tv {H : Hp} {p : Addr} {vs : List V} {rows : List (List Int)} (h : RowsX H p vs (rows.map some)) : TV H p (iv rows) := by
  have key : ∀ {vs : List V} {rows : List (List Int)}, vs.length = rows.length → (∀ (i : Nat) (ns : List Int), rows[i]? = some ns → ∃ q, vs[i]? = some (.ref q) ∧ H q = some (.lst (ns.map V.int))) →
      ∃ ps : List Addr, vs = ps.map V.ref ∧ ps.length = rows.length ∧ ∀ (i : Nat) (q : Addr) (ns : List Int), ps[i]? = some q → rows[i]? = some ns → H q = some (.lst (ns.map V.int)) := by
    intro vs
    induction vs with
    | nil =>
      intro rows hl _
      exact ⟨[], rfl, hl, fun i q ns h => by simp at h⟩
    | cons v vs ih =>
      intro rows hl hr
      cases rows with
      | nil => cases hl
      | cons r rows =>
        obtain ⟨ps, e1, e2, e3⟩ := ih (Nat.succ.inj hl) fun i ns hi => hr (i + 1) ns hi
        obtain ⟨q, hq, hqr⟩ := hr 0 r rfl
        obtain rfl : v = .ref q := Option.some.inj hq
        refine ⟨q :: ps, by rw [e1]; rfl, by simp [e2], fun i q2 ns h4 h5 => ?_⟩
        cases i with
        | zero =>
          obtain rfl : q = q2 := Option.some.inj h4
          obtain rfl : r = ns := Option.some.inj h5
          exact hqr
        | succ i => exact e3 i q2 ns h4 h5
  obtain ⟨ps, rfl, e2, e3⟩ := key (rows := rows) (by have := h.len; rwa [List.length_map] at this) fun i ns hi => by
    obtain ⟨q, h1, _, h3⟩ := h.row i ns (by rw [List.getElem?_map, hi]; rfl)
    exact ⟨q, h1, h3⟩
  refine ⟨ps, h.top, by rw [e2]; exact (List.length_map _).symm, fun i q y h1 h2 => ?_⟩
  have h2 : (rows.map (·.map V.int))[i]? = some y := h2
  rw [List.getElem?_map] at h2
  cases e : rows[i]? with
  | none =>
    rw [e] at h2
    cases h2
  | some ns =>
    rw [e] at h2
    obtain rfl := Option.some.inj h2
    exact e3 i q ns h1 e
def sp__law_due (K : PySem.W.Frag) : Sp := sp1 fun x H Q => ∃ (p : Addr) (vs : List V) (os : List (Option (List Int))), x = .ref p ∧ RowsX H p vs os ∧ (∀ o ∈ os, ∀ ns, o = some ns → ∀ b ∈ ns, (0 : Int) ≤ b) ∧
  (allSome os = none → RetV (.str "NoText") H Q) ∧ (∀ rows, allSome os = some rows → dueB (iv rows) = 0 → RetV (.ref p) H Q) ∧ (∀ rows, allSome os = some rows → dueB (iv rows) ≠ 0 → RetV (.str (nameT (dueB (iv rows)))) H Q)
section
variable {P : Program} {w : World} {K : PySem.W.Frag} {mg : Str → Option Value} {base : Heap} {cl : Nat → Addr}
theorem ok__law_due (D : DnX K mg "_law_due" s__law_due ["_law_rows"]) (B : Bt mg) : Ok P w K mg base CX0 1 "_law_due" ["_law_rows"] (sp__law_due K) := by
  refine ok_of D sc__law_due (fun vs H Q E h => by obtain ⟨_, rfl, _⟩ := h; rfl) (fun f cdv A outer s H vs Q E hr h => ⟨_, (pss_cons (ps_if (pt_cmpR (inDK (K := K) (units65 hr)) pe_non (pv 0) rfl)
        (pss_one (ps_ret pe_str))
        pss_nil)
      (pss_cons (ps_if (pt_cmpR (eqK (K := K) hr.units) (pv 0) (pe_lst pa_nil) (nomark _))
        (pss_one (ps_ret pe_str))
        pss_nil)
      (pss_cons (ps_if (PW.pt (pw_or (pt_cmpR op_gt (pe_callB (lenK (K := K)) (by rfl) B.len PySem.boot_len (pa_cons (pv 0) pa_nil)) pe_int (nomark _)) (pw_or1 (pt_cmpR op_gt (pe_callB (lenK (K := K)) (by rfl) B.len PySem.boot_len (pa_cons (pe_ix (ixL (K := K)) (pv 0) pe_int (fun _ _ => rfl)) pa_nil)) pe_int (nomark _)))))
        (pss_one (ps_ret pe_str))
        pss_nil)
      (pss_cons (ps_for PassesOwn.never rfl (pi_listK (K := K) (pv 0)) (pg_name (i := 1) sc__law_due.nd rfl (Or.inl rfl))
        (pss_cons (ps_if (pt_cmpR op_ne (pe_callB (lenK (K := K)) (by rfl) B.len PySem.boot_len (pa_cons (pv 1) pa_nil)) (pe_callB (lenK (K := K)) (by rfl) B.len PySem.boot_len (pa_cons (pe_ix (ixL (K := K)) (pv 0) pe_int (fun _ _ => rfl)) pa_nil)) (nomark _))
          (pss_one (ps_ret pe_str))
          pss_nil)
        (pss_one (ps_for PassesOwn.never rfl (pi_listK (K := K) (pv 1)) (pg_name (i := 2) sc__law_due.nd rfl (Or.inl rfl))
          (pss_one (ps_if (pt_cmpR op_gt (pv 2) pe_int (nomark _))
            (pss_one (ps_ret pe_str))
            pss_nil))))))
      (pss_one (ps_ret (pv 0))))))), ?_⟩)
  obtain ⟨x, rfl, a, vs, os, rfl, R, hnn, q8, q0, qn⟩ := h
  refine q_when (b := decide (allSome os = none)) (et_test (ev_op ev_c (ev_var rfl) fun H1 e1 Q q => ⟨.none, os.map encO, .non, .lst (sq_of (e1 _ _ R.top)) (dp_opts R.len R.non fun i ns hi => by obtain ⟨q, h1, _, h3⟩ := R.row i ns hi; exact ⟨q, h1, e1 _ _ h3⟩), by decide +kernel, shaped_opts os, by rw [any_none]; exact q H1 (Ex.refl _)⟩)) (fun hb H1 e1 => ?_) fun hb H1 e1 => ?_
  · exact s_ret ev_c fun H2 e2 => q8 (of_decide_eq_true hb) H2 (e1.trans e2)
  obtain ⟨rows, hrows⟩ : ∃ rows, allSome os = some rows := by
    cases e : allSome os with
    | none => exact absurd e (of_decide_eq_false hb)
    | some rows => exact ⟨rows, rfl⟩
  have q0 := q0 rows hrows
  have qn := qn rows hrows
  have eos := allSome_of hrows
  rw [eos] at R hnn
  have hA0 : LV K H a (iv rows) := (rowsX_tv R).lv
  have hnn : ∀ r ∈ rows, ∀ b ∈ r, (0 : Int) ≤ b := fun r hr => hnn (some r) (List.mem_map.mpr ⟨r, hr, rfl⟩) r rfl
  clear R q8 hb
  generalize hys : iv rows = yss at q0 qn hA0
  have hll : yss.length = rows.length := by rw [← hys]; exact List.length_map _
  have hbid : ∀ (i : Nat) (j : Nat) (y : List V) (z : V), yss[i]? = some y → y[j]? = some z → ∃ b : Int, z = .int b ∧ 0 ≤ b := fun i j y z h1 h2 => by
    have h1 : (rows.map (·.map V.int))[i]? = some y := by rw [← h1, ← hys]
    rw [List.getElem?_map] at h1
    cases e : rows[i]? with
    | none =>
      rw [e] at h1
      cases h1
    | some r =>
      rw [e] at h1
      obtain rfl := Option.some.inj h1
      obtain ⟨hj, rfl⟩ := get_ints h2
      exact ⟨_, rfl, hnn r (List.mem_of_getElem? e) _ (List.getElem_mem hj)⟩
  have out : ∀ {n : Nat} {H' : Hp}, dueB yss = n → n ≠ 0 → Ex H H' → Q (.str (nameT n)) H' := fun h h0 e => by
    subst h
    exact qn h0 _ e
  have hA := hA0.mono e1
  refine q_when (et_test (ev_none (ev_var rfl) hA fun ys hm y hy => ?_)) (fun hb H2 e2 => ?_) fun hb H2 e2 => ?_
  · obtain ⟨i, hi⟩ := List.getElem?_of_mem hm
    obtain ⟨j, hj⟩ := List.getElem?_of_mem hy
    obtain ⟨b, rfl, _⟩ := hbid i j ys y hi hj
    exact itm_int b
  · refine s_ret (v := .str (nameT 1)) ev_c fun H3 e3 => out ?_ (by decide) ((e1.trans e2).trans e3)
    unfold dueB
    rw [if_pos (of_decide_eq_true hb)]
  have n0 : yss.length ≠ 0 := of_decide_eq_false hb
  have e1 := e1.trans e2
  have hA := hA0.mono e1
  obtain ⟨ps, r0, hps, hpl, hr0, hs0⟩ := hA0.at2 (i := 0) (by omega)
  have eh : yss.getD 0 [] = yss[0] := by
    have : 0 < yss.length := by omega
    simp [List.getD_eq_getElem?_getD, this]
  have len0 : ∀ {σ : L2.St} {H' : Hp}, σ[0]? = some (some (.ref a)) → Ex H H' → Ev (tCB (rLenS K) (tCons (tOp (rIxL K) (tVar 0) (tC (.int 0))) tNil)) σ H' (.int ((yss.getD 0 []).length : Int)) := fun h0 e => by
    rw [eh]
    exact ev_len (ev_op (ev_var h0) ev_c (rv_ixL (ex_l e hps) (at_refs (i := 0) hr0))) (ex_l e hs0)
  refine q_when (et_or (a := decide ((9 : Int) < (yss.length : Int))) (b := decide ((40 : Int) < ((yss.getD 0 []).length : Int))) (et_test (ev_op (ev_lenLL hA (ev_var rfl)) ev_c rv_I0)) fun _ => et_test (ev_op (len0 rfl e1) ev_c rv_I0)) (fun hb H2 e2 => ?_) fun hb H2 e2 => ?_
  · refine s_ret (v := .str (nameT 2)) ev_c fun H3 e3 => out ?_ (by decide) ((e1.trans e2).trans e3)
    rw [Bool.or_eq_true] at hb
    unfold dueB
    rw [if_neg n0]
    by_cases h9 : 9 < yss.length
    · rw [if_pos h9]
    · rw [if_neg h9]
      rcases hb with hb | hb
      · have := of_decide_eq_true hb
        omega
      · have := of_decide_eq_true hb
        rw [if_pos (by omega)]
  rw [Bool.or_eq_false_iff] at hb
  have n9 : ¬ 9 < yss.length := by
    have := of_decide_eq_false hb.1
    omega
  have n40 : ¬ 40 < (yss.getD 0 []).length := by
    have := of_decide_eq_false hb.2
    omega
  have ed : dueB yss = rowsD (yss.getD 0 []).length yss := by
    unfold dueB
    rw [if_neg n0, if_neg n9, if_neg n40]
  have e12 := e1.trans e2
  obtain ⟨qs, hqs, hql, hqa⟩ := id hA0
  refine q_forLn (ev_var rfl) (ex_l e12 hqs) (fun i σ H' => ∃ z1 z2, σ = [some (.ref a), z1, z2] ∧ Ex H H' ∧ ∀ (k : Nat) y, k < i → yss[k]? = some y → lineD (yss.getD 0 []).length y = 0) (fun H2 e2 => ⟨none, none, rfl, e12.trans e2, fun k y hk => by omega⟩) (fun i σ' H' _ h => by obtain ⟨z, z2, _, e, _⟩ := h; exact ex_l e hqs) ?_ ?_
  · rintro i x σ' H' hi ⟨z1, z2, rfl, e, hall⟩
    rw [List.getElem?_map] at hi
    cases ei : qs[i]? with
    | none =>
      rw [ei] at hi
      cases hi
    | some p =>
      rw [ei] at hi
      obtain rfl : V.ref p = x := Option.some.inj hi
      have hil : i < yss.length := by
        have := (List.getElem?_eq_some_iff.mp ei).1
        omega
      have hyi : yss[i]? = some yss[i] := List.getElem?_eq_getElem hil
      have hs := hqa i p _ ei hyi
      refine q_when (et_test (ev_op (ev_len (ev_var rfl) (ex_l e hs)) (len0 rfl e) (rv_ne rfl))) (fun hb H3 e3 => ?_) fun hb H3 e3 => ?_
      · have hd : lineD (yss.getD 0 []).length yss[i] = 3 := by
          unfold lineD
          rw [if_neg fun z => ?_]
          rw [z, decide_eq_true rfl] at hb
          cases hb
        refine s_ret (v := .str (nameT 3)) ev_c fun H4 e4 => out ?_ (by decide) ((e.trans e3).trans e4)
        rw [ed, rowsD_at hyi hall (by rw [hd]; decide), hd]
      have hm : ((yss[i].length : Nat) : Int) = ((yss.getD 0 []).length : Nat) := by
        by_cases z : ((yss[i].length : Nat) : Int) = ((yss.getD 0 []).length : Nat)
        · exact z
        · rw [decide_eq_false fun h => z (V.int.inj h)] at hb
          cases hb
      have el : lineD (yss.getD 0 []).length yss[i] = if yss[i].all bidOk = true then 0 else 4 := if_pos hm
      have e3' := e.trans e3
      refine s_forLn (ev_var rfl) (ex_l e3' hs) (fun j σ H' => ∃ z2, σ = [some (.ref a), some (.ref p), z2] ∧ Ex H H' ∧ ∀ (k : Nat) y, k < j → yss[i][k]? = some y → bidOk y = true) (fun H2 e2 => ⟨_, rfl, e3'.trans e2, fun k y hk => by omega⟩) (fun i σ' H' _ h => by obtain ⟨z, _, e, _⟩ := h; exact ex_l e hs) ?_ ?_
      · rintro j x σ' H' hj ⟨z2, rfl, e, hall2⟩
        obtain ⟨b, rfl, hb0⟩ := hbid i j _ _ hyi hj
        refine s_when (et_test (ev_op (ev_var rfl) ev_c rv_I0)) (fun hb H2 e2 => ?_) fun hb H2 e2 => ⟨_, rfl, e.trans e2, fun k y hk hk2 => ?_⟩
        · have hd : lineD (yss.getD 0 []).length yss[i] = 4 := by
            rw [el, if_neg fun z => ?_]
            have h1 : (0 : Int) ≤ b ∧ b ≤ 1000000000000 := of_decide_eq_true (List.all_eq_true.mp z _ (List.mem_of_getElem? hj))
            have := of_decide_eq_true hb
            omega
          refine s_ret (v := .str (nameT 4)) ev_c fun H4 e4 => out ?_ (by decide) ((e.trans e2).trans e4)
          rw [ed, rowsD_at hyi hall (by rw [hd]; decide), hd]
        · by_cases hki : k = j
          · subst hki
            obtain rfl : V.int b = y := Option.some.inj (hj.symm.trans hk2)
            have := of_decide_eq_false hb
            exact decide_eq_true (show (0 : Int) ≤ b ∧ b ≤ 1000000000000 by omega)
          · exact hall2 k y (by omega) hk2
      · rintro σ' H' ⟨z2, rfl, e, hall2⟩
        refine ⟨_, _, rfl, e, fun k y hk hk2 => ?_⟩
        by_cases hki : k = i
        · subst hki
          obtain rfl : yss[k] = y := Option.some.inj (hyi.symm.trans hk2)
          rw [el, if_pos (List.all_eq_true.mpr fun y hy => ?_)]
          obtain ⟨k2, hk2⟩ := List.getElem?_of_mem hy
          exact hall2 k2 y (List.getElem?_eq_some_iff.mp hk2).1 hk2
        · exact hall k y (by omega) hk2
  · rintro σ' H' ⟨z1, z2, rfl, e, hall⟩
    refine s_ret (ev_var rfl) fun H3 e3 => q0 ?_ H3 (e.trans e3)
    rw [ed]
    refine rowsD_zero fun y hm => ?_
    obtain ⟨k, hk⟩ := List.getElem?_of_mem hm
    refine hall k y ?_ hk
    have := (List.getElem?_eq_some_iff.mp hk).1
    rw [List.length_map]
    omega
end
/-! ### _law_told -/
abbrev s__law_told : Stmt := topS 30
theorem sc__law_told : FnScope ["_law_text"] ["_law_text"] (defScope s__law_told) := ⟨rfl, rfl, rfl, by decide +kernel, rfl, by decide +kernel, by decide +kernel⟩
theorem lineD_4 (m : Int) (r : List V) : lineD m r ≤ 4 := by
  unfold lineD
  split
  · split <;> decide
  · decide
theorem rowsD_4 (m : Int) : ∀ yss : List (List V), rowsD m yss ≤ 4
  | [] => Nat.zero_le _
  | r :: t => by
    unfold rowsD
    split
    · exact rowsD_4 m t
    · exact lineD_4 m r
theorem dueB_4 (yss : List (List V)) : dueB yss ≤ 4 := by
  unfold dueB
  split
  · decide
  · split
    · decide
    · split
      · decide
      · exact rowsD_4 _ _
theorem dueT_in {l : List Nat} (h : dueT l ≠ 0) : dueT l ∈ [1, 2, 3, 4, 8] := by
  have : dueT l = 8 ∨ dueT l ≤ 4 := by
    unfold dueT
    cases rowsO l with
    | none => exact .inl rfl
    | some rows => exact .inr (dueB_4 _)
  simp only [List.mem_cons, List.not_mem_nil, or_false]
  omega
theorem dueT_rows {l : List Nat} (h : dueT l = 0) : ∃ rows, rowsO l = some rows ∧ dueB (iv rows) = 0 := by
  cases e : rowsO l with
  | none =>
    rw [dueT_8 e] at h
    cases h
  | some rows => exact ⟨rows, rfl, by rw [← dueT_some e]; exact h⟩
def sp__law_told (K : PySem.W.Frag) : Sp := sp1 fun x H Q => ∃ w : Str, x = .str w ∧ w.length ≤ 20000 ∧
  (∀ rows, rowsO (tl w) = some rows → dueB (iv rows) = 0 → ∀ p ps H2, LNew H H2 p ps (iv rows) → Ex H H2 → Q (.ref p) H2) ∧ (dueT (tl w) ≠ 0 → RetV (.str (nameT (dueT (tl w)))) H Q)
section
variable {P : Program} {w : World} {K : PySem.W.Frag} {mg : Str → Option Value} {base : Heap} {cl : Nat → Addr}
theorem ok__law_told (D : DnX K mg "_law_told" s__law_told ["_law_text"]) (B : Bt mg) (x_NoPeople : ExC K mg "NoPeople" (cl 1)) (x_TooMany : ExC K mg "TooMany" (cl 2)) (x_Uneven : ExC K mg "Uneven" (cl 3)) (x_BadBid : ExC K mg "BadBid" (cl 4)) (x_NoText : ExC K mg "NoText" (cl 8)) (xm : ExM K cl [1, 2, 3, 4, 8]) (h_read : Ok P w K mg base (L2.CX P w) 5 "read" ["text"] (sp_read K cl)) : Ok P w K mg base CX0 6 "_law_told" ["_law_text"] (sp__law_told K) := by
  refine ok_of D sc__law_told (fun vs H Q E h => by obtain ⟨_, rfl, _⟩ := h; rfl) (fun f cdv A outer s H vs Q E hr h => ⟨_, (pss_one (ps_try_many rfl rfl takes0 (fun W pn xe tk po =>
        (pss_one (ps_ret (pe_okS h_read hr (by rfl) (fun σ => passAt tk σ) (pa_cons (pv 0) pa_nil)))))
        (HdsOk.cons ⟨rfl, by decide, .inl x_NoText.g⟩ (fun a oe cls d pn _ _ => (pss_one (ps_ret pe_str))) (HdsOk.cons ⟨rfl, by decide, .inl x_NoPeople.g⟩ (fun a oe cls d pn _ _ => (pss_one (ps_ret pe_str))) (HdsOk.cons ⟨rfl, by decide, .inl x_TooMany.g⟩ (fun a oe cls d pn _ _ => (pss_one (ps_ret pe_str))) (HdsOk.cons ⟨rfl, by decide, .inl x_Uneven.g⟩ (fun a oe cls d pn _ _ => (pss_one (ps_ret pe_str))) (HdsOk.cons ⟨rfl, by decide, .inl x_BadBid.g⟩ (fun a oe cls d pn _ _ => (pss_one (ps_ret pe_str))) HdsOk.nil))))))), ?_⟩)
  obtain ⟨x, rfl, w, rfl, hz, q, qe⟩ := h
  refine g_ret (g_callS (ea_cons (ev_var rfl) ea_nil) fun H1 e1 => ⟨_, rfl, w, rfl, hz, fun rows hr h0 p ps H2 L e2 => q rows hr h0 p ps H2 (L.back e1) (e1.trans e2), fun h0 H2 e2 => ?_⟩)
  have hn := dueT_in h0
  have qe := qe h0
  generalize dueT (tl w) = n at qe h0 hn
  have e12 := e1.trans e2
  refine ⟨_, xm.m n hn 8 (by decide), fun hb a ha => ?_, fun hb8 => ?_⟩
  · rw [of_decide_eq_true hb] at qe
    exact s_ret ev_c fun H3 e3 => qe H3 (e12.trans e3)
  refine ⟨_, xm.m n hn 1 (by decide), fun hb a ha => ?_, fun hb1 => ?_⟩
  · rw [of_decide_eq_true hb] at qe
    exact s_ret ev_c fun H3 e3 => qe H3 (e12.trans e3)
  refine ⟨_, xm.m n hn 2 (by decide), fun hb a ha => ?_, fun hb2 => ?_⟩
  · rw [of_decide_eq_true hb] at qe
    exact s_ret ev_c fun H3 e3 => qe H3 (e12.trans e3)
  refine ⟨_, xm.m n hn 3 (by decide), fun hb a ha => ?_, fun hb3 => ?_⟩
  · rw [of_decide_eq_true hb] at qe
    exact s_ret ev_c fun H3 e3 => qe H3 (e12.trans e3)
  refine ⟨_, xm.m n hn 4 (by decide), fun hb a ha => ?_, fun hb4 => ?_⟩
  · rw [of_decide_eq_true hb] at qe
    exact s_ret ev_c fun H3 e3 => qe H3 (e12.trans e3)
  have := of_decide_eq_false hb8
  have := of_decide_eq_false hb1
  have := of_decide_eq_false hb2
  have := of_decide_eq_false hb3
  have := of_decide_eq_false hb4
  simp only [List.mem_cons, List.not_mem_nil, or_false] at hn
  omega
end
/-! ### _law_by_base -/
abbrev s__law_by_base : Stmt := topS 31
theorem sc__law_by_base : FnScope ["_law_text", "error"] ["_law_text"] (defScope s__law_by_base) := ⟨rfl, rfl, rfl, by decide +kernel, rfl, by decide +kernel, by decide +kernel⟩
def sp__law_by_base (K : PySem.W.Frag) : Sp := sp1 fun x H Q => ∃ w : Str, x = .str w ∧ w.length ≤ 20000 ∧ RetV (.bl (!decide (dueT (tl w) = 0))) H Q
section
variable {P : Program} {w : World} {K : PySem.W.Frag} {mg : Str → Option Value} {base : Heap} {cl : Nat → Addr}
theorem ok__law_by_base (D : DnX K mg "_law_by_base" s__law_by_base ["_law_text"]) (B : Bt mg) (x_SplitError : mg "SplitError" = some (.ref (cl 0))) (xm : ExM K cl [1, 2, 3, 4, 8]) (h_read : Ok P w K mg base (L2.CX P w) 5 "read" ["text"] (sp_read K cl)) : Ok P w K mg base CX0 6 "_law_by_base" ["_law_text"] (sp__law_by_base K) := by
  refine ok_of D sc__law_by_base (fun vs H Q E h => by obtain ⟨_, rfl, _⟩ := h; rfl) (fun f cdv A outer s H vs Q E hr h => ⟨_, (pss_cons (ps_try_as (i := 1) rfl rfl sc__law_by_base.nd rfl rfl ⟨rfl, by decide, .inl x_SplitError⟩ takes0 (fun W pn xe tk po =>
        (pss_one (ps_expr (pe_okS h_read hr (by rfl) (fun σ => passAt tk σ) (pa_cons (pv 0) pa_nil))))) (fun a oe cls d pn hz hf =>
        (pss_one (ps_ret (pe_callB (isE (K := K) hz hf) (by rfl) B.isinstance (by decide +kernel) (pa_cons (pv 1) (pa_cons (pe_bltn (v := .ty "ValueError") (by rfl) B.ValueError (by decide +kernel) rfl) pa_nil)))))))
      (pss_one (ps_ret pe_bl))), ?_⟩)
  obtain ⟨x, rfl, w, rfl, hz, q⟩ := h
  refine q_dropS (ea_cons (ev_var rfl) ea_nil) fun H1 e1 => ⟨_, rfl, w, rfl, hz, fun rows hr h0 p ps H2 L e2 => ?_, fun h0 H2 e2 => ?_⟩
  · rw [decide_eq_true (show dueT (tl w) = 0 by rw [dueT_some hr]; exact h0)] at q
    exact s_ret ev_c fun H3 e3 => q H3 ((e1.trans e2).trans e3)
  have hn := dueT_in h0
  rw [decide_eq_false h0] at q
  generalize dueT (tl w) = n at h0 hn
  refine ⟨true, xm.b n hn, fun _ a ha => ?_, fun h => nomatch h⟩
  refine g_ret (g_cb ?_)
  exact ⟨.ref a, rfl, cl n, rfl, rfl, xm.c n hn, .ty "ValueError", _, true, rfl, fun u hu => by cases hu; rfl, xm.v n hn, q H2 (e1.trans e2)⟩
end
/-! ### _law_kinds -/
abbrev s__law_kinds : Stmt := topS 32
theorem sc__law_kinds : FnScope ["_law_found", "_law_row_here", "_law_one"] ["_law_found"] (defScope s__law_kinds) := ⟨rfl, rfl, rfl, by decide +kernel, rfl, by decide +kernel, by decide +kernel⟩
theorem ev_isA {σ : L2.St} {K : PySem.W.Frag} {H : Hp} {te : TE} {z : Str} {n : String} {b : Bool} (h : Ev te σ H (.str z)) (hk : kitB "str" n = some b) : Ev (tCB (rIsi K) (tCons te (tCons (tC (.ty n)) tNil))) σ H (.bl b) :=
  ev_cb (ea_cons h (ea_cons ev_c ea_nil)) fun H1 e Q q => ⟨_, _, _, _, b, rfl, .ty _, .base (.str z), kit_ty hk, q H1 (Ex.refl H1)⟩
def sp__law_kinds (K : PySem.W.Frag) : Sp := sp1 fun x H Q => ((∃ w : Str, x = .str w) ∨ ∃ (p : Addr) (rows : List (List Int)), x = .ref p ∧ TV H p (iv rows)) ∧ RetV (.bl true) H Q
section
variable {P : Program} {w : World} {K : PySem.W.Frag} {mg : Str → Option Value} {base : Heap} {cl : Nat → Addr}
theorem ok__law_kinds (D : DnX K mg "_law_kinds" s__law_kinds ["_law_found"]) (B : Bt mg) (h__law_whole : Ok P w K mg base CX0 1 "_law_whole" ["_law_found"] (sp__law_whole K)) : Ok P w K mg base CX0 2 "_law_kinds" ["_law_found"] (sp__law_kinds K) := by
  refine ok_of D sc__law_kinds (fun vs H Q E h => by obtain ⟨_, rfl, _⟩ := h; rfl) (fun f cdv A outer s H vs Q E hr h => ⟨_, (pss_cons (ps_if (pt_not (pt_val (pe_callB (isiK (K := K)) (by rfl) B.isinstance (by decide +kernel) (pa_cons (pv 0) (pa_cons (pe_bltn (v := .ty "list") (by rfl) B.list (by decide +kernel) rfl) pa_nil)))))
        (pss_one (ps_ret (pe_callB (isiK (K := K)) (by rfl) B.isinstance (by decide +kernel) (pa_cons (pv 0) (pa_cons (pe_bltn (v := .ty "str") (by rfl) B.str (by decide +kernel) rfl) pa_nil)))))
        pss_nil)
      (pss_cons (ps_for PassesOwn.never rfl (pi_listK (K := K) (pv 0)) (pg_name (i := 1) sc__law_kinds.nd rfl (Or.inl rfl))
        (pss_cons (ps_if (pt_not (pt_val (pe_callB (isiK (K := K)) (by rfl) B.isinstance (by decide +kernel) (pa_cons (pv 1) (pa_cons (pe_bltn (v := .ty "list") (by rfl) B.list (by decide +kernel) rfl) pa_nil)))))
          (pss_one (ps_ret pe_bl))
          pss_nil)
        (pss_one (ps_for PassesOwn.never rfl (pi_listK (K := K) (pv 1)) (pg_name (i := 2) sc__law_kinds.nd rfl (Or.inl rfl))
          (pss_one (ps_if (pt_not (pt_val (pe_ok h__law_whole hr (by rfl) pass0 (pa_cons (pv 2) pa_nil))))
            (pss_one (ps_ret pe_bl))
            pss_nil))))))
      (pss_one (ps_ret pe_bl)))), ?_⟩)
  obtain ⟨x, rfl, hx, q⟩ := h
  rcases hx with ⟨w, rfl⟩ | ⟨p, rows, rfl, hA⟩
  · refine q_when (b := true) (et_not (a := false) (et_B (ev_isA (ev_var rfl) (by decide +kernel)))) (fun _ H1 e1 => ?_) fun h => nomatch h
    exact s_ret (ev_isA (ev_var rfl) (by decide +kernel)) fun H2 e2 => q H2 (e1.trans e2)
  obtain ⟨ps, h1, h2, h3⟩ := id hA
  refine q_when (b := false) (et_not (a := true) (et_B (ev_isList (ev_var rfl) h1))) (fun h => nomatch h) fun _ H1 e1 => ?_
  refine q_forLn (ev_var rfl) (sq_of (e1 _ _ h1)) (fun i σ H' => ∃ z1 z2, σ = [some (.ref p), z1, z2] ∧ Ex H H') (fun H2 e2 => ⟨none, none, rfl, e1.trans e2⟩) (fun i σ' H' _ h => by obtain ⟨z1, z2, _, e⟩ := h; exact sq_of (e _ _ h1)) ?_ ?_
  · rintro i x σ' H' hi ⟨z1, z2, rfl, e⟩
    rw [List.getElem?_map] at hi
    cases ei : ps[i]? with
    | none =>
      rw [ei] at hi
      cases hi
    | some r =>
      rw [ei] at hi
      obtain rfl : V.ref r = x := Option.some.inj hi
      have hil : i < (iv rows).length := by
        have := (List.getElem?_eq_some_iff.mp ei).1
        omega
      have hr := h3 i r _ ei (List.getElem?_eq_getElem hil)
      have hint : ∃ ns : List Int, (iv rows)[i] = ns.map V.int := by
        have hil2 : i < rows.length := by rw [List.length_map] at hil; exact hil
        exact ⟨rows[i], by simp [iv]⟩
      obtain ⟨ns, hns⟩ := hint
      rw [hns] at hr
      refine q_when (b := false) (et_not (a := true) (et_B (ev_isList (ev_var rfl) (e _ _ hr)))) (fun h => nomatch h) fun _ H2 e2 => ?_
      have e2 := e.trans e2
      refine s_forLn (ev_var rfl) (sq_of (e2 _ _ hr)) (fun j σ H' => ∃ z2, σ = [some (.ref p), some (.ref r), z2] ∧ Ex H H') (fun H3 e3 => ⟨_, rfl, e2.trans e3⟩) (fun j σ' H' _ h => by obtain ⟨z2, _, e⟩ := h; exact sq_of (e _ _ hr)) ?_ ?_
      · rintro j x σ' H' hj ⟨z2, rfl, e⟩
        obtain ⟨hj2, rfl⟩ := get_ints hj
        exact s_when (b := false) (et_not (a := true) (et_B (ev_call (ea_cons (ev_var rfl) ea_nil) fun H4 e4 Q q E => ⟨_, rfl, .int _, q H4 (Ex.refl _)⟩))) (fun h => nomatch h) fun _ H4 e4 => ⟨_, rfl, e.trans e4⟩
      · rintro σ' H' ⟨z2, rfl, e⟩
        exact ⟨_, _, rfl, e⟩
  · rintro σ' H' ⟨z1, z2, rfl, e⟩
    exact s_ret ev_c fun H2 e2 => q H2 (e.trans e2)
end
/-! ### law -/
abbrev s_law : Stmt := topS 33
theorem sc_law : FnScope ["_law_script", "_law_goods", "_law_text", "_law_k", "_law_found", "_law_due_here", "_law_draws_here", "_law_many", "_law_words", "_law_place", "_law_one"] ["_law_script"] (defScope s_law) := ⟨rfl, rfl, rfl, by decide +kernel, rfl, by decide +kernel, by decide +kernel⟩
theorem join_len {ws : List Str} {k : Nat} (h : ∀ w ∈ ws, w.length ≤ k) : (Txt.join " " ws).length ≤ ws.length * (k + 1) := by
  rw [len_tl, join_eq, tl_join]
  have := joinL_len 32 (k := k) (ws.map tl) fun p hp => by
    obtain ⟨w, hw, rfl⟩ := List.mem_map.mp hp
    rw [← len_tl]
    exact h w hw
  rw [List.length_map] at this
  exact this
theorem ev_joinV {K : PySem.W.Frag} {σ : L2.St} {H : Hp} {te : TE} {a : Str} {p : Addr} {ys : List Str} (h : Ev te σ H (.ref p)) (hp : SqL K H p (ys.map V.str)) (hz : (ys.map (·.length)).sum + ys.length * a.length ≤ 16777216) : Ev (tM1 (rJoin K) (tC (.str a)) te) σ H (.str (Txt.join a ys)) := fun H1 e Q q =>
  ⟨⟨a, rfl⟩, h H1 e _ fun H2 e2 => ⟨a, p, ys, rfl, rfl, .inl (ex_l (e.trans e2) hp), hz, q H2 e2⟩⟩
theorem ev_int1 {σ : L2.St} {H : Hp} {te : TE} {b : Bool} (h : Ev te σ H (.bl b)) : Ev (tCB (fun xs H Q => (∃ i, xs = [.int i] ∧ Q (.int i) H) ∨ ∃ k, xs = [.bl k] ∧ Q (.int (if k then 1 else 0)) H) (tCons te tNil)) σ H (.int (if b then 1 else 0)) :=
  ev_cb (ea_cons h ea_nil) fun H1 e Q q => .inr ⟨b, rfl, q H1 (Ex.refl H1)⟩
theorem nameT_ok (n : Nat) : PyData.strOk (nameT n) = true := by
  unfold nameT
  split <;> decide +kernel
def sp_law (K : PySem.W.Frag) : Sp := sp1 fun x H Q => ∃ (a : Addr) (ns : List Int), x = .ref a ∧ SqL K H a (ns.map V.int) ∧ ∀ H', Q (.bl true) H'
theorem law_start {K : PySem.W.Frag} {H : Hp} {a : Addr} {ns : List Int} (hl : ns.length ≤ 63) (hS : SqL K H a (ns.map V.int)) : sp_law K [.ref a] H (fun v _ => v = .bl true) (fun _ _ _ => False) := ⟨.ref a, rfl, a, ns, rfl, hS, fun _ => rfl⟩
section
variable {P : Program} {w : World} {K : PySem.W.Frag} {mg : Str → Option Value} {base : Heap} {cl : Nat → Addr}
theorem ok_law (D : DnX K mg "law" s_law ["_law_script"]) (B : Bt mg) (h__law_told : Ok P w K mg base CX0 6 "_law_told" ["_law_text"] (sp__law_told K)) (h__law_due : Ok P w K mg base CX0 1 "_law_due" ["_law_rows"] (sp__law_due K)) (h__law_cell : Ok P w K mg base CX0 1 "_law_cell" ["_law_script", "_law_k"] (sp__law_cell K)) (h__law_draws : Ok P w K mg base CX0 1 "_law_draws" ["_law_cell_here", "_law_many"] (sp__law_draws K)) (h__law_lines : Ok P w K mg base CX0 3 "_law_lines" ["_law_text"] (sp__law_lines K)) (h__law_kinds : Ok P w K mg base CX0 2 "_law_kinds" ["_law_found"] (sp__law_kinds K)) (h__law_word : Ok P w K mg base CX0 1 "_law_word" ["_law_cell_here"] (sp__law_word K)) (h__law_by_base : Ok P w K mg base CX0 6 "_law_by_base" ["_law_text"] (sp__law_by_base K)) (h__law_sign : Ok P w K mg base CX0 1 "_law_sign" ["_law_cell_here"] (sp__law_sign K)) : Ok P w K mg base CX0 7 "law" ["_law_script"] (sp_law K) := by
  refine ok_of D sc_law (fun vs H Q E h => by obtain ⟨_, rfl, _⟩ := h; rfl) (fun f cdv A outer s H vs Q E hr h => ⟨_, (pss_cons (ps_set (i := 1) sc_law.nd rfl (Or.inl rfl) (pe_op op_mod (pe_ok h__law_cell (hr.mono (by decide)) (by rfl) pass0 (pa_cons (pv 0) (pa_cons pe_int pa_nil))) pe_int))
      (pss_cut (ps_if (pt_cmpR op_eq (pe_op op_mod (pe_op op_fdiv (pe_ok h__law_cell (hr.mono (by decide)) (by rfl) pass0 (pa_cons (pv 0) (pa_cons pe_int pa_nil))) pe_int) pe_int) pe_int (nomark _))
        (pss_one (ps_set (i := 1) sc_law.nd rfl (Or.inl rfl) (pe_op op_add pe_int (pe_op op_mod (pe_op op_fdiv (pe_ok h__law_cell (hr.mono (by decide)) (by rfl) pass0 (pa_cons (pv 0) (pa_cons pe_int pa_nil))) pe_int) pe_int))))
        pss_nil)
      (pss_cons (ps_set (i := 2) sc_law.nd rfl (Or.inl rfl) pe_str)
      (pss_cons (ps_for PassesOwn.never rfl (pi_range1 (by rfl) B.range (pa_cons (pe_op op_mod (pe_ok h__law_cell (hr.mono (by decide)) (by rfl) pass0 (pa_cons (pv 0) (pa_cons pe_int pa_nil))) pe_int) pa_nil)) (pg_name (i := 3) sc_law.nd rfl (Or.inl rfl))
        (pss_cons (ps_set (i := 6) sc_law.nd rfl (Or.inl rfl) (pe_ok h__law_draws (hr.mono (by decide)) (by rfl) pass0 (pa_cons (pe_ok h__law_cell (hr.mono (by decide)) (by rfl) pass0 (pa_cons (pv 0) (pa_cons (pe_op op_add pe_int (pv 3)) pa_nil))) (pa_cons (pe_op op_add (pv 1) pe_int) pa_nil))))
        (pss_cons (ps_set (i := 7) sc_law.nd rfl (Or.inl rfl) (pe_op op_sub (pe_op op_add (pv 1) (pe_callTy call_int1 (by rfl) B.int (by decide +kernel) (pa_cons (pe_cmpR op_eq (pe_op op_mod (pe_ix (ixL (K := K)) (pv 6) pe_int (fun _ _ => rfl)) pe_int) pe_int (nomark _)) pa_nil))) (pe_callTy call_int1 (by rfl) B.int (by decide +kernel) (pa_cons (pe_and (pe_cmpR op_eq (pe_op op_mod (pe_ix (ixL (K := K)) (pv 6) pe_int (fun _ _ => rfl)) pe_int) pe_int (nomark _)) (pe_one (pe_cmpR op_gt (pv 1) pe_int (nomark _)))) pa_nil))))
        (pss_cons (ps_setLc (own := [("_law_one", 10)]) (i := 8) rfl sc_law.nd rfl rfl (sw_true rfl rfl rfl (by decide +kernel))  (pi_listK (K := K) (pe_slice (slK (K := K)) (pv 6) (po_some pe_int) (po_some (pe_op op_add (pv 7) pe_int)))) (blkOk_by (own := [("_law_one", 10)]) (N := ["_law_script", "_law_goods", "_law_text", "_law_k", "_law_found", "_law_due_here", "_law_draws_here", "_law_many", "_law_words", "_law_place", "_law_one"]) (sc := (defScope s_law)) (by decide +kernel)) (fun _ _ _ _ _ => (pg_name (i := 10) sc_law.nd rfl (Or.inl rfl))) (fun _ _ _ _ _ => pts_nil) (fun _ _ _ _ _ => (pe_ok h__law_word (hr.mono (by decide)) (by rfl) pass0 (pa_cons (pv 10) pa_nil))))
        (pss_one (ps_set (i := 2) sc_law.nd rfl (Or.inl rfl) (pe_op op_add_str (pe_op op_add_str (pv 2) (pe_joinK (K := K) pe_str (pv 8))) pe_str)))))))
      (pss_cut (ps_if (pt_cmpR op_eq (pe_op op_mod (pe_ok h__law_cell (hr.mono (by decide)) (by rfl) pass0 (pa_cons (pv 0) (pa_cons pe_int pa_nil))) pe_int) pe_int (nomark _))
        (pss_one (ps_set (i := 2) sc_law.nd rfl (Or.inl rfl) (pe_slice sl_str (pv 2) po_none (po_some (pe_un un_neg pe_int)))))
        pss_nil)
      (pss_cut (ps_if (pt_cmpR op_eq (pe_op op_mod (pe_op op_fdiv (pe_ok h__law_cell (hr.mono (by decide)) (by rfl) pass0 (pa_cons (pv 0) (pa_cons pe_int pa_nil))) pe_int) pe_int) pe_int (nomark _))
        (pss_cons (ps_set (i := 9) sc_law.nd rfl (Or.inl rfl) (pe_op op_mod (pe_ok h__law_cell (hr.mono (by decide)) (by rfl) pass0 (pa_cons (pv 0) (pa_cons pe_int pa_nil))) (pe_op op_add (pe_callB call_len_str (by rfl) B.len PySem.boot_len (pa_cons (pv 2) pa_nil)) pe_int)))
        (pss_one (ps_set (i := 2) sc_law.nd rfl (Or.inl rfl) (pe_op op_add_str (pe_op op_add_str (pe_slice sl_str (pv 2) po_none (po_some (pv 9))) (pe_ok h__law_sign (hr.mono (by decide)) (by rfl) pass0 (pa_cons (pe_op op_fdiv (pe_ok h__law_cell (hr.mono (by decide)) (by rfl) pass0 (pa_cons (pv 0) (pa_cons pe_int pa_nil))) pe_int) pa_nil))) (pe_slice sl_str (pv 2) (po_some (pv 9)) po_none)))))
        pss_nil)
      (pss_cons (ps_set (i := 4) sc_law.nd rfl (Or.inl rfl) (pe_ok h__law_told hr (by rfl) pass0 (pa_cons (pv 2) pa_nil)))
      (pss_cons (ps_set (i := 5) sc_law.nd rfl (Or.inl rfl) (pe_ok h__law_due (hr.mono (by decide)) (by rfl) pass0 (pa_cons (pe_ok h__law_lines (hr.mono (by decide)) (by rfl) pass0 (pa_cons (pv 2) pa_nil)) pa_nil)))
      (pss_one (ps_ret (pe_and (pe_ok h__law_kinds (hr.mono (by decide)) (by rfl) pass0 (pa_cons (pv 4) pa_nil)) (pe_and (pe_cmpR (eqK (K := K) hr.units) (pv 4) (pv 5) (nomark _)) (pe_one (pe_cmpR op_eq (pe_ok h__law_by_base hr (by rfl) pass0 (pa_cons (pv 2) pa_nil)) (pe_callB (isiK (K := K)) (by rfl) B.isinstance (by decide +kernel) (pa_cons (pv 5) (pa_cons (pe_bltn (v := .ty "str") (by rfl) B.str (by decide +kernel) rfl) pa_nil))) (nomark _))))))))))))))), ?_⟩)
  obtain ⟨x, rfl, a, ns, rfl, hS, q⟩ := h
  obtain ⟨g0, hg0, hg0l⟩ := mod_range (cellM ns 1) (m := 4) (by decide)
  refine q_asg (v := .int (g0 : Int)) (ev_is (ev_op (ev_cell rfl hS ev_c (by decide)) ev_c (rv_I (by show (0 : Int) < 4; decide))) (by rw [hg0])) fun H1 e1 => ?_
  have hS1 := ex_l e1 hS
  refine q_cut (M := fun σ H' => ∃ gn : Nat, gn ≤ 42 ∧ Ex H1 H' ∧ σ = [some (.ref a), some (.int gn), none, none, none, none, none, none, none, none, none]) ?_ ?_
  · refine s_when (et_test (ev_op (ev_op (ev_op (ev_cell rfl hS1 ev_c (by decide)) ev_c (rv_I ⟨by decide, by decide⟩)) ev_c (rv_I (by show (0 : Int) < 16; decide))) ev_c (rv_eq rfl))) (fun _ H3 e3 => ?_) (fun _ H3 e3 => ⟨g0, by omega, e3, rfl⟩)
    obtain ⟨g1, hg1, hg1l⟩ := mod_range (cellM ns 1 / 64) (m := 4) (by decide)
    refine s_asg (v := .int ((39 + g1 : Nat) : Int)) (ev_is (ev_op ev_c (ev_op (ev_op (ev_cell rfl (ex_l e3 hS1) ev_c (by decide)) ev_c (rv_I ⟨by decide, by decide⟩)) ev_c (rv_I (by show (0 : Int) < 4; decide))) rv_I0) (by rw [hg1]; congr 1)) fun H4 e4 => ⟨39 + g1, by omega, e3.trans e4, rfl⟩
  rintro σ H2 ⟨gn, hgn, e2, rfl⟩
  have hS2 := ex_l e2 hS1
  refine q_asg (v := .str "") ev_c fun H3 e3 => ?_
  have hS3 := ex_l e3 hS2
  obtain ⟨n, hn, hnl⟩ := mod_range (cellM ns 0) (m := 12) (by decide)
  refine q_forR1 (n := (n : Int)) (ea_cons (ev_is (ev_op (ev_cell rfl hS3 ev_c (by decide)) ev_c (rv_I (by show (0 : Int) < 12; decide))) (by rw [hn])) ea_nil) ⟨by omega, by omega⟩ (fun i σ H' => ∃ (w : Str) (z3 z6 z7 z8 z10 : Option V), w.length ≤ i * 700 ∧ i ≤ n ∧ Ex H3 H' ∧
    σ = [some (.ref a), some (.int gn), some (.str w), z3, none, none, z6, z7, z8, none, z10]) (fun H4 e4 => ⟨"", none, none, none, none, none, Nat.zero_le _, Nat.zero_le _, e4, rfl⟩) ?_ ?_
  · rintro i σ' H4 hi ⟨w, z3, z6, z7, z8, z10, hwl, hin, e4, rfl⟩
    have hS4 := ex_l e4 hS3
    refine q_asgL (xs := (drawsM (cellM ns (4 + i)) (gn + 2)).map V.int) (el_call (ea_cons (ev_cell rfl hS4 (ev_op ev_c (ev_var rfl) rv_I0) (by omega)) (ea_cons (ev_op (ev_var rfl) ev_c rv_I0) ea_nil)) fun H5 e5 Q q E => ⟨_, _, rfl, _, gn + 2, rfl, by congr 1, by omega, q⟩) fun d H5 hd e5 h5 => ?_
    have hdl := drawsM_len (cellM ns (4 + i)) (gn + 2)
    have hdn := drawsM_nn (cellM ns (4 + i)) (gn + 2)
    generalize drawsM (cellM ns (4 + i)) (gn + 2) = ds at h5 hdl hdn
    have d0 : ∀ {H'} , Ex H5 H' → atI (ds.map V.int) 0 = some (.int (ds.getD 0 0)) := fun _ => at_ints (by decide) (by omega)
    refine q_asg (ev_op (ev_op (ev_var rfl) (ev_int1 (ev_op (ev_op (ev_op (ev_var rfl) ev_c (rv_ixL (sq_of h5) (d0 (Ex.refl _)))) ev_c (rv_I (by show (0 : Int) < 11; decide))) ev_c (rv_eq rfl))) rv_I0) (ev_int1 (ev_andV (ev_op (ev_op (ev_op (ev_var rfl) ev_c (rv_ixL (sq_of h5) (d0 (Ex.refl _)))) ev_c (rv_I (by show (0 : Int) < 11; decide))) ev_c (rv_eq rfl)) fun _ => ev_op (ev_var rfl) ev_c rv_I0)) rv_I0) fun H6 e6 => ?_
    generalize ((gn : Int) + _ - _) = mn
    obtain ⟨zs, hzs, hzl, hzm⟩ := cutV_map ds (some 1) (some (mn + 1))
    refine q_set (lc_some (xs := zs) (enc := V.int) (P := fun v => ∃ u : Str, v = .str u ∧ u.length ≤ 14) (by rw [← hzs]; exact el_sl (ev_var rfl) (eo_some ev_c) (eo_some (ev_op (ev_var rfl) ev_c rv_I0)) (sq_of (e6 _ _ h5))) (by omega) (fun _ => rfl) (fun z H7 hz e7 Q q => g_call (ea_cons (ev_var rfl) ea_nil H7 (Ex.refl _) _ fun H8 e8 => ⟨_, rfl, z, rfl, hdn z (hzm z hz), fun u H9 hu e9 => q _ H9 ⟨u, rfl, hu⟩ (e8.trans e9)⟩)) fun ys p H7 hyl hyp hp e7 h7 => ?_)
    obtain ⟨ws, rfl, hws⟩ := strs_of hyp
    rw [List.length_map] at hyl
    have hjl := join_len hws
    have hjl2 : ws.length * 15 ≤ 44 * 15 := Nat.mul_le_mul (by omega) (Nat.le_refl _)
    have hwl2 : i * 700 ≤ 11 * 700 := Nat.mul_le_mul (by omega) (Nat.le_refl _)
    have hsum : (ws.map (·.length)).sum ≤ 44 * 14 := by
      have := sum_bound (k := 14) (ws.map (·.length)) fun x hx => by
        obtain ⟨u, hu, rfl⟩ := List.mem_map.mp hx
        exact hws u hu
      rw [List.length_map] at this
      have : ws.length * 14 ≤ 44 * 14 := Nat.mul_le_mul (by omega) (Nat.le_refl _)
      omega
    have hl1 : ws.length * 1 ≤ 44 := by omega
    refine s_asg (v := .str (w ++ Txt.join " " ws ++ "\n")) (ev_addS (ev_addS (ev_var rfl) (ev_joinV (ev_var rfl) (sq_of h7) (by show _ + ws.length * 1 ≤ _; omega)) (by omega)) ev_c (by rw [len_app]; show _ + _ + 1 ≤ 100000; omega)) fun H8 e8 => ⟨_, _, _, _, _, _, ?_, by omega, ((e4.trans e5).trans (e6.trans e7)).trans e8, rfl⟩
    rw [len_app, len_app]
    show _ + _ + 1 ≤ _
    omega
  rintro σ' H4 ⟨w, z3, z6, z7, z8, z10, hwl, hin, e4, rfl⟩
  have hS4 := ex_l e4 hS3
  have hwl : w.length ≤ 8000 := by
    have : (n : Nat) * 700 ≤ 11 * 700 := Nat.mul_le_mul (by omega) (Nat.le_refl _)
    have hl2 : w.length ≤ n * 700 := hwl
    omega
  -- a line end less
  refine q_cut (M := fun σ H' => ∃ (w : Str), w.length ≤ 8000 ∧ Ex H4 H' ∧ σ = [some (.ref a), some (.int gn), some (.str w), z3, none, none, z6, z7, z8, none, z10]) ?_ ?_
  · refine s_when (et_test (ev_op (ev_op (ev_cell rfl hS4 ev_c (by decide)) ev_c (rv_I (by show (0 : Int) < 8; decide))) ev_c (rv_eq rfl))) (fun _ H5 e5 => ?_) (fun _ H5 e5 => ⟨w, hwl, e5, rfl⟩)
    exact s_asg (ev_slS (ev_var rfl) eo_none (eo_some (ev_un ev_c ru_neg)) (by omega)) fun H6 e6 => ⟨_, Nat.le_trans (cutS_length w none (some (-1))) hwl, e5.trans e6, rfl⟩
  rintro σ' H5 ⟨w, hwl, e5, rfl⟩
  have hS5 := ex_l e5 hS4
  -- a sign put in
  refine q_cut (M := fun σ H' => ∃ (w : Str) (z9 : Option V), w.length ≤ 20000 ∧ Ex H5 H' ∧ σ = [some (.ref a), some (.int gn), some (.str w), z3, none, none, z6, z7, z8, z9, z10]) ?_ ?_
  · refine s_when (et_test (ev_op (ev_op (ev_op (ev_cell rfl hS5 ev_c (by decide)) ev_c (rv_I ⟨by decide, by decide⟩)) ev_c (rv_I (by show (0 : Int) < 3; decide))) ev_c (rv_eq rfl))) (fun _ H6 e6 => ?_) (fun _ H6 e6 => ⟨w, none, by omega, e6, rfl⟩)
    have hS6 := ex_l e6 hS5
    refine q_asg (ev_op (ev_cell rfl hS6 ev_c (by decide)) (ev_op (ev_lenS (ev_var rfl) (by omega)) ev_c rv_I0) (rv_I (by show (0 : Int) < (w.length : Int) + 1; omega))) fun H7 e7 => ?_
    generalize cellM ns 3 % _ = pl
    have hS7 := ex_l e7 hS6
    have hc1 := cutS_length w none (some pl)
    have hc2 := cutS_length w (some pl) none
    refine g_set (g_op (g_op (ev_slS (ev_var rfl) eo_none (eo_some (ev_var rfl)) (by omega) H7 (Ex.refl _) _ fun H8 e8 => g_call (ea_cons (ev_op (ev_cell rfl (ex_l e8 hS7) ev_c (by decide)) ev_c (rv_I ⟨by decide, by decide⟩)) ea_nil H8 (Ex.refl _) _ fun H9 e9 => ⟨_, rfl, _, rfl, fun c H10 e10 => ?_⟩))))
    refine ⟨_, _, rfl, rfl, sz_of (by show _ + 1 ≤ 100000; omega), ?_⟩
    refine ev_slS (ev_var rfl) (eo_some (ev_var rfl)) eo_none (by omega) H10 (Ex.refl _) _ fun H11 e11 => ⟨_, _, rfl, rfl, sz_of ?_, _, _, ?_, (e6.trans e7).trans ((e8.trans e9).trans (e10.trans e11)), rfl⟩
    · rw [len_app]
      show _ + 1 + _ ≤ _
      omega
    · rw [len_app, len_app]
      show _ + 1 + _ ≤ _
      omega
  rintro σ' H6 ⟨w, z9, hwl, e6, rfl⟩
  -- told
  by_cases h0 : dueT (tl w) = 0
  · obtain ⟨rows, hrows, hd0⟩ := dueT_rows h0
    refine q_set (g_call (ea_cons (ev_var rfl) ea_nil H6 (Ex.refl _) _ fun H7 e7 => ⟨_, rfl, w, rfl, hwl, fun rows' hr' hd' p ps H8 L e8 => ?_, fun hn => absurd h0 hn⟩))
    obtain rfl : rows = rows' := Option.some.inj (hrows.symm.trans hr')
    have hA := L.tv
    refine q_set (g_call (g_cons (g_call (ea_cons (ev_var rfl) ea_nil H8 (Ex.refl _) _ fun H9 e9 => ⟨_, rfl, w, rfl, hwl, fun p2 vs2 H10 R e10 => g_nil ⟨_, rfl, p2, vs2, _, rfl, R, opts_nn, fun hn => ?_, fun rows2 hr2 hd2 H11 e11 => ?_, fun rows2 hr2 hd2 => ?_⟩⟩))))
    · rw [← rowsO_opts, hrows] at hn
      cases hn
    · rw [← rowsO_opts, hrows] at hr2
      obtain rfl := Option.some.inj hr2
      have e811 := (e9.trans e10).trans e11
      have R2 : RowsX H11 p2 vs2 (rows.map some) := by
        have := R.mono e11
        rw [show optsT (tl w) = rows.map some from allSome_of (by rw [← rowsO_opts]; exact hrows)] at this
        exact this
      refine s_ret (v := .bl true) (ev_andV (a := true) (b := true) (ev_call (ea_cons (ev_var rfl) ea_nil) fun H12 e12 Q q E => ⟨_, rfl, .inr ⟨p, rows, rfl, hA.mono (e811.trans e12)⟩, fun H13 e13 => q H13 e13⟩) fun _ => ev_andV (a := true) (b := true) (ev_op (ev_var rfl) (ev_var rfl) (rv_eqS encII (by decide) (LL.dp ((hA.mono e811).lv (K := K))) (LL.dp ((rowsX_tv R2).lv (K := K))))) fun _ => ev_is (ev_op (x := .bl false) (y := .bl false) (ev_call (ea_cons (ev_var rfl) ea_nil) fun H12 e12 Q q E => ⟨_, rfl, w, rfl, hwl, fun H13 e13 => by rw [h0]; exact q H13 e13⟩) (ev_cb (ea_cons (ev_var rfl) (ea_cons ev_c ea_nil)) fun H12 e12 Q q => ⟨_, _, _, _, false, rfl, .ty _, .base (.lst (e12 _ _ R2.top)), kit_ty (by decide +kernel), q H12 (Ex.refl _)⟩) (rv_eq rfl)) rfl) fun H12 e12 => q H12
    · rw [← rowsO_opts, hrows] at hr2
      obtain rfl := Option.some.inj hr2
      exact absurd hd0 hd2
  · refine q_set (g_call (ea_cons (ev_var rfl) ea_nil H6 (Ex.refl _) _ fun H7 e7 => ⟨_, rfl, w, rfl, hwl, fun rows' hr' hd' => absurd (by rw [dueT_some hr']; exact hd') h0, fun _ H8 e8 => ?_⟩))
    have fin : ∀ {σ : L2.St} {H9 : Hp}, σ[2]? = some (some (.str w)) → σ[4]? = some (some (.str (nameT (dueT (tl w))))) → σ[5]? = some (some (.str (nameT (dueT (tl w))))) →
        Ev (tAndV (tCall (sp__law_kinds K) [] E0 (tCons (tVar 4) tNil)) (tAndV (tOp (rEqD K) (tVar 4) (tVar 5)) (tOp rEq (tCall (sp__law_by_base K) [] E0 (tCons (tVar 2) tNil)) (tCB (rIsi K) (tCons (tVar 5) (tCons (tC (.ty "str")) tNil)))))) σ H9 (.bl true) := fun s2 s4 s5 =>
      ev_andV (a := true) (b := true) (ev_call (ea_cons (ev_var s4) ea_nil) fun H12 e12 Q q E => ⟨_, rfl, .inl ⟨_, rfl⟩, fun H13 e13 => q H13 e13⟩) fun _ => ev_andV (a := true) (b := true) (ev_op (ev_var s4) (ev_var s5) (rv_eqR (by simp [SeqAt.shaped, PyData.canLay0, PyData.depth]; exact nameT_ok _) (.str _) (.str _))) fun _ => ev_is (ev_op (x := .bl true) (y := .bl true) (ev_call (ea_cons (ev_var s2) ea_nil) fun H12 e12 Q q E => ⟨_, rfl, w, rfl, hwl, fun H13 e13 => by rw [decide_eq_false h0]; exact q H13 e13⟩) (ev_isA (ev_var s5) (by decide +kernel)) (rv_eq rfl)) rfl
    refine q_set (g_call (g_cons (g_call (ea_cons (ev_var rfl) ea_nil H8 (Ex.refl _) _ fun H9 e9 => ⟨_, rfl, w, rfl, hwl, fun p2 vs2 H10 R e10 => g_nil ⟨_, rfl, p2, vs2, _, rfl, R, opts_nn, fun hn H11 e11 => ?_, fun rows2 hr2 hd2 => ?_, fun rows2 hr2 hd2 H11 e11 => ?_⟩⟩))))
    · rw [← rowsO_opts] at hn
      have h8 := dueT_8 hn
      rw [h8] at fin
      rw [h8]
      exact s_ret (fin rfl rfl rfl) fun H12 e12 => q H12
    · rw [← rowsO_opts] at hr2
      exact absurd (by rw [dueT_some hr2]; exact hd2) h0
    · rw [← rowsO_opts] at hr2
      have h8 := dueT_some hr2
      rw [← h8]
      exact s_ret (fin rfl rfl rfl) fun H12 e12 => q H12
end
end Fk07
namespace Fk07
open PySem PySem.Spec PyProof.Rows L2 Evl Fs Xs Tx TL Cr
theorem all_mk {l : PySem.W.OpenLaw} {w : World} {K : PySem.W.Frag} {h : Heap} {mg : Str → Option Value} {fa f0 f1 f2 f3 f4 f5 f6 f7 f8 f9 f10 f11 f12 f13 f14 f15 f16 f17 f18 f19 : Addr} (X : K.In h) (G : h.Ns mainGlobals mg) (hfa : mg "law" = some (.ref fa))
    {od0 an0 od1 an1 od2 an2 od3 an3 od4 an4 od5 an5 od6 an6 od7 an7 od8 an8 od9 an9 od10 an10 od11 an11 od12 an12 od13 an13 od14 an14 od15 an15 od16 an16 od17 an17 od18 an18 od19 an19 : Option Addr} {sl0 sl1 sl2 sl3 sl4 sl5 sl6 sl7 sl8 sl9 sl10 sl11 sl12 sl13 sl14 sl15 sl16 sl17 sl18 sl19 : Array (Option Value)} {oc0 kV0 dc0 pm0 cd0 ct0 oc1 kV1 dc1 pm1 cd1 ct1 oc2 kV2 dc2 pm2 cd2 ct2 oc3 kV3 dc3 pm3 cd3 ct3 oc4 kV4 dc4 pm4 cd4 ct4 oc5 kV5 dc5 pm5 cd5 ct5 oc6 kV6 dc6 pm6 cd6 ct6 oc7 kV7 dc7 pm7 cd7 ct7 oc8 kV8 dc8 pm8 cd8 ct8 oc9 kV9 dc9 pm9 cd9 ct9 oc10 kV10 dc10 pm10 cd10 ct10 oc11 kV11 dc11 pm11 cd11 ct11 oc12 kV12 dc12 pm12 cd12 ct12 oc13 kV13 dc13 pm13 cd13 ct13 oc14 kV14 dc14 pm14 cd14 ct14 oc15 kV15 dc15 pm15 cd15 ct15 oc16 kV16 dc16 pm16 cd16 ct16 oc17 kV17 dc17 pm17 cd17 ct17 oc18 kV18 dc18 pm18 cd18 ct18 oc19 kV19 dc19 pm19 cd19 ct19 : Value}
    (a0 : PySem.W.nsIn K mainGlobals "is_number" = some (some (.ref f0))) (l0 : K.lookup f0 = some ⟨oc0, od0, .func (PySem.W.fnOf "is_number" "is_number" (defArgs s_is_number) (defBody s_is_number) (defScope s_is_number) .none kV0 dc0 pm0 an0 cd0 ct0), sl0⟩) (c0 : PySem.W.codeIn K cd0 "is_number" = true) (k0 : PySem.W.keepIn K (.ref f0) = true)
    (a1 : PySem.W.nsIn K mainGlobals "is_bid" = some (some (.ref f1))) (l1 : K.lookup f1 = some ⟨oc1, od1, .func (PySem.W.fnOf "is_bid" "is_bid" (defArgs s_is_bid) (defBody s_is_bid) (defScope s_is_bid) .none kV1 dc1 pm1 an1 cd1 ct1), sl1⟩) (c1 : PySem.W.codeIn K cd1 "is_bid" = true) (k1 : PySem.W.keepIn K (.ref f1) = true)
    (a2 : PySem.W.nsIn K mainGlobals "check_line" = some (some (.ref f2))) (l2 : K.lookup f2 = some ⟨oc2, od2, .func (PySem.W.fnOf "check_line" "check_line" (defArgs s_check_line) (defBody s_check_line) (defScope s_check_line) .none kV2 dc2 pm2 an2 cd2 ct2), sl2⟩) (c2 : PySem.W.codeIn K cd2 "check_line" = true) (k2 : PySem.W.keepIn K (.ref f2) = true)
    (a3 : PySem.W.nsIn K mainGlobals "check_bids" = some (some (.ref f3))) (l3 : K.lookup f3 = some ⟨oc3, od3, .func (PySem.W.fnOf "check_bids" "check_bids" (defArgs s_check_bids) (defBody s_check_bids) (defScope s_check_bids) .none kV3 dc3 pm3 an3 cd3 ct3), sl3⟩) (c3 : PySem.W.codeIn K cd3 "check_bids" = true) (k3 : PySem.W.keepIn K (.ref f3) = true)
    (a4 : PySem.W.nsIn K mainGlobals "is_written" = some (some (.ref f4))) (l4 : K.lookup f4 = some ⟨oc4, od4, .func (PySem.W.fnOf "is_written" "is_written" (defArgs s_is_written) (defBody s_is_written) (defScope s_is_written) .none kV4 dc4 pm4 an4 cd4 ct4), sl4⟩) (c4 : PySem.W.codeIn K cd4 "is_written" = true) (k4 : PySem.W.keepIn K (.ref f4) = true)
    (a5 : PySem.W.nsIn K mainGlobals "numbers" = some (some (.ref f5))) (l5 : K.lookup f5 = some ⟨oc5, od5, .func (PySem.W.fnOf "numbers" "numbers" (defArgs s_numbers) (defBody s_numbers) (defScope s_numbers) .none kV5 dc5 pm5 an5 cd5 ct5), sl5⟩) (c5 : PySem.W.codeIn K cd5 "numbers" = true) (k5 : PySem.W.keepIn K (.ref f5) = true)
    (a6 : PySem.W.nsIn K mainGlobals "read" = some (some (.ref f6))) (l6 : K.lookup f6 = some ⟨oc6, od6, .func (PySem.W.fnOf "read" "read" (defArgs s_read) (defBody s_read) (defScope s_read) .none kV6 dc6 pm6 an6 cd6 ct6), sl6⟩) (c6 : PySem.W.codeIn K cd6 "read" = true) (k6 : PySem.W.keepIn K (.ref f6) = true)
    (a7 : PySem.W.nsIn K mainGlobals "_law_whole" = some (some (.ref f7))) (l7 : K.lookup f7 = some ⟨oc7, od7, .func (PySem.W.fnOf "_law_whole" "_law_whole" (defArgs s__law_whole) (defBody s__law_whole) (defScope s__law_whole) .none kV7 dc7 pm7 an7 cd7 ct7), sl7⟩) (c7 : PySem.W.codeIn K cd7 "_law_whole" = true) (k7 : PySem.W.keepIn K (.ref f7) = true)
    (a8 : PySem.W.nsIn K mainGlobals "_law_cell" = some (some (.ref f8))) (l8 : K.lookup f8 = some ⟨oc8, od8, .func (PySem.W.fnOf "_law_cell" "_law_cell" (defArgs s__law_cell) (defBody s__law_cell) (defScope s__law_cell) .none kV8 dc8 pm8 an8 cd8 ct8), sl8⟩) (c8 : PySem.W.codeIn K cd8 "_law_cell" = true) (k8 : PySem.W.keepIn K (.ref f8) = true)
    (a9 : PySem.W.nsIn K mainGlobals "_law_draws" = some (some (.ref f9))) (l9 : K.lookup f9 = some ⟨oc9, od9, .func (PySem.W.fnOf "_law_draws" "_law_draws" (defArgs s__law_draws) (defBody s__law_draws) (defScope s__law_draws) .none kV9 dc9 pm9 an9 cd9 ct9), sl9⟩) (c9 : PySem.W.codeIn K cd9 "_law_draws" = true) (k9 : PySem.W.keepIn K (.ref f9) = true)
    (a10 : PySem.W.nsIn K mainGlobals "_law_number" = some (some (.ref f10))) (l10 : K.lookup f10 = some ⟨oc10, od10, .func (PySem.W.fnOf "_law_number" "_law_number" (defArgs s__law_number) (defBody s__law_number) (defScope s__law_number) .none kV10 dc10 pm10 an10 cd10 ct10), sl10⟩) (c10 : PySem.W.codeIn K cd10 "_law_number" = true) (k10 : PySem.W.keepIn K (.ref f10) = true)
    (a11 : PySem.W.nsIn K mainGlobals "_law_word" = some (some (.ref f11))) (l11 : K.lookup f11 = some ⟨oc11, od11, .func (PySem.W.fnOf "_law_word" "_law_word" (defArgs s__law_word) (defBody s__law_word) (defScope s__law_word) .none kV11 dc11 pm11 an11 cd11 ct11), sl11⟩) (c11 : PySem.W.codeIn K cd11 "_law_word" = true) (k11 : PySem.W.keepIn K (.ref f11) = true)
    (a12 : PySem.W.nsIn K mainGlobals "_law_sign" = some (some (.ref f12))) (l12 : K.lookup f12 = some ⟨oc12, od12, .func (PySem.W.fnOf "_law_sign" "_law_sign" (defArgs s__law_sign) (defBody s__law_sign) (defScope s__law_sign) .none kV12 dc12 pm12 an12 cd12 ct12), sl12⟩) (c12 : PySem.W.codeIn K cd12 "_law_sign" = true) (k12 : PySem.W.keepIn K (.ref f12) = true)
    (a13 : PySem.W.nsIn K mainGlobals "_law_row" = some (some (.ref f13))) (l13 : K.lookup f13 = some ⟨oc13, od13, .func (PySem.W.fnOf "_law_row" "_law_row" (defArgs s__law_row) (defBody s__law_row) (defScope s__law_row) .none kV13 dc13 pm13 an13 cd13 ct13), sl13⟩) (c13 : PySem.W.codeIn K cd13 "_law_row" = true) (k13 : PySem.W.keepIn K (.ref f13) = true)
    (a14 : PySem.W.nsIn K mainGlobals "_law_lines" = some (some (.ref f14))) (l14 : K.lookup f14 = some ⟨oc14, od14, .func (PySem.W.fnOf "_law_lines" "_law_lines" (defArgs s__law_lines) (defBody s__law_lines) (defScope s__law_lines) .none kV14 dc14 pm14 an14 cd14 ct14), sl14⟩) (c14 : PySem.W.codeIn K cd14 "_law_lines" = true) (k14 : PySem.W.keepIn K (.ref f14) = true)
    (a15 : PySem.W.nsIn K mainGlobals "_law_due" = some (some (.ref f15))) (l15 : K.lookup f15 = some ⟨oc15, od15, .func (PySem.W.fnOf "_law_due" "_law_due" (defArgs s__law_due) (defBody s__law_due) (defScope s__law_due) .none kV15 dc15 pm15 an15 cd15 ct15), sl15⟩) (c15 : PySem.W.codeIn K cd15 "_law_due" = true) (k15 : PySem.W.keepIn K (.ref f15) = true)
    (a16 : PySem.W.nsIn K mainGlobals "_law_told" = some (some (.ref f16))) (l16 : K.lookup f16 = some ⟨oc16, od16, .func (PySem.W.fnOf "_law_told" "_law_told" (defArgs s__law_told) (defBody s__law_told) (defScope s__law_told) .none kV16 dc16 pm16 an16 cd16 ct16), sl16⟩) (c16 : PySem.W.codeIn K cd16 "_law_told" = true) (k16 : PySem.W.keepIn K (.ref f16) = true)
    (a17 : PySem.W.nsIn K mainGlobals "_law_by_base" = some (some (.ref f17))) (l17 : K.lookup f17 = some ⟨oc17, od17, .func (PySem.W.fnOf "_law_by_base" "_law_by_base" (defArgs s__law_by_base) (defBody s__law_by_base) (defScope s__law_by_base) .none kV17 dc17 pm17 an17 cd17 ct17), sl17⟩) (c17 : PySem.W.codeIn K cd17 "_law_by_base" = true) (k17 : PySem.W.keepIn K (.ref f17) = true)
    (a18 : PySem.W.nsIn K mainGlobals "_law_kinds" = some (some (.ref f18))) (l18 : K.lookup f18 = some ⟨oc18, od18, .func (PySem.W.fnOf "_law_kinds" "_law_kinds" (defArgs s__law_kinds) (defBody s__law_kinds) (defScope s__law_kinds) .none kV18 dc18 pm18 an18 cd18 ct18), sl18⟩) (c18 : PySem.W.codeIn K cd18 "_law_kinds" = true) (k18 : PySem.W.keepIn K (.ref f18) = true)
    (a19 : PySem.W.nsIn K mainGlobals "law" = some (some (.ref f19))) (l19 : K.lookup f19 = some ⟨oc19, od19, .func (PySem.W.fnOf "law" "law" (defArgs s_law) (defBody s_law) (defScope s_law) .none kV19 dc19 pm19 an19 cd19 ct19), sl19⟩) (c19 : PySem.W.codeIn K cd19 "law" = true) (k19 : PySem.W.keepIn K (.ref f19) = true)
    (z_len : PySem.W.nsIn K mainGlobals "len" = some none) (z_range : PySem.W.nsIn K mainGlobals "range" = some none) (z_sum : PySem.W.nsIn K mainGlobals "sum" = some none) (z_isinstance : PySem.W.nsIn K mainGlobals "isinstance" = some none) (z_int : PySem.W.nsIn K mainGlobals "int" = some none) (z_bool : PySem.W.nsIn K mainGlobals "bool" = some none) (z_list : PySem.W.nsIn K mainGlobals "list" = some none) (z_tuple : PySem.W.nsIn K mainGlobals "tuple" = some none) (z_sorted : PySem.W.nsIn K mainGlobals "sorted" = some none) (z_max : PySem.W.nsIn K mainGlobals "max" = some none) (z_min : PySem.W.nsIn K mainGlobals "min" = some none) (z_all : PySem.W.nsIn K mainGlobals "all" = some none) (z_any : PySem.W.nsIn K mainGlobals "any" = some none) (z_zip : PySem.W.nsIn K mainGlobals "zip" = some none) (z_str : PySem.W.nsIn K mainGlobals "str" = some none) (z_ValueError : PySem.W.nsIn K mainGlobals "ValueError" = some none)
    {t_MOST_PEOPLE t_MOST_GOODS t_GREATEST_BID t_MOST_FIGURES : Tok} (q_MOST_PEOPLE : PySem.W.nsIn K mainGlobals "MOST_PEOPLE" = some (some (.int 9 t_MOST_PEOPLE))) (q_MOST_GOODS : PySem.W.nsIn K mainGlobals "MOST_GOODS" = some (some (.int 40 t_MOST_GOODS))) (q_GREATEST_BID : PySem.W.nsIn K mainGlobals "GREATEST_BID" = some (some (.int 1000000000000 t_GREATEST_BID))) (q_MOST_FIGURES : PySem.W.nsIn K mainGlobals "MOST_FIGURES" = some (some (.int 13 t_MOST_FIGURES)))
    {C0 C1 C2 C3 C4 C8 : Addr} (xg0 : PySem.W.nsIn K mainGlobals "SplitError" = some (some (.ref C0))) (xg1 : PySem.W.nsIn K mainGlobals "NoPeople" = some (some (.ref C1))) (xg2 : PySem.W.nsIn K mainGlobals "TooMany" = some (some (.ref C2))) (xg3 : PySem.W.nsIn K mainGlobals "Uneven" = some (some (.ref C3))) (xg4 : PySem.W.nsIn K mainGlobals "BadBid" = some (some (.ref C4))) (xg8 : PySem.W.nsIn K mainGlobals "NoText" = some (some (.ref C8)))
    (xq1 : PySem.W.excIn K C1 [.type "ValueError", .type "Exception", .type "BaseException", .type "object"] "ValueError.__new__" = true) (xk1 : PySem.W.keepIn K (.ref C1) = true) (xb1 : PySem.W.subIn K (.ref C1) (.type "BaseException") = some true) (xt1 : PySem.W.typeIn K (.ref C1) = some (.type "type"))
    (xa1 : PySem.W.findIn K (.ref C1) "__getattribute__" = some (some (.builtin "BaseException.__getattribute__"))) (xc1 : PySem.W.findIn K (.ref C1) "__getattr__" = some none) (xd1 : PySem.W.hasDictIn K C1 = true) (xe1 : PySem.W.findIn K (.ref C1) "__class__" = some (some (.builtin "object.__class__"))) (xm1 : PySem.W.mroIn K C1 (.type "object") = some true) (xv1 : PySem.W.subIn K (.ref C1) (.type "ValueError") = some true) (xi1 : PySem.W.isClsIn K C1 = true) (x1_0 : PySem.W.subIn K (.ref C1) (.ref C0) = some true)
 (x1_1 : PySem.W.subIn K (.ref C1) (.ref C1) = some true) (x1_2 : PySem.W.subIn K (.ref C1) (.ref C2) = some false) (x1_3 : PySem.W.subIn K (.ref C1) (.ref C3) = some false) (x1_4 : PySem.W.subIn K (.ref C1) (.ref C4) = some false) (x1_8 : PySem.W.subIn K (.ref C1) (.ref C8) = some false)
    (xq2 : PySem.W.excIn K C2 [.type "ValueError", .type "Exception", .type "BaseException", .type "object"] "ValueError.__new__" = true) (xk2 : PySem.W.keepIn K (.ref C2) = true) (xb2 : PySem.W.subIn K (.ref C2) (.type "BaseException") = some true) (xt2 : PySem.W.typeIn K (.ref C2) = some (.type "type"))
    (xa2 : PySem.W.findIn K (.ref C2) "__getattribute__" = some (some (.builtin "BaseException.__getattribute__"))) (xc2 : PySem.W.findIn K (.ref C2) "__getattr__" = some none) (xd2 : PySem.W.hasDictIn K C2 = true) (xe2 : PySem.W.findIn K (.ref C2) "__class__" = some (some (.builtin "object.__class__"))) (xm2 : PySem.W.mroIn K C2 (.type "object") = some true) (xv2 : PySem.W.subIn K (.ref C2) (.type "ValueError") = some true) (xi2 : PySem.W.isClsIn K C2 = true) (x2_0 : PySem.W.subIn K (.ref C2) (.ref C0) = some true)
 (x2_1 : PySem.W.subIn K (.ref C2) (.ref C1) = some false) (x2_2 : PySem.W.subIn K (.ref C2) (.ref C2) = some true) (x2_3 : PySem.W.subIn K (.ref C2) (.ref C3) = some false) (x2_4 : PySem.W.subIn K (.ref C2) (.ref C4) = some false) (x2_8 : PySem.W.subIn K (.ref C2) (.ref C8) = some false)
    (xq3 : PySem.W.excIn K C3 [.type "ValueError", .type "Exception", .type "BaseException", .type "object"] "ValueError.__new__" = true) (xk3 : PySem.W.keepIn K (.ref C3) = true) (xb3 : PySem.W.subIn K (.ref C3) (.type "BaseException") = some true) (xt3 : PySem.W.typeIn K (.ref C3) = some (.type "type"))
    (xa3 : PySem.W.findIn K (.ref C3) "__getattribute__" = some (some (.builtin "BaseException.__getattribute__"))) (xc3 : PySem.W.findIn K (.ref C3) "__getattr__" = some none) (xd3 : PySem.W.hasDictIn K C3 = true) (xe3 : PySem.W.findIn K (.ref C3) "__class__" = some (some (.builtin "object.__class__"))) (xm3 : PySem.W.mroIn K C3 (.type "object") = some true) (xv3 : PySem.W.subIn K (.ref C3) (.type "ValueError") = some true) (xi3 : PySem.W.isClsIn K C3 = true) (x3_0 : PySem.W.subIn K (.ref C3) (.ref C0) = some true)
 (x3_1 : PySem.W.subIn K (.ref C3) (.ref C1) = some false) (x3_2 : PySem.W.subIn K (.ref C3) (.ref C2) = some false) (x3_3 : PySem.W.subIn K (.ref C3) (.ref C3) = some true) (x3_4 : PySem.W.subIn K (.ref C3) (.ref C4) = some false) (x3_8 : PySem.W.subIn K (.ref C3) (.ref C8) = some false)
    (xq4 : PySem.W.excIn K C4 [.type "ValueError", .type "Exception", .type "BaseException", .type "object"] "ValueError.__new__" = true) (xk4 : PySem.W.keepIn K (.ref C4) = true) (xb4 : PySem.W.subIn K (.ref C4) (.type "BaseException") = some true) (xt4 : PySem.W.typeIn K (.ref C4) = some (.type "type"))
    (xa4 : PySem.W.findIn K (.ref C4) "__getattribute__" = some (some (.builtin "BaseException.__getattribute__"))) (xc4 : PySem.W.findIn K (.ref C4) "__getattr__" = some none) (xd4 : PySem.W.hasDictIn K C4 = true) (xe4 : PySem.W.findIn K (.ref C4) "__class__" = some (some (.builtin "object.__class__"))) (xm4 : PySem.W.mroIn K C4 (.type "object") = some true) (xv4 : PySem.W.subIn K (.ref C4) (.type "ValueError") = some true) (xi4 : PySem.W.isClsIn K C4 = true) (x4_0 : PySem.W.subIn K (.ref C4) (.ref C0) = some true)
 (x4_1 : PySem.W.subIn K (.ref C4) (.ref C1) = some false) (x4_2 : PySem.W.subIn K (.ref C4) (.ref C2) = some false) (x4_3 : PySem.W.subIn K (.ref C4) (.ref C3) = some false) (x4_4 : PySem.W.subIn K (.ref C4) (.ref C4) = some true) (x4_8 : PySem.W.subIn K (.ref C4) (.ref C8) = some false)
    (xq8 : PySem.W.excIn K C8 [.type "ValueError", .type "Exception", .type "BaseException", .type "object"] "ValueError.__new__" = true) (xk8 : PySem.W.keepIn K (.ref C8) = true) (xb8 : PySem.W.subIn K (.ref C8) (.type "BaseException") = some true) (xt8 : PySem.W.typeIn K (.ref C8) = some (.type "type"))
    (xa8 : PySem.W.findIn K (.ref C8) "__getattribute__" = some (some (.builtin "BaseException.__getattribute__"))) (xc8 : PySem.W.findIn K (.ref C8) "__getattr__" = some none) (xd8 : PySem.W.hasDictIn K C8 = true) (xe8 : PySem.W.findIn K (.ref C8) "__class__" = some (some (.builtin "object.__class__"))) (xm8 : PySem.W.mroIn K C8 (.type "object") = some true) (xv8 : PySem.W.subIn K (.ref C8) (.type "ValueError") = some true) (xi8 : PySem.W.isClsIn K C8 = true) (x8_0 : PySem.W.subIn K (.ref C8) (.ref C0) = some true)
 (x8_1 : PySem.W.subIn K (.ref C8) (.ref C1) = some false) (x8_2 : PySem.W.subIn K (.ref C8) (.ref C2) = some false) (x8_3 : PySem.W.subIn K (.ref C8) (.ref C3) = some false) (x8_4 : PySem.W.subIn K (.ref C8) (.ref C4) = some false) (x8_8 : PySem.W.subIn K (.ref C8) (.ref C8) = some true)
    (xn : PySem.W.specialIn K (.builtin "object.__class__") "__get__" = some (some (.builtin "getset_descriptor.__get__"))) (xz : PySem.W.takesIn K (.builtin "object.__class__") = some true)
    (xb0 : PySem.W.subIn K (.ref C0) (.type "BaseException") = some true) (xt0 : PySem.W.typeIn K (.ref C0) = some (.type "type")) (xi0 : PySem.W.isClsIn K C0 = true)
    : ∃ fd : FuncData, (∀ (s : Shared) (v : Value), BindsTo s fd ⟨[v], []⟩ [("_law_script", v)]) ∧ ∀ base : Heap, K.In base → base.Ns mainGlobals mg → FnOk l.prog w K mg base CX0 7 fa fd ["_law_script"] (sp_law K) := by
  have e := hfa.symm.trans (PySem.W.mg_of X G a19)
  cases e
  have B : Bt mg := ⟨PySem.W.mg_none_of X G z_len, PySem.W.mg_none_of X G z_range, PySem.W.mg_none_of X G z_sum, PySem.W.mg_none_of X G z_isinstance, PySem.W.mg_none_of X G z_int, PySem.W.mg_none_of X G z_bool, PySem.W.mg_none_of X G z_list, PySem.W.mg_none_of X G z_tuple, PySem.W.mg_none_of X G z_sorted, PySem.W.mg_none_of X G z_max, PySem.W.mg_none_of X G z_min, PySem.W.mg_none_of X G z_all, PySem.W.mg_none_of X G z_any, PySem.W.mg_none_of X G z_zip, PySem.W.mg_none_of X G z_str, PySem.W.mg_none_of X G z_ValueError⟩
  obtain ⟨cl, el0, el1, el2, el3, el4, el8⟩ : ∃ cl : Nat → Addr, cl 0 = C0 ∧ cl 1 = C1 ∧ cl 2 = C2 ∧ cl 3 = C3 ∧ cl 4 = C4 ∧ cl 8 = C8 := ⟨fun n => if n = 0 then C0 else if n = 1 then C1 else if n = 2 then C2 else if n = 3 then C3 else if n = 4 then C4 else if n = 8 then C8 else C0, rfl, rfl, rfl, rfl, rfl, rfl⟩
  have xG0 : mg "SplitError" = some (.ref (cl 0)) := by rw [el0]; exact PySem.W.mg_of X G xg0
  have x_NoPeople : ExC K mg "NoPeople" (cl 1) := by rw [el1]; exact ⟨PySem.W.mg_of X G xg1, xq1, xk1, xb1, xt1⟩
  have x_TooMany : ExC K mg "TooMany" (cl 2) := by rw [el2]; exact ⟨PySem.W.mg_of X G xg2, xq2, xk2, xb2, xt2⟩
  have x_Uneven : ExC K mg "Uneven" (cl 3) := by rw [el3]; exact ⟨PySem.W.mg_of X G xg3, xq3, xk3, xb3, xt3⟩
  have x_BadBid : ExC K mg "BadBid" (cl 4) := by rw [el4]; exact ⟨PySem.W.mg_of X G xg4, xq4, xk4, xb4, xt4⟩
  have x_NoText : ExC K mg "NoText" (cl 8) := by rw [el8]; exact ⟨PySem.W.mg_of X G xg8, xq8, xk8, xb8, xt8⟩
  have xm : ExM K cl [1, 2, 3, 4, 8] := by
    constructor
    · intro i hi j hj
      simp only [List.mem_cons, List.not_mem_nil, or_false] at hi hj
      rcases hi with rfl | rfl | rfl | rfl | rfl
      · rcases hj with rfl | rfl | rfl | rfl | rfl
        · rw [el1]; exact exm_by xb1 xi1 xt1 x1_1
        · rw [el1, el2]; exact exm_by xb2 xi2 xt2 x1_2
        · rw [el1, el3]; exact exm_by xb3 xi3 xt3 x1_3
        · rw [el1, el4]; exact exm_by xb4 xi4 xt4 x1_4
        · rw [el1, el8]; exact exm_by xb8 xi8 xt8 x1_8
      · rcases hj with rfl | rfl | rfl | rfl | rfl
        · rw [el2, el1]; exact exm_by xb1 xi1 xt1 x2_1
        · rw [el2]; exact exm_by xb2 xi2 xt2 x2_2
        · rw [el2, el3]; exact exm_by xb3 xi3 xt3 x2_3
        · rw [el2, el4]; exact exm_by xb4 xi4 xt4 x2_4
        · rw [el2, el8]; exact exm_by xb8 xi8 xt8 x2_8
      · rcases hj with rfl | rfl | rfl | rfl | rfl
        · rw [el3, el1]; exact exm_by xb1 xi1 xt1 x3_1
        · rw [el3, el2]; exact exm_by xb2 xi2 xt2 x3_2
        · rw [el3]; exact exm_by xb3 xi3 xt3 x3_3
        · rw [el3, el4]; exact exm_by xb4 xi4 xt4 x3_4
        · rw [el3, el8]; exact exm_by xb8 xi8 xt8 x3_8
      · rcases hj with rfl | rfl | rfl | rfl | rfl
        · rw [el4, el1]; exact exm_by xb1 xi1 xt1 x4_1
        · rw [el4, el2]; exact exm_by xb2 xi2 xt2 x4_2
        · rw [el4, el3]; exact exm_by xb3 xi3 xt3 x4_3
        · rw [el4]; exact exm_by xb4 xi4 xt4 x4_4
        · rw [el4, el8]; exact exm_by xb8 xi8 xt8 x4_8
      · rcases hj with rfl | rfl | rfl | rfl | rfl
        · rw [el8, el1]; exact exm_by xb1 xi1 xt1 x8_1
        · rw [el8, el2]; exact exm_by xb2 xi2 xt2 x8_2
        · rw [el8, el3]; exact exm_by xb3 xi3 xt3 x8_3
        · rw [el8, el4]; exact exm_by xb4 xi4 xt4 x8_4
        · rw [el8]; exact exm_by xb8 xi8 xt8 x8_8
    · intro i hi
      simp only [List.mem_cons, List.not_mem_nil, or_false] at hi
      rcases hi with rfl | rfl | rfl | rfl | rfl
      · rw [el1, el0]; exact exm_by xb0 xi0 xt0 x1_0
      · rw [el2, el0]; exact exm_by xb0 xi0 xt0 x2_0
      · rw [el3, el0]; exact exm_by xb0 xi0 xt0 x3_0
      · rw [el4, el0]; exact exm_by xb0 xi0 xt0 x4_0
      · rw [el8, el0]; exact exm_by xb0 xi0 xt0 x8_0
    · intro i hi
      simp only [List.mem_cons, List.not_mem_nil, or_false] at hi
      rcases hi with rfl | rfl | rfl | rfl | rfl
      · rw [el1]; exact ⟨xa1, xc1, xb1, xd1, xe1, xn, xz, xm1⟩
      · rw [el2]; exact ⟨xa2, xc2, xb2, xd2, xe2, xn, xz, xm2⟩
      · rw [el3]; exact ⟨xa3, xc3, xb3, xd3, xe3, xn, xz, xm3⟩
      · rw [el4]; exact ⟨xa4, xc4, xb4, xd4, xe4, xn, xz, xm4⟩
      · rw [el8]; exact ⟨xa8, xc8, xb8, xd8, xe8, xn, xz, xm8⟩
    · intro i hi
      simp only [List.mem_cons, List.not_mem_nil, or_false] at hi
      rcases hi with rfl | rfl | rfl | rfl | rfl
      · rw [el1]; exact kit_by xv1
      · rw [el2]; exact kit_by xv2
      · rw [el3]; exact kit_by xv3
      · rw [el4]; exact kit_by xv4
      · rw [el8]; exact kit_by xv8
  have c_MOST_PEOPLE : KInt mg "MOST_PEOPLE" 9 := ⟨_, PySem.W.mg_of X G q_MOST_PEOPLE⟩
  have c_MOST_GOODS : KInt mg "MOST_GOODS" 40 := ⟨_, PySem.W.mg_of X G q_MOST_GOODS⟩
  have c_GREATEST_BID : KInt mg "GREATEST_BID" 1000000000000 := ⟨_, PySem.W.mg_of X G q_GREATEST_BID⟩
  have c_MOST_FIGURES : KInt mg "MOST_FIGURES" 13 := ⟨_, PySem.W.mg_of X G q_MOST_FIGURES⟩
  have F0 := fun_mk (st := s_is_number) l0 c0 k0
  have b0 := F0.binds (ps := ["thing"]) fun _ _ _ _ _ _ us hl => match us, hl with | [_], _ => rfl
  have D0 : DnX K mg "is_number" s_is_number ["thing"] := ⟨_, _, F0, PySem.W.mg_of X G a0, b0⟩
  have F1 := fun_mk (st := s_is_bid) l1 c1 k1
  have b1 := F1.binds (ps := ["thing"]) fun _ _ _ _ _ _ us hl => match us, hl with | [_], _ => rfl
  have D1 : DnX K mg "is_bid" s_is_bid ["thing"] := ⟨_, _, F1, PySem.W.mg_of X G a1, b1⟩
  have F2 := fun_mk (st := s_check_line) l2 c2 k2
  have b2 := F2.binds (ps := ["line", "many"]) fun _ _ _ _ _ _ us hl => match us, hl with | [_, _], _ => rfl
  have D2 : DnX K mg "check_line" s_check_line ["line", "many"] := ⟨_, _, F2, PySem.W.mg_of X G a2, b2⟩
  have F3 := fun_mk (st := s_check_bids) l3 c3 k3
  have b3 := F3.binds (ps := ["bids"]) fun _ _ _ _ _ _ us hl => match us, hl with | [_], _ => rfl
  have D3 : DnX K mg "check_bids" s_check_bids ["bids"] := ⟨_, _, F3, PySem.W.mg_of X G a3, b3⟩
  have F4 := fun_mk (st := s_is_written) l4 c4 k4
  have b4 := F4.binds (ps := ["word"]) fun _ _ _ _ _ _ us hl => match us, hl with | [_], _ => rfl
  have D4 : DnX K mg "is_written" s_is_written ["word"] := ⟨_, _, F4, PySem.W.mg_of X G a4, b4⟩
  have F5 := fun_mk (st := s_numbers) l5 c5 k5
  have b5 := F5.binds (ps := ["line"]) fun _ _ _ _ _ _ us hl => match us, hl with | [_], _ => rfl
  have D5 : DnX K mg "numbers" s_numbers ["line"] := ⟨_, _, F5, PySem.W.mg_of X G a5, b5⟩
  have F6 := fun_mk (st := s_read) l6 c6 k6
  have b6 := F6.binds (ps := ["text"]) fun _ _ _ _ _ _ us hl => match us, hl with | [_], _ => rfl
  have D6 : DnX K mg "read" s_read ["text"] := ⟨_, _, F6, PySem.W.mg_of X G a6, b6⟩
  have F7 := fun_mk (st := s__law_whole) l7 c7 k7
  have b7 := F7.binds (ps := ["_law_found"]) fun _ _ _ _ _ _ us hl => match us, hl with | [_], _ => rfl
  have D7 : DnX K mg "_law_whole" s__law_whole ["_law_found"] := ⟨_, _, F7, PySem.W.mg_of X G a7, b7⟩
  have F8 := fun_mk (st := s__law_cell) l8 c8 k8
  have b8 := F8.binds (ps := ["_law_script", "_law_k"]) fun _ _ _ _ _ _ us hl => match us, hl with | [_, _], _ => rfl
  have D8 : DnX K mg "_law_cell" s__law_cell ["_law_script", "_law_k"] := ⟨_, _, F8, PySem.W.mg_of X G a8, b8⟩
  have F9 := fun_mk (st := s__law_draws) l9 c9 k9
  have b9 := F9.binds (ps := ["_law_cell_here", "_law_many"]) fun _ _ _ _ _ _ us hl => match us, hl with | [_, _], _ => rfl
  have D9 : DnX K mg "_law_draws" s__law_draws ["_law_cell_here", "_law_many"] := ⟨_, _, F9, PySem.W.mg_of X G a9, b9⟩
  have F10 := fun_mk (st := s__law_number) l10 c10 k10
  have b10 := F10.binds (ps := ["_law_word_here"]) fun _ _ _ _ _ _ us hl => match us, hl with | [_], _ => rfl
  have D10 : DnX K mg "_law_number" s__law_number ["_law_word_here"] := ⟨_, _, F10, PySem.W.mg_of X G a10, b10⟩
  have F11 := fun_mk (st := s__law_word) l11 c11 k11
  have b11 := F11.binds (ps := ["_law_cell_here"]) fun _ _ _ _ _ _ us hl => match us, hl with | [_], _ => rfl
  have D11 : DnX K mg "_law_word" s__law_word ["_law_cell_here"] := ⟨_, _, F11, PySem.W.mg_of X G a11, b11⟩
  have F12 := fun_mk (st := s__law_sign) l12 c12 k12
  have b12 := F12.binds (ps := ["_law_cell_here"]) fun _ _ _ _ _ _ us hl => match us, hl with | [_], _ => rfl
  have D12 : DnX K mg "_law_sign" s__law_sign ["_law_cell_here"] := ⟨_, _, F12, PySem.W.mg_of X G a12, b12⟩
  have F13 := fun_mk (st := s__law_row) l13 c13 k13
  have b13 := F13.binds (ps := ["_law_line"]) fun _ _ _ _ _ _ us hl => match us, hl with | [_], _ => rfl
  have D13 : DnX K mg "_law_row" s__law_row ["_law_line"] := ⟨_, _, F13, PySem.W.mg_of X G a13, b13⟩
  have F14 := fun_mk (st := s__law_lines) l14 c14 k14
  have b14 := F14.binds (ps := ["_law_text"]) fun _ _ _ _ _ _ us hl => match us, hl with | [_], _ => rfl
  have D14 : DnX K mg "_law_lines" s__law_lines ["_law_text"] := ⟨_, _, F14, PySem.W.mg_of X G a14, b14⟩
  have F15 := fun_mk (st := s__law_due) l15 c15 k15
  have b15 := F15.binds (ps := ["_law_rows"]) fun _ _ _ _ _ _ us hl => match us, hl with | [_], _ => rfl
  have D15 : DnX K mg "_law_due" s__law_due ["_law_rows"] := ⟨_, _, F15, PySem.W.mg_of X G a15, b15⟩
  have F16 := fun_mk (st := s__law_told) l16 c16 k16
  have b16 := F16.binds (ps := ["_law_text"]) fun _ _ _ _ _ _ us hl => match us, hl with | [_], _ => rfl
  have D16 : DnX K mg "_law_told" s__law_told ["_law_text"] := ⟨_, _, F16, PySem.W.mg_of X G a16, b16⟩
  have F17 := fun_mk (st := s__law_by_base) l17 c17 k17
  have b17 := F17.binds (ps := ["_law_text"]) fun _ _ _ _ _ _ us hl => match us, hl with | [_], _ => rfl
  have D17 : DnX K mg "_law_by_base" s__law_by_base ["_law_text"] := ⟨_, _, F17, PySem.W.mg_of X G a17, b17⟩
  have F18 := fun_mk (st := s__law_kinds) l18 c18 k18
  have b18 := F18.binds (ps := ["_law_found"]) fun _ _ _ _ _ _ us hl => match us, hl with | [_], _ => rfl
  have D18 : DnX K mg "_law_kinds" s__law_kinds ["_law_found"] := ⟨_, _, F18, PySem.W.mg_of X G a18, b18⟩
  have F19 := fun_mk (st := s_law) l19 c19 k19
  have b19 := F19.binds (ps := ["_law_script"]) fun _ _ _ _ _ _ us hl => match us, hl with | [_], _ => rfl
  have D19 : DnX K mg "law" s_law ["_law_script"] := ⟨_, _, F19, PySem.W.mg_of X G a19, b19⟩
  exact ⟨PySem.W.fnOf "law" "law" (defArgs s_law) (defBody s_law) (defScope s_law) .none kV19 dc19 pm19 an19 cd19 ct19, fun s v => .of_eq rfl, fun base _ _ => by
    have O_is_number := ok_is_number (P := l.prog) (w := w) (base := base) D0 B
    have O_is_bid := ok_is_bid (P := l.prog) (w := w) (base := base) D1 B c_GREATEST_BID O_is_number
    have O_check_line := ok_check_line (P := l.prog) (w := w) (base := base) (cl := cl) D2 B x_Uneven x_BadBid O_is_bid
    have O_check_bids := ok_check_bids (P := l.prog) (w := w) (base := base) (cl := cl) D3 B x_NoPeople x_TooMany c_MOST_PEOPLE c_MOST_GOODS O_check_line
    have O_is_written := ok_is_written (P := l.prog) (w := w) (base := base) D4 B c_MOST_FIGURES
    have O_numbers := ok_numbers (P := l.prog) (w := w) (base := base) (cl := cl) D5 B x_NoText O_is_written
    have O_read := ok_read (P := l.prog) (w := w) (base := base) (cl := cl) D6 B x_NoText O_check_bids O_numbers
    have O__law_whole := ok__law_whole (P := l.prog) (w := w) (base := base) D7 B
    have O__law_cell := ok__law_cell (P := l.prog) (w := w) (base := base) D8 B
    have O__law_draws := ok__law_draws (P := l.prog) (w := w) (base := base) D9 B
    have O__law_number := ok__law_number (P := l.prog) (w := w) (base := base) D10 B
    have O__law_word := ok__law_word (P := l.prog) (w := w) (base := base) D11 B
    have O__law_sign := ok__law_sign (P := l.prog) (w := w) (base := base) D12 B
    have O__law_row := ok__law_row (P := l.prog) (w := w) (base := base) D13 B O__law_number
    have O__law_lines := ok__law_lines (P := l.prog) (w := w) (base := base) D14 B O__law_row
    have O__law_due := ok__law_due (P := l.prog) (w := w) (base := base) D15 B
    have O__law_told := ok__law_told (P := l.prog) (w := w) (base := base) (cl := cl) D16 B x_NoPeople x_TooMany x_Uneven x_BadBid x_NoText xm O_read
    have O__law_by_base := ok__law_by_base (P := l.prog) (w := w) (base := base) (cl := cl) D17 B xG0 xm O_read
    have O__law_kinds := ok__law_kinds (P := l.prog) (w := w) (base := base) D18 B O__law_whole
    exact ok_fn F19 (PySem.W.mg_of X G a19) (ok_law (P := l.prog) (w := w) (base := base) D19 B O__law_told O__law_due O__law_cell O__law_draws O__law_lines O__law_kinds O__law_word O__law_by_base O__law_sign)⟩
end Fk07
open PySem PySem.W PyProof.Rows
set_option maxHeartbeats 0 in
theorem PySem.Challenge.cw_fairsplit_k07_texts_read_holds : PySem.Challenge.rw_fairsplit_k07_texts_read.Holds := by
  w_on; o_law; k_head; (case hw => w_witness2)
  k_fill
  refine L2.walk_of (l := PySem.Challenge.rw_fairsplit_k07_texts_read) (n := 63) (k := 7) (x := "_law_script") (CX := fun _ => L2.CX0) (sp := fun w => Fk07.sp_law _) rfl (by decide) rfl ⟨rfl, by decide, by decide⟩ (fun w h Y => PySem.W.kIn_of Y) ?F (fun _ H a ns hl hO hS => Fk07.law_start hl hS) (fun _ _ _ _ _ h => h)
  case F =>
    intro w mg fa h KX G hmg
    refine' Fk07.all_mk KX G hmg ?a0 ?l0 ?c0 ?k0 ?a1 ?l1 ?c1 ?k1 ?a2 ?l2 ?c2 ?k2 ?a3 ?l3 ?c3 ?k3 ?a4 ?l4 ?c4 ?k4 ?a5 ?l5 ?c5 ?k5 ?a6 ?l6 ?c6 ?k6 ?a7 ?l7 ?c7 ?k7 ?a8 ?l8 ?c8 ?k8 ?a9 ?l9 ?c9 ?k9 ?a10 ?l10 ?c10 ?k10 ?a11 ?l11 ?c11 ?k11 ?a12 ?l12 ?c12 ?k12 ?a13 ?l13 ?c13 ?k13 ?a14 ?l14 ?c14 ?k14 ?a15 ?l15 ?c15 ?k15 ?a16 ?l16 ?c16 ?k16 ?a17 ?l17 ?c17 ?k17 ?a18 ?l18 ?c18 ?k18 ?a19 ?l19 ?c19 ?k19 ?z_len ?z_range ?z_sum ?z_isinstance ?z_int ?z_bool ?z_list ?z_tuple ?z_sorted ?z_max ?z_min ?z_all ?z_any ?z_zip ?z_str ?z_ValueError ?q_MOST_PEOPLE ?q_MOST_GOODS ?q_GREATEST_BID ?q_MOST_FIGURES ?xg0 ?xg1 ?xg2 ?xg3 ?xg4 ?xg8 ?xq1 ?xk1 ?xb1 ?xt1 ?xa1 ?xc1 ?xd1 ?xe1 ?xm1 ?xv1 ?xi1 ?x1_0 ?x1_1 ?x1_2 ?x1_3 ?x1_4 ?x1_8 ?xq2 ?xk2 ?xb2 ?xt2 ?xa2 ?xc2 ?xd2 ?xe2 ?xm2 ?xv2 ?xi2 ?x2_0 ?x2_1 ?x2_2 ?x2_3 ?x2_4 ?x2_8 ?xq3 ?xk3 ?xb3 ?xt3 ?xa3 ?xc3 ?xd3 ?xe3 ?xm3 ?xv3 ?xi3 ?x3_0 ?x3_1 ?x3_2 ?x3_3 ?x3_4 ?x3_8 ?xq4 ?xk4 ?xb4 ?xt4 ?xa4 ?xc4 ?xd4 ?xe4 ?xm4 ?xv4 ?xi4 ?x4_0 ?x4_1 ?x4_2 ?x4_3 ?x4_4 ?x4_8 ?xq8 ?xk8 ?xb8 ?xt8 ?xa8 ?xc8 ?xd8 ?xe8 ?xm8 ?xv8 ?xi8 ?x8_0 ?x8_1 ?x8_2 ?x8_3 ?x8_4 ?x8_8 ?xn ?xz ?xb0 ?xt0 ?xi0
    (case a0 => k_is); (case l0 => k_is); (case c0 => k_is); (case k0 => k_is); (case a1 => k_is); (case l1 => k_is); (case c1 => k_is); (case k1 => k_is); (case a2 => k_is); (case l2 => k_is); (case c2 => k_is); (case k2 => k_is)
    (case a3 => k_is); (case l3 => k_is); (case c3 => k_is); (case k3 => k_is); (case a4 => k_is); (case l4 => k_is); (case c4 => k_is); (case k4 => k_is); (case a5 => k_is); (case l5 => k_is); (case c5 => k_is); (case k5 => k_is)
    (case a6 => k_is); (case l6 => k_is); (case c6 => k_is); (case k6 => k_is); (case a7 => k_is); (case l7 => k_is); (case c7 => k_is); (case k7 => k_is); (case a8 => k_is); (case l8 => k_is); (case c8 => k_is); (case k8 => k_is)
    (case a9 => k_is); (case l9 => k_is); (case c9 => k_is); (case k9 => k_is); (case a10 => k_is); (case l10 => k_is); (case c10 => k_is); (case k10 => k_is); (case a11 => k_is); (case l11 => k_is); (case c11 => k_is); (case k11 => k_is)
    (case a12 => k_is); (case l12 => k_is); (case c12 => k_is); (case k12 => k_is); (case a13 => k_is); (case l13 => k_is); (case c13 => k_is); (case k13 => k_is); (case a14 => k_is); (case l14 => k_is); (case c14 => k_is); (case k14 => k_is)
    (case a15 => k_is); (case l15 => k_is); (case c15 => k_is); (case k15 => k_is); (case a16 => k_is); (case l16 => k_is); (case c16 => k_is); (case k16 => k_is); (case a17 => k_is); (case l17 => k_is); (case c17 => k_is); (case k17 => k_is)
    (case a18 => k_is); (case l18 => k_is); (case c18 => k_is); (case k18 => k_is); (case a19 => k_is); (case l19 => k_is); (case c19 => k_is); (case k19 => k_is); (case z_len => k_is); (case z_range => k_is); (case z_sum => k_is); (case z_isinstance => k_is)
    (case z_int => k_is); (case z_bool => k_is); (case z_list => k_is); (case z_tuple => k_is); (case z_sorted => k_is); (case z_max => k_is); (case z_min => k_is); (case z_all => k_is); (case z_any => k_is); (case z_zip => k_is); (case z_str => k_is); (case z_ValueError => k_is)
    (case q_MOST_PEOPLE => k_is); (case q_MOST_GOODS => k_is); (case q_GREATEST_BID => k_is); (case q_MOST_FIGURES => k_is); (case xg0 => k_is); (case xg1 => k_is); (case xg2 => k_is); (case xg3 => k_is); (case xg4 => k_is); (case xg8 => k_is); (case xq1 => k_exc); (case xk1 => k_is)
    (case xb1 => k_is); (case xt1 => k_is); (case xa1 => k_is); (case xc1 => k_is); (case xd1 => k_is); (case xe1 => k_is); (case xm1 => k_is); (case xv1 => k_is); (case xi1 => k_is); (case x1_0 => k_is); (case x1_1 => k_is); (case x1_2 => k_is)
    (case x1_3 => k_is); (case x1_4 => k_is); (case x1_8 => k_is); (case xq2 => k_exc); (case xk2 => k_is); (case xb2 => k_is); (case xt2 => k_is); (case xa2 => k_is); (case xc2 => k_is); (case xd2 => k_is); (case xe2 => k_is); (case xm2 => k_is)
    (case xv2 => k_is); (case xi2 => k_is); (case x2_0 => k_is); (case x2_1 => k_is); (case x2_2 => k_is); (case x2_3 => k_is); (case x2_4 => k_is); (case x2_8 => k_is); (case xq3 => k_exc); (case xk3 => k_is); (case xb3 => k_is); (case xt3 => k_is)
    (case xa3 => k_is); (case xc3 => k_is); (case xd3 => k_is); (case xe3 => k_is); (case xm3 => k_is); (case xv3 => k_is); (case xi3 => k_is); (case x3_0 => k_is); (case x3_1 => k_is); (case x3_2 => k_is); (case x3_3 => k_is); (case x3_4 => k_is)
    (case x3_8 => k_is); (case xq4 => k_exc); (case xk4 => k_is); (case xb4 => k_is); (case xt4 => k_is); (case xa4 => k_is); (case xc4 => k_is); (case xd4 => k_is); (case xe4 => k_is); (case xm4 => k_is); (case xv4 => k_is); (case xi4 => k_is)
    (case x4_0 => k_is); (case x4_1 => k_is); (case x4_2 => k_is); (case x4_3 => k_is); (case x4_4 => k_is); (case x4_8 => k_is); (case xq8 => k_exc); (case xk8 => k_is); (case xb8 => k_is); (case xt8 => k_is); (case xa8 => k_is); (case xc8 => k_is)
    (case xd8 => k_is); (case xe8 => k_is); (case xm8 => k_is); (case xv8 => k_is); (case xi8 => k_is); (case x8_0 => k_is); (case x8_1 => k_is); (case x8_2 => k_is); (case x8_3 => k_is); (case x8_4 => k_is); (case x8_8 => k_is); (case xn => k_is)
    (case xz => k_is); (case xb0 => k_is); (case xt0 => k_is); (case xi0 => k_is)
