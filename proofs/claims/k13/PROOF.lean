import PyProof.Rows.All
import Wide.All
import OpenK.AllK
import Wide.FinOn
import HandS.ForMost
import HandS.Evl
import HandS.IsInst
import HandS.Conv
import HandS.SortInts
import HandS.Style
import HandS.WordsExc
import HandS.Zip
import HandS.More
import KE.KAssignIn
import KE.GoesRaise
import HandS.Deep
import HandS.Walk
import HandS.Replace
import HandS.Text
import HandS.StrMore
import HandS.Replace
import HandS.Walk
import HandS.ForExc
import HandS.TryMany
import HandS.ExcIs
import PySem.Challenge.RW_fairsplit_k13_whole_table_fair
set_option Elab.async false
set_option linter.all false
set_option maxRecDepth 100000
set_option maxHeartbeats 4000000
/-! Fs: what all the proofs share. -/
namespace Fs
open PySem PySem.Spec PyProof.Rows L2 Evl
/-- the built-in names are not the program's own -/
structure Bt (mg : Str → Option Value) : Prop where
  len : mg "len" = none
  range : mg "range" = none
  sum : mg "sum" = none
  isinstance : mg "isinstance" = none
  int : mg "int" = none
  bool : mg "bool" = none
  list : mg "list" = none
  tuple : mg "tuple" = none
  sorted : mg "sorted" = none
  max : mg "max" = none
  min : mg "min" = none
  all : mg "all" = none
  any : mg "any" = none
  zip : mg "zip" = none
  str : mg "str" = none
  ValueError : mg "ValueError" = none
/-- a def that stands in the text -/
def DnX (K : PySem.W.Frag) (mg : Str → Option Value) (x : Str) (st : Stmt) (ps : List Str) : Prop :=
  ∃ f fd, Fun K x x st f fd ∧ mg x = some (.ref f) ∧ Binds K fd ps []
/-- a def that keeps its promise -/
def Ok (P : Program) (w : World) (K : PySem.W.Frag) (mg : Str → Option Value) (base : Heap) (CX : CXT) (k : Nat) (x : Str) (ps : List Str) (sp : Sp) : Prop :=
  ∃ f fd, FnOk P w K mg base CX k f fd ps sp ∧ mg x = some (.ref f) ∧ PySem.W.keepIn K (.ref f) = true ∧ Binds K fd ps [] ∧ ∃ oc od osl, K.lookup f = some ⟨oc, od, .func fd, osl⟩
section
variable {P : Program} {w : World} {K : PySem.W.Frag} {mg : Str → Option Value} {base : Heap}
theorem ok_of {x : Str} {st : Stmt} {N ps : List Str} {k : Nat} {sp : Sp} (D : DnX K mg x st ps) (S : FnScope N ps (defScope st)) (len : ∀ vs H Q E, sp vs H Q E → vs.length = ps.length)
    (hbody : ∀ (f : Addr) (cdv : Value) (A : Around) (outer : List Env) (s : Shared) (H : Hp) (vs : List V) (Q : VK) (E : XK), Room k (A.deeper (envOfC x (defScope st) s.heap.objs.size f cdv)) → sp vs H Q E →
      ∃ t, PSs (cxOf CX0 P w K mg base N x (defScope st) f cdv A outer s H E).nox (defBody st) t ∧ t { nx := fun _ H' => Q .non H', rt := Q } (start N vs) H) : Ok P w K mg base CX0 (k + 1) x ps sp := by
  obtain ⟨f, fd, F, g, b⟩ := D
  have F0 := F
  obtain ⟨oc, od, _, _, _, _, _, _, osl, _, lk, _⟩ := F0.ex
  exact ⟨f, fd, F.ok S len fun cdv A outer s H vs Q E hr h => hbody f cdv A outer s H vs Q E hr h, g, F.kp, b, oc, od, osl, lk⟩
theorem Ok.mono {CX : CXT} {j k : Nat} {x : Str} {ps : List Str} {sp : Sp} (h : Ok P w K mg base CX j x ps sp) (l : j ≤ k) : Ok P w K mg base CX k x ps sp := by
  obtain ⟨f, fd, F, g, b⟩ := h
  exact ⟨f, fd, F.mono l, g, b⟩
end
/-- a module's constant -/
def KInt (mg : Str → Option Value) (x : Str) (i : Int) : Prop := ∃ t, mg x = some (.int i t)
/-- the law's own def, as the head wants it -/
theorem ok_fn {P : Program} {w : World} {K : PySem.W.Frag} {mg : Str → Option Value} {base : Heap} {CX : CXT} {k : Nat} {x : Str} {st : Stmt} {ps : List Str} {sp : Sp} {f : Addr} {fd : FuncData} (F : Fun K x x st f fd) (g : mg x = some (.ref f)) (h : Ok P w K mg base CX k x ps sp) :
    FnOk P w K mg base CX k f fd ps sp := by
  obtain ⟨f2, fd2, F2, g2, _, _, oc2, od2, osl2, lk2⟩ := h
  cases g.symm.trans g2
  obtain ⟨oc, od, _, _, _, _, _, _, osl, _, lk, _⟩ := F.ex
  cases lk.symm.trans lk2
  exact F2
section
variable {X : Cx}
theorem pe_const {x : Str} {i : Int} {pos : Pos} (hg : Gl X x) (h : KInt X.mg x i) (hd : (x == ("__debug__" : Str)) = false := by decide) : PE X (.Name x pos) (tC (.int i)) := by
  obtain ⟨t, hm⟩ := h
  exact pe_glob hg hm ⟨t, rfl⟩ hd
theorem pe_ok {CX : CXT} {k : Nat} {x : Str} {ps : List Str} {sp : Sp} {E : XK} {e : Expr} {es : List Expr} {t : TA} {p pos : Pos} (h : Ok X.prog X.w X.K X.mg X.base CX k x ps sp) (hr : Room k X.A) (hg : Gl X x) (hx : Passes CX X E) (ha : PA X (e :: es) t)
    (hdb : (x == ("__debug__" : Str)) = false := by decide) (he : starEach (e :: es) X.env = (false, eval e X.env) :: starEach es X.env := by rfl) (hpl : (backTo pos (starEach es X.env)).any (·.1) = false := by rfl) :
    PE X (.Call (.Name x p) (e :: es) [] pos) (tCall sp [] E t) := by
  obtain ⟨f, fd, F, hm, hk, hb, _⟩ := h
  exact pe_call F hr hg hm hk hb .nil hx ha hdb he hpl
end
section
variable {X : Cx} {K : PySem.W.Frag}
theorem ixL (hK : X.K = K := by rfl) : IxR X (rIxL K) := by
  subst hK
  exact ix_list
theorem ixT (hK : X.K = K := by rfl) : IxR X (rIxT K) := by
  subst hK
  exact ix_tup
theorem lenK (hK : X.K = K := by rfl) : CallR X (.builtin "len") (rLenS K) := by
  subst hK
  exact call_len_seq
theorem listK (hK : X.K = K := by rfl) : CallR X (.type "list") (rListS K) := by
  subst hK
  exact call_list_of
theorem isiK (hK : X.K = K := by rfl) : CallR X (.builtin "isinstance") (rIsi K) := by
  subst hK
  exact call_isi
theorem sumK (hc : X.calm = true) (hK : X.K = K := by rfl) : CallR X (.builtin "sum") (rSum K) := by
  subst hK
  exact cr_sum hc
theorem allK (hc : X.calm = true) (hK : X.K = K := by rfl) : CallR X (.builtin "all") (rAll K) := by
  subst hK
  exact cr_all hc
theorem anyK (hc : X.calm = true) (hK : X.K = K := by rfl) : CallR X (.builtin "any") (rAny K) := by
  subst hK
  exact cr_any hc
theorem maxK (hc : X.calm = true) (hK : X.K = K := by rfl) : CallR X (.builtin "max") (rMax K) := by
  subst hK
  exact cr_max hc
theorem minK (hc : X.calm = true) (hK : X.K = K := by rfl) : CallR X (.builtin "min") (rMin K) := by
  subst hK
  exact cr_min hc
theorem sortedK (hK : X.K = K := by rfl) : CallR X (.builtin "sorted") (rSortedI K) := by
  subst hK
  exact cr_sortedI
theorem slK (hK : X.K = K := by rfl) : SlR X (rSlL K) := by
  subst hK
  exact sl_list
theorem eqK (hu : X.A.units + 64 < cLine) (hK : X.K = K := by rfl) : OpR X (compareOp .Eq) (rEqD K) := by
  subst hK
  exact op_eqD hu
theorem neK (hu : X.A.units + 64 < cLine) (hK : X.K = K := by rfl) : OpR X (compareOp .NotEq) (rNeD K) := by
  subst hK
  exact op_neD hu
theorem inK (hK : X.K = K := by rfl) : OpR X (compareOp .In) (rIn K false) := by
  subst hK
  exact op_in_seq
theorem notInK (hK : X.K = K := by rfl) : OpR X (compareOp .NotIn) (rIn K true) := by
  subst hK
  exact op_notIn_seq
theorem indexK (hK : X.K = K := by rfl) : MtR X "list.index" (rIndex K) := by
  subst hK
  exact mt_index
theorem pi_listK {tg l : Expr} {tl : TE} (hl : PE X l tl) (hK : X.K = K := by rfl) : PI X tg l (iList K tl) := by
  subst hK
  exact pi_list hl
theorem pi_tupK {tg l : Expr} {tl : TE} (hl : PE X l tl) (hK : X.K = K := by rfl) : PI X tg l (iTup K tl) := by
  subst hK
  exact pi_tup hl
theorem pg_tupK {es : List Expr} {k : Nat} {t : TGs} {n : Nat} {pos : Pos} (hc : X.calm = true) (h : PGs X es t) (hn : (assignEach es X.env).length = n := by rfl) (hst : (assignEach es X.env).findIdx? (·.1) = none := by rfl) (hK : X.K = K := by rfl) : PG X (.Tuple es k pos) (gTup K n t) := by
  subst hK
  exact pg_tup hc h hn hst
theorem pe_revK {e : Expr} {te : TE} {k : Nat} {p1 p2 p3 pos : Pos} (he : PE X e te) (hK : X.K = K := by rfl) : PE X (.Subscript e (.Slice none none (some (.UnaryOp .USub (.Constant (.int 1) k p1) p2)) p3) pos) (tRevL K te) := by
  subst hK
  exact pe_revL he
end
/-! promises by the number of arguments -/
abbrev sp1 (R : V → Hp → VK → Prop) : Sp := fun vs H Q _ => ∃ x, vs = [x] ∧ R x H Q
abbrev sp2 (R : V → V → Hp → VK → Prop) : Sp := fun vs H Q _ => ∃ x y, vs = [x, y] ∧ R x y H Q
abbrev sp3 (R : V → V → V → Hp → VK → Prop) : Sp := fun vs H Q _ => ∃ x y z, vs = [x, y, z] ∧ R x y z H Q
abbrev sp4 (R : V → V → V → V → Hp → VK → Prop) : Sp := fun vs H Q _ => ∃ x y z u, vs = [x, y, z, u] ∧ R x y z u H Q
abbrev sp5 (R : V → V → V → V → V → Hp → VK → Prop) : Sp := fun vs H Q _ => ∃ x y z u v, vs = [x, y, z, u, v] ∧ R x y z u v H Q
theorem len1 {R : V → Hp → VK → Prop} {vs : List V} {H : Hp} {Q : VK} {E : XK} (h : sp1 R vs H Q E) : vs.length = 1 := by
  obtain ⟨_, rfl, _⟩ := h
  rfl
theorem len2 {R : V → V → Hp → VK → Prop} {vs : List V} {H : Hp} {Q : VK} {E : XK} (h : sp2 R vs H Q E) : vs.length = 2 := by
  obtain ⟨_, _, rfl, _⟩ := h
  rfl
theorem len3 {R : V → V → V → Hp → VK → Prop} {vs : List V} {H : Hp} {Q : VK} {E : XK} (h : sp3 R vs H Q E) : vs.length = 3 := by
  obtain ⟨_, _, _, rfl, _⟩ := h
  rfl
theorem len4 {R : V → V → V → V → Hp → VK → Prop} {vs : List V} {H : Hp} {Q : VK} {E : XK} (h : sp4 R vs H Q E) : vs.length = 4 := by
  obtain ⟨_, _, _, _, rfl, _⟩ := h
  rfl
theorem len5 {R : V → V → V → V → V → Hp → VK → Prop} {vs : List V} {H : Hp} {Q : VK} {E : XK} (h : sp5 R vs H Q E) : vs.length = 5 := by
  obtain ⟨_, _, _, _, _, rfl, _⟩ := h
  rfl

/-! ### values that may stand in a list: what isinstance and == know of them -/
section
variable {K : PySem.W.Frag} {H H' : Hp}
inductive Any (H : Hp) : V → Prop
  | int (i : Int) : Any H (.int i)
  | bl (b : Bool) : Any H (.bl b)
  | str (x : Str) : Any H (.str x)
  | non : Any H .non
  | lst {a : Addr} {xs : List V} (h : H a = some (.lst xs)) : Any H (.ref a)
  | tup {a : Addr} {xs : List V} (h : H a = some (.tup xs)) : Any H (.ref a)
theorem Any.mono {x : V} (e : Ex H H') (h : Any H x) : Any H' x := by
  cases h with
  | int i => exact .int i
  | bl b => exact .bl b
  | str x => exact .str x
  | non => exact .non
  | lst h => exact .lst (e _ _ h)
  | tup h => exact .tup (e _ _ h)
def isInt : V → Bool
  | .int _ => true
  | _ => false
/-- isinstance(x, int) and not isinstance(x, bool) -/
def spWhole : Sp := sp1 fun x H Q => Any H x ∧ Q (.bl (isInt x)) H
end
/-! ### lists of ints -/
theorem at_ints {ns : List Int} {i : Int} (h0 : 0 ≤ i) (h1 : i < ns.length) : atI (ns.map V.int) i = some (.int (ns.getD i.toNat 0)) := by
  obtain ⟨j, rfl⟩ := Int.eq_ofNat_of_zero_le h0
  have hj : j < ns.length := by omega
  refine atI_nat ?_
  rw [List.getElem?_map, List.getElem?_eq_getElem hj]
  simp [List.getD_eq_getElem?_getD, hj]
theorem get_ints {ns : List Int} {i : Nat} {x : V} (h : (ns.map V.int)[i]? = some x) : ∃ hi : i < ns.length, x = .int ns[i] := by
  rw [List.getElem?_map] at h
  cases e : ns[i]? with
  | none =>
    rw [e] at h
    cases h
  | some y =>
    rw [e] at h
    obtain ⟨hi, e2⟩ := List.getElem?_eq_some_iff.mp e
    exact ⟨hi, by rw [e2]; exact (Option.some.inj h).symm⟩

/-- isinstance(x, int) and not isinstance(x, bool), the name in slot 0 -/
theorem rd_whole {K : PySem.W.Frag} {x : V} {H : Hp} {Q : VK} {ti : TE} (ha : Any H x) (q : Q (.bl (isInt x)) H) (hx : ∀ Q : VK, Q x H → ti [some x] H Q) :
    tAndV (tCB (rIsi K) (tCons ti (tCons (tC (.ty "int")) tNil))) (tNotV (tCB (rIsi K) (tCons ti (tCons (tC (.ty "bool")) tNil)))) [some x] H Q := by
  have key : ∀ (n : String) (b1 b2 : Bool), TyX K H x (.type n) → kitB n "int" = some b1 → kitB n "bool" = some b2 → (b1 && !b2) = isInt x →
      tAndV (tCB (rIsi K) (tCons ti (tCons (tC (.ty "int")) tNil))) (tNotV (tCB (rIsi K) (tCons ti (tCons (tC (.ty "bool")) tNil)))) [some x] H Q := by
    intro n b1 b2 ty k1 k2 e
    refine hx _ ?_
    refine ⟨x, .ty "int", _, _, b1, rfl, .ty _, ty, kit_ty k1, b1, rfl, ?_⟩
    cases b1 with
    | true =>
      refine iteT ?_
      refine hx _ ?_
      refine ⟨x, .ty "bool", _, _, b2, rfl, .ty _, ty, kit_ty k2, b2, rfl, ?_⟩
      rw [← e] at q
      exact q
    | false =>
      refine iteF ?_
      rw [← e] at q
      exact q
  cases ha with
  | int i => exact key "int" true false (.base (.int i)) (by decide +kernel) (by decide +kernel) rfl
  | bl b => exact key "bool" true true (.base (.bl b)) (by decide +kernel) (by decide +kernel) rfl
  | str z => exact key "str" false false (.base (.str z)) (by decide +kernel) (by decide +kernel) rfl
  | non => exact key "NoneType" false false (.base .non) (by decide +kernel) (by decide +kernel) rfl
  | lst h => exact key "list" false false (.base (.lst h)) (by decide +kernel) (by decide +kernel) rfl
  | tup h => exact key "tuple" false false (.base (.tup h)) (by decide +kernel) (by decide +kernel) rfl

theorem mulR {i j : Int} (h : -(2 ^ 64) < j ∧ j < 2 ^ 64) : CMul i j := .inr h
theorem mulL {i j : Int} (h : -(2 ^ 64) < i ∧ i < 2 ^ 64) : CMul i j := .inl h
theorem getD_in {ns : List Int} {i : Nat} (h : i < ns.length) (d : Int) : ns.getD i d = ns[i] := by simp [List.getD_eq_getElem?_getD, h]
/-- what a heap is worth: the bids for its goods -/
def worthM (row heap : List Int) : Int := (heap.map fun g => row.getD g.toNat 0).sum
/-- only numbers of goods stand in the heap -/
def Inside (n : Nat) (heap : List Int) : Prop := ∀ g ∈ heap, 0 ≤ g ∧ g < (n : Int)
theorem worthM_take {row heap : List Int} {i : Nat} (h : i < heap.length) : worthM row (heap.take (i + 1)) = worthM row (heap.take i) + row.getD heap[i].toNat 0 := by
  unfold worthM
  rw [List.take_add_one, List.getElem?_eq_getElem h, List.map_append, List.sum_append]
  simp
/-! ### comprehensions over a list told by its data -/
theorem given_by {α : Type} (xs : List α) (d : α) (p : α → Bool) (g : α → V) : given xs.length (fun i => p (xs.getD i d)) (fun i => g (xs.getD i d)) = (xs.filter p).map g := by
  have e : (List.range xs.length).map (fun i => xs.getD i d) = xs := by
    refine List.ext_getElem (by simp) fun i h1 h2 => ?_
    simp [List.getD_eq_getElem?_getD, h2]
  have h : (xs.filter p).map g = (((List.range xs.length).map (fun i => xs.getD i d)).filter p).map g := by rw [e]
  rw [h, List.filter_map, List.map_map]
  rfl
theorem given_all {α : Type} (xs : List α) (d : α) (g : α → V) : given xs.length (fun _ => true) (fun i => g (xs.getD i d)) = xs.map g := by
  rw [given_by xs d (fun _ => true) g, List.filter_eq_self.mpr (fun _ _ => rfl)]
theorem given_rng (n : Nat) (p : Nat → Bool) (g : Nat → V) : given n p g = ((List.range n).filter p).map g := rfl
theorem given_rngA (n : Nat) (g : Nat → V) : given n (fun _ => true) g = (List.range n).map g := by
  unfold given
  rw [List.filter_eq_self.mpr (fun _ _ => rfl)]
section
variable {K : PySem.W.Frag} {σ : L2.St} {H H' : Hp} {te tl : TE} {t : TT} {a : Addr} {j : Nat} {vs : List Nat}
theorem el_by {α : Type} [Inhabited α] {xs : List α} {enc : α → V} (p : α → Bool) (g : α → V) (h : Ev tl σ H (.ref a)) (hx : SqL K H a (xs.map enc)) (hz : xs.length ≤ 40000) (hw : ∀ x, wipe ((wipe σ vs).set j (some x)) vs = wipe σ vs)
    (ht : ∀ x ∈ xs, ∀ H1, Ex H H1 → EvT t ((wipe σ vs).set j (some (enc x))) H1 (p x)) (he : ∀ x ∈ xs, ∀ H1, Ex H H1 → p x = true → Ev te ((wipe σ vs).set j (some (enc x))) H1 (g x)) :
    EvL (tLc (iList K tl) (gName j) t te vs) σ H ((xs.filter p).map g) := by
  have key : ∀ (i : Nat) (x : V), (xs.map enc)[i]? = some x → x = enc (xs.getD i default) ∧ xs.getD i default ∈ xs := by
    intro i x hi
    rw [List.getElem?_map] at hi
    cases e : xs[i]? with
    | none =>
      rw [e] at hi
      cases hi
    | some y =>
      rw [e] at hi
      have ey : xs.getD i default = y := by simp [List.getD_eq_getElem?_getD, e]
      rw [ey]
      exact ⟨(Option.some.inj hi).symm, List.mem_of_getElem? e⟩
  have L := el_lcL (t := t) (te := te) (j := j) (vs := vs) (fun i => p (xs.getD i default)) (fun i => g (xs.getD i default)) h hx (by rw [List.length_map]; exact hz) hw
    (fun i x H1 e1 hi => by
      obtain ⟨e, m⟩ := key i x hi
      rw [e]
      exact ht _ m H1 e1)
    (fun i x H1 e1 hi hp => by
      obtain ⟨e, m⟩ := key i x hi
      rw [e]
      exact he _ m H1 e1 hp)
  rw [List.length_map, given_by] at L
  exact L
theorem et_yes : EvT tYes σ H true := fun H1 _ _ q => q H1 (Ex.refl H1)
theorem el_all {α : Type} [Inhabited α] {xs : List α} {enc : α → V} (g : α → V) (h : Ev tl σ H (.ref a)) (hx : SqL K H a (xs.map enc)) (hz : xs.length ≤ 40000) (hw : ∀ x, wipe ((wipe σ vs).set j (some x)) vs = wipe σ vs)
    (he : ∀ x ∈ xs, ∀ H1, Ex H H1 → Ev te ((wipe σ vs).set j (some (enc x))) H1 (g x)) :
    EvL (tLc (iList K tl) (gName j) tYes te vs) σ H (xs.map g) := by
  have L := el_by (t := tYes) (te := te) (j := j) (vs := vs) (fun _ => true) g h hx hz hw (fun _ _ _ _ => et_yes) (fun x m H1 e1 _ => he x m H1 e1)
  rw [List.filter_eq_self.mpr (fun _ _ => rfl)] at L
  exact L
end
section
variable {K : PySem.W.Frag} {σ : L2.St} {H H' : Hp} {te tl : TE} {t : TT} {a : Addr} {j : Nat} {vs : List Nat} {Q : VK}
/-- [te for x in xs if t], then Q of the new list -/
theorem go_by {α : Type} [Inhabited α] {xs : List α} {enc : α → V} (p : α → Bool) (g : α → V) (h : Ev tl σ H (.ref a)) (hx : SqL K H a (xs.map enc)) (hz : xs.length ≤ 40000) (hw : ∀ x, wipe ((wipe σ vs).set j (some x)) vs = wipe σ vs)
    (ht : ∀ x ∈ xs, ∀ H1, Ex H H1 → EvT t ((wipe σ vs).set j (some (enc x))) H1 (p x)) (he : ∀ x ∈ xs, ∀ H1, Ex H H1 → p x = true → Ev te ((wipe σ vs).set j (some (enc x))) H1 (g x))
    (q : RetL ((xs.filter p).map g) H Q) : tLc (iList K tl) (gName j) t te vs σ H Q := el_by p g h hx hz hw ht he H (Ex.refl H) Q fun p H2 hp e h2 => q p H2 hp e h2
theorem go_all {α : Type} [Inhabited α] {xs : List α} {enc : α → V} (g : α → V) (h : Ev tl σ H (.ref a)) (hx : SqL K H a (xs.map enc)) (hz : xs.length ≤ 40000) (hw : ∀ x, wipe ((wipe σ vs).set j (some x)) vs = wipe σ vs)
    (he : ∀ x ∈ xs, ∀ H1, Ex H H1 → Ev te ((wipe σ vs).set j (some (enc x))) H1 (g x))
    (q : RetL (xs.map g) H Q) : tLc (iList K tl) (gName j) tYes te vs σ H Q := el_all g h hx hz hw he H (Ex.refl H) Q fun p H2 hp e h2 => q p H2 hp e h2
end
section
variable {K : PySem.W.Frag} {σ : L2.St} {H : Hp} {ta tb te tl : TE} {t u : TT} {tu tw : TS} {D : Ends} {Q : VK} {QA : List V → Hp → Prop} {QB : Bool → Hp → Prop} {r : List V → Hp → VK → Prop} {rr : R2} {ts : TA}
theorem g_ret (h : te σ H D.rt) : tRet te D σ H := h
theorem g_cb (h : ts σ H fun vs H1 => r vs H1 Q) : tCB r ts σ H Q := h
theorem g_cons (h : te σ H fun x H1 => ts σ H1 fun xs H2 => QA (x :: xs) H2) : tCons te ts σ H QA := h
theorem g_nil (h : QA [] H) : tNil σ H QA := h
theorem g_cb1 (h : te σ H fun x H1 => r [x] H1 Q) : tCB r (tCons te tNil) σ H Q := h
theorem g_op (h : ta σ H fun x H1 => tb σ H1 fun y H2 => rr x y H2 Q) : tOp rr ta tb σ H Q := h
theorem g_seq (h : tu { D with nx := tw D } σ H) : tSeq tu tw D σ H := h
theorem g_set {i : Nat} (h : te σ H fun x H1 => D.nx (σ.set i (some x)) H1) : tAsg te (gName i) D σ H := h
theorem q_set {i : Nat} (h : te σ H fun x H1 => tw D (σ.set i (some x)) H1) : tSeq (tAsg te (gName i)) tw D σ H := h
theorem q_dr (h : te σ H fun _ H1 => tw D σ H1) : tSeq (tDrop te) tw D σ H := h
theorem g_drop (h : te σ H fun _ H1 => D.nx σ H1) : tDrop te D σ H := h
theorem g_test (h : te σ H fun x H1 => ∃ k, x = .bl k ∧ QB k H1) : tTest te σ H QB := h
theorem g_call {sp : Sp} {dvs : List V} {E : XK} (h : ts σ H fun vs H1 => sp (vs ++ dvs) H1 Q E) : tCall sp dvs E ts σ H Q := h
end
/-! ### data that == compares -/
structure EncOk {α : Type} [DecidableEq α] (f : α → PyData) (n : Nat) : Prop where
  eq : ∀ x y, PyData.eqv (f x) (f y) = decide (x = y)
  lay : ∀ x, PyData.canLay0 (f x) = true
  dep : ∀ x, PyData.depth (f x) ≤ n
theorem EncOk.shaped {α : Type} [DecidableEq α] {f : α → PyData} {n : Nat} (h : EncOk f n) (hn : n ≤ 64) (x : α) : SeqAt.shaped (f x) = true := by
  unfold SeqAt.shaped
  rw [h.lay x]
  exact decide_eq_true (Nat.le_trans (h.dep x) hn)
theorem encInt : EncOk PyData.int 0 where
  eq := fun x y => by
    simp only [PyData.eqv]
    by_cases h : x = y
    · rw [h, decide_eq_true rfl, beq_self_eq_true]
    · rw [decide_eq_false h]
      exact beq_eq_false_iff_ne.mpr h
  lay := fun x => by simp only [PyData.canLay0]
  dep := fun x => by simp [PyData.depth]
section
variable {α β : Type} [DecidableEq α] [DecidableEq β] {f : α → PyData} {g : β → PyData} {n m : Nat}
theorem eqvAll_map (h : EncOk f n) : ∀ xs ys : List α, PyData.eqvAll (xs.map f) (ys.map f) = decide (xs = ys)
  | [], [] => by simp [PyData.eqvAll]
  | [], y :: ys => by simp [PyData.eqvAll]
  | x :: xs, [] => by simp [PyData.eqvAll]
  | x :: xs, y :: ys => by
    simp only [List.map_cons, PyData.eqvAll]
    rw [h.eq, eqvAll_map h xs ys]
    by_cases e : x = y
    · by_cases e2 : xs = ys
      · simp [e, e2]
      · simp [e, e2]
    · simp [e]
theorem canLayAll_map (h : EncOk f n) : ∀ xs : List α, PyData.canLayAll0 (xs.map f) = true
  | [] => by simp [PyData.canLayAll0]
  | x :: xs => by
    simp only [List.map_cons, PyData.canLayAll0]
    rw [h.lay, canLayAll_map h xs]
    rfl
theorem depthAll_map (h : EncOk f n) : ∀ xs : List α, PyData.depthAll (xs.map f) ≤ n
  | [] => by simp [PyData.depthAll]
  | x :: xs => by
    simp only [List.map_cons, PyData.depthAll]
    have h1 := h.dep x
    have h2 := depthAll_map h xs
    omega
theorem encList (h : EncOk f n) : EncOk (fun xs : List α => PyData.list (xs.map f)) (n + 1) where
  eq := fun x y => by
    simp only [PyData.eqv]
    exact eqvAll_map h x y
  lay := fun x => by
    simp only [PyData.canLay0]
    exact canLayAll_map h x
  dep := fun x => by
    simp only [PyData.depth]
    have := depthAll_map h x
    omega
theorem encPair (h : EncOk f n) (k : EncOk g m) : EncOk (fun p : α × β => PyData.tuple [f p.1, g p.2]) (n + m + 1) where
  eq := fun x y => by
    simp only [PyData.eqv, PyData.eqvAll]
    rw [h.eq, k.eq]
    cases x with
    | mk x1 x2 =>
      cases y with
      | mk y1 y2 =>
        by_cases e : x1 = y1
        · by_cases e2 : x2 = y2
          · simp [e, e2]
          · simp [e, e2]
        · simp [e]
  lay := fun x => by
    simp only [PyData.canLay0, PyData.canLayAll0]
    rw [h.lay, k.lay]
    rfl
  dep := fun x => by
    simp only [PyData.depth, PyData.depthAll]
    have h1 := h.dep x.1
    have h2 := k.dep x.2
    omega
end
abbrev dI (ns : List Int) : PyData := .list (ns.map PyData.int)
abbrev dII (rows : List (List Int)) : PyData := .list (rows.map dI)
theorem encI : EncOk dI 1 := encList encInt
theorem encII : EncOk dII 2 := encList encI
section
variable {K : PySem.W.Frag} {H H' : Hp}
mutual
theorem dp_mono (e : Ex H H') : ∀ {v : V} {d : PyData}, Dp K H v d → Dp K H' v d
  | _, _, .non => .non
  | _, _, .bl b => .bl b
  | _, _, .int i => .int i
  | _, _, .str x => .str x
  | _, _, .lst h a => .lst (ex_l e h) (dpAll_mono e a)
  | _, _, .tup h a => .tup (ex_t e h) (dpAll_mono e a)
theorem dpAll_mono (e : Ex H H') : ∀ {vs : List V} {ds : List PyData}, DpAll K H vs ds → DpAll K H' vs ds
  | _, _, .nil => .nil
  | _, _, .cons h a => .cons (dp_mono e h) (dpAll_mono e a)
end
theorem dpAll_ints : ∀ ns : List Int, DpAll K H (ns.map V.int) (ns.map PyData.int)
  | [] => .nil
  | n :: ns => .cons (.int n) (dpAll_ints ns)
theorem dp_ints {a : Addr} {ns : List Int} (h : SqL K H a (ns.map V.int)) : Dp K H (.ref a) (dI ns) := .lst h (dpAll_ints ns)
variable {α : Type} [DecidableEq α] {f : α → PyData} {n : Nat} {x y : α} {v w : V}
/-- v == w, v != w of data -/
theorem rv_eqD (F : EncOk f n) (hn : n ≤ 64) (h1 : Dp K H v (f x)) (h2 : Dp K H w (f y)) : RV (rEqD K) v w H (.bl (decide (x = y))) := fun H1 e Q q =>
  ⟨f x, f y, dp_mono e h1, dp_mono e h2, F.shaped hn x, F.shaped hn y, by rw [F.eq]; exact q H1 (Ex.refl H1)⟩
theorem rv_neD (F : EncOk f n) (hn : n ≤ 64) (h1 : Dp K H v (f x)) (h2 : Dp K H w (f y)) : RV (rNeD K) v w H (.bl (!decide (x = y))) := fun H1 e Q q =>
  ⟨f x, f y, dp_mono e h1, dp_mono e h2, F.shaped hn x, F.shaped hn y, by rw [F.eq]; exact q H1 (Ex.refl H1)⟩
theorem rv_neS (F : EncOk f n) (hn : n ≤ 64) (h1 : Dp K H v (f x)) (h2 : Dp K H w (f x)) : RV (rNeD K) v w H (.bl false) := by
  have h := rv_neD F hn h1 h2
  rw [decide_eq_true rfl] at h
  exact h
theorem rv_eqS (F : EncOk f n) (hn : n ≤ 64) (h1 : Dp K H v (f x)) (h2 : Dp K H w (f x)) : RV (rEqD K) v w H (.bl true) := by
  have h := rv_eqD F hn h1 h2
  rw [decide_eq_true rfl] at h
  exact h
end
section
variable {K : PySem.W.Frag} {σ : L2.St} {H : Hp} {te : TE} {ta : TA} {j : Nat} {vs : List Nat} {t : TT}
/-- [te for j in range(n)], with a test -/
theorem el_rng {n : Nat} (p : Nat → Bool) (v : Nat → V) (h : EvA ta σ H [.int (n : Int)]) (hn : n ≤ 40000) (hw : ∀ x, wipe ((wipe σ vs).set j (some x)) vs = wipe σ vs)
    (ht : ∀ (i : Nat) H1, Ex H H1 → i < n → EvT t ((wipe σ vs).set j (some (.int (i : Int)))) H1 (p i)) (he : ∀ (i : Nat) H1, Ex H H1 → i < n → p i = true → Ev te ((wipe σ vs).set j (some (.int (i : Int)))) H1 (v i)) :
    EvL (tLc (iRng1 ta) (gName j) t te vs) σ H (((List.range n).filter p).map v) := by
  have L := el_lcR1 (t := t) (te := te) (j := j) (vs := vs) (n := (n : Int)) p v h ⟨by omega, by omega⟩ hw (fun i H1 e hi => ht i H1 e (by omega)) (fun i H1 e hi hp => he i H1 e (by omega) hp)
  rw [Int.toNat_natCast] at L
  exact L
theorem el_rngA {n : Nat} (v : Nat → V) (h : EvA ta σ H [.int (n : Int)]) (hn : n ≤ 40000) (hw : ∀ x, wipe ((wipe σ vs).set j (some x)) vs = wipe σ vs)
    (he : ∀ (i : Nat) H1, Ex H H1 → i < n → Ev te ((wipe σ vs).set j (some (.int (i : Int)))) H1 (v i)) :
    EvL (tLc (iRng1 ta) (gName j) tYes te vs) σ H ((List.range n).map v) := by
  have L := el_rng (t := tYes) (te := te) (j := j) (vs := vs) (fun _ => true) v h hn hw (fun _ _ _ _ => et_yes) (fun i H1 e hi _ => he i H1 e hi)
  rw [List.filter_eq_self.mpr (fun _ _ => rfl)] at L
  exact L
end
section
variable {K : PySem.W.Frag} {σ : L2.St} {H H' : Hp} {te tl : TE} {t : TT} {a : Addr} {j : Nat} {vs : List Nat}
/-- as el_by, over a list that is new -/
theorem el_byN {α : Type} [Inhabited α] {xs : List α} {enc : α → V} (p : α → Bool) (g : α → V) (h : EvL tl σ H (xs.map enc)) (hz : xs.length ≤ 40000) (hw : ∀ x, wipe ((wipe σ vs).set j (some x)) vs = wipe σ vs)
    (ht : ∀ x ∈ xs, ∀ H1, Ex H H1 → EvT t ((wipe σ vs).set j (some (enc x))) H1 (p x)) (he : ∀ x ∈ xs, ∀ H1, Ex H H1 → p x = true → Ev te ((wipe σ vs).set j (some (enc x))) H1 (g x)) :
    EvL (tLc (iList K tl) (gName j) t te vs) σ H ((xs.filter p).map g) := fun H0 e0 Q q => h H0 e0 _ fun a H1 ha e1 hx =>
  el_by (tl := tC (.ref a)) p g ev_c (sq_of hx) hz hw (fun x m H2 e2 => ht x m H2 ((e0.trans e1).trans e2)) (fun x m H2 e2 => he x m H2 ((e0.trans e1).trans e2)) H1 (Ex.refl H1) Q fun p H2 hp e2 h2 => q p H2 (fresh_back e1 hp) (e1.trans e2) h2
theorem el_allN {α : Type} [Inhabited α] {xs : List α} {enc : α → V} (g : α → V) (h : EvL tl σ H (xs.map enc)) (hz : xs.length ≤ 40000) (hw : ∀ x, wipe ((wipe σ vs).set j (some x)) vs = wipe σ vs)
    (he : ∀ x ∈ xs, ∀ H1, Ex H H1 → Ev te ((wipe σ vs).set j (some (enc x))) H1 (g x)) :
    EvL (tLc (iList K tl) (gName j) tYes te vs) σ H (xs.map g) := by
  have L := el_byN (K := K) (t := tYes) (te := te) (j := j) (vs := vs) (fun _ => true) g h hz hw (fun _ _ _ _ => et_yes) (fun x m H1 e1 _ => he x m H1 e1)
  rw [List.filter_eq_self.mpr (fun _ _ => rfl)] at L
  exact L
end
/-! ### lists of lists -/
/-- at a stands a list of lists, to be read -/
def LV (K : PySem.W.Frag) (H : Hp) (a : Addr) (ys : List (List V)) : Prop :=
  ∃ ps : List Addr, SqL K H a (ps.map V.ref) ∧ ps.length = ys.length ∧ ∀ (i : Nat) (q : Addr) (y : List V), ps[i]? = some q → ys[i]? = some y → SqL K H q y
/-- rows of ints -/
abbrev iv (rows : List (List Int)) : List (List V) := rows.map fun r => r.map V.int
abbrev LL (K : PySem.W.Frag) (H : Hp) (a : Addr) (rows : List (List Int)) : Prop := LV K H a (iv rows)
/-- at p stands a new list of new lists: what may be changed. H0: the heap in which all of them were not there -/
structure LNew (H0 H : Hp) (p : Addr) (ps : List Addr) (ys : List (List V)) : Prop where
  new : H0 p = none
  top : H p = some (.lst (ps.map V.ref))
  len : ps.length = ys.length
  nd : (p :: ps).Nodup
  at_ : ∀ (i : Nat) (q : Addr) (y : List V), ps[i]? = some q → ys[i]? = some y → H0 q = none ∧ H q = some (.lst y)
section
variable {K : PySem.W.Frag} {H H' H0 : Hp} {a p : Addr} {ps : List Addr} {ys : List (List V)} {rows : List (List Int)}
theorem LV.mono (e : Ex H H') (h : LV K H a ys) : LV K H' a ys := by
  obtain ⟨ps, h1, h2, h3⟩ := h
  exact ⟨ps, ex_l e h1, h2, fun i q y h4 h5 => ex_l e (h3 i q y h4 h5)⟩
theorem LNew.lv (h : LNew H0 H p ps ys) : LV K H p ys := ⟨ps, sq_of h.top, h.len, fun i q y h1 h2 => sq_of (h.at_ i q y h1 h2).2⟩
theorem LNew.ext (h : LNew H0 H p ps ys) (e : Ex H H') : LNew H0 H' p ps ys := ⟨h.new, e _ _ h.top, h.len, h.nd, fun i q y h1 h2 => ⟨(h.at_ i q y h1 h2).1, e _ _ (h.at_ i q y h1 h2).2⟩⟩
/-- seen from an earlier heap -/
theorem LNew.back {Hb : Hp} (h : LNew H0 H p ps ys) (e : Ex Hb H0) : LNew Hb H p ps ys := ⟨fresh_back e h.new, h.top, h.len, h.nd, fun i q y h1 h2 => ⟨fresh_back e (h.at_ i q y h1 h2).1, (h.at_ i q y h1 h2).2⟩⟩
theorem LNew.app {i : Nat} {q : Addr} {y y' : List V} (h : LNew H0 H p ps ys) (hi : ps[i]? = some q) (hy : ys[i]? = some y) : LNew H0 (upd H q (.lst y')) p ps (ys.set i y') := by
  have hpq : p ≠ q := fun e => (List.nodup_cons.mp h.nd).1 (e ▸ List.mem_of_getElem? hi)
  refine ⟨h.new, by rw [upd_ne hpq]; exact h.top, by rw [List.length_set]; exact h.len, h.nd, fun k r z h1 h2 => ?_⟩
  by_cases e : k = i
  · subst e
    have : r = q := Option.some.inj (h1.symm.trans hi)
    subst this
    have hk : k < ys.length := (List.getElem?_eq_some_iff.mp hy).1
    rw [List.getElem?_set_self hk] at h2
    exact ⟨(h.at_ k r y hi hy).1, by rw [upd_same, Option.some.inj h2]⟩
  · rw [List.getElem?_set_ne (fun z => e z.symm)] at h2
    have hr : r ≠ q := fun z => e (nd_ix (List.nodup_cons.mp h.nd).2 (z ▸ h1) hi)
    rw [upd_ne hr]
    exact h.at_ k r z h1 h2
/-- one more new list behind the others -/
theorem LNew.push {H2 : Hp} {q : Addr} {y : List V} (L : LNew H0 H p ps ys) (ex : Ex H0 H) (e2 : Ex H H2) (hq : H q = none) (h2 : H2 q = some (.lst y)) : LNew H0 (upd H2 p (.lst (ps.map V.ref ++ [.ref q]))) p (ps ++ [q]) (ys ++ [y]) := by
  have nD : q ≠ p := fun z => by
    rw [z, L.top] at hq
    cases hq
  refine ⟨L.new, ?_, ?_, ?_, ?_⟩
  · rw [upd_same, List.map_append]
    rfl
  · rw [List.length_append, List.length_append, L.len]
    rfl
  · have nd := L.nd
    rw [List.nodup_cons] at nd ⊢
    refine ⟨fun m => ?_, ?_⟩
    · rcases List.mem_append.mp m with m | m
      · exact nd.1 m
      · exact nD (List.mem_singleton.mp m).symm
    · refine nd_snoc nd.2 fun m => ?_
      obtain ⟨k, hk⟩ := List.getElem?_of_mem m
      have hk2 : k < ys.length := by
        rw [← L.len]
        exact (List.getElem?_eq_some_iff.mp hk).1
      have := (L.at_ k q _ hk (List.getElem?_eq_getElem hk2)).2
      rw [hq] at this
      cases this
  · intro k r y2 h3 h4
    by_cases hk : k < ps.length
    · rw [List.getElem?_append_left hk] at h3
      rw [List.getElem?_append_left (by rw [← L.len]; exact hk)] at h4
      have a1 := L.at_ k r y2 h3 h4
      refine ⟨a1.1, ?_⟩
      have nr : r ≠ p := fun z => by
        rw [z] at h3
        exact (List.nodup_cons.mp L.nd).1 (List.mem_of_getElem? h3)
      rw [upd_ne nr]
      exact e2 _ _ a1.2
    · have hk2 : k = ps.length := by
        have := (List.getElem?_eq_some_iff.mp h3).1
        rw [List.length_append] at this
        have : k < ps.length + 1 := this
        omega
      subst hk2
      rw [List.getElem?_append_right (Nat.le_refl _), Nat.sub_self] at h3
      rw [List.getElem?_append_right (by rw [← L.len]; exact Nat.le_refl _), ← L.len, Nat.sub_self] at h4
      obtain rfl : q = r := Option.some.inj h3
      obtain rfl : y = y2 := Option.some.inj h4
      rw [upd_ne nD]
      exact ⟨fresh_back ex hq, h2⟩
theorem LNew.exm {i : Nat} {q : Addr} {o : HO} (h : LNew H0 H p ps ys) (hi : ps[i]? = some q) (e : Ex H0 H) : Ex H0 (upd H q o) := by
  have hl : i < ys.length := by
    have := (List.getElem?_eq_some_iff.mp hi).1
    have := h.len
    omega
  exact Ex.mut e (h.at_ i q ys[i] hi (List.getElem?_eq_getElem hl)).1
theorem LNew.at2 {i : Nat} (h : LNew H0 H p ps ys) (hi : i < ys.length) : ∃ q, ps[i]? = some q ∧ H q = some (.lst ys[i]) := by
  have h1 : i < ps.length := by
    have := h.len
    omega
  exact ⟨ps[i], List.getElem?_eq_getElem h1, (h.at_ i _ _ (List.getElem?_eq_getElem h1) (List.getElem?_eq_getElem hi)).2⟩
theorem at_refs {i : Nat} {q : Addr} (h : ps[i]? = some q) : atI (ps.map V.ref) (i : Int) = some (.ref q) := atI_nat (by rw [List.getElem?_map, h]; rfl)
theorem LV.at2 {i : Nat} (h : LV K H a ys) (hi : i < ys.length) : ∃ (ps : List Addr) (q : Addr), SqL K H a (ps.map V.ref) ∧ ps.length = ys.length ∧ ps[i]? = some q ∧ SqL K H q ys[i] := by
  obtain ⟨ps, h1, h2, h3⟩ := h
  have h4 : i < ps.length := by omega
  exact ⟨ps, ps[i], h1, h2, List.getElem?_eq_getElem h4, h3 i _ _ (List.getElem?_eq_getElem h4) (List.getElem?_eq_getElem hi)⟩
theorem dpAll_of {f : List Int → PyData} : ∀ {ps : List Addr} {rows : List (List Int)}, ps.length = rows.length → (∀ (i : Nat) q r, ps[i]? = some q → rows[i]? = some r → Dp K H (.ref q) (f r)) → DpAll K H (ps.map V.ref) (rows.map f)
  | [], [], _, _ => .nil
  | [], _ :: _, h, _ => by cases h
  | _ :: _, [], h, _ => by cases h
  | p :: ps, r :: rows, hl, h => .cons (h 0 p r rfl rfl) (dpAll_of (Nat.succ.inj hl) fun i q s h1 h2 => h (i + 1) q s h1 h2)
theorem LL.dp (h : LL K H a rows) : Dp K H (.ref a) (dII rows) := by
  obtain ⟨ps, h1, h2, h3⟩ := h
  rw [List.length_map] at h2
  exact .lst h1 (dpAll_of h2 fun i q r h4 h5 => dp_ints (h3 i q _ h4 (by rw [List.getElem?_map, h5]; rfl)))
/-- row i of rows that are read -/
theorem ev_row {σ : L2.St} {ta tb : TE} {i : Nat} (h : LL K H a rows) (hi : i < rows.length) (ha : Ev ta σ H (.ref a)) (hb : Ev tb σ H (.int (i : Int))) :
    ∃ q, Ev (tOp (rIxL K) ta tb) σ H (.ref q) ∧ SqL K H q ((rows.getD i []).map V.int) := by
  obtain ⟨ps, q, h1, h2, h3, h4⟩ := h.at2 (i := i) (by rw [List.length_map]; exact hi)
  refine ⟨q, ev_op ha hb (rv_ixL h1 (at_refs h3)), ?_⟩
  have e : (iv rows)[i]'(by rw [List.length_map]; exact hi) = (rows.getD i []).map V.int := by simp [List.getD_eq_getElem?_getD, hi]
  rw [e] at h4
  exact h4
theorem ev_lenLL {σ : L2.St} {ta : TE} (h : LV K H a ys) (ha : Ev ta σ H (.ref a)) : Ev (tCB (rLenS K) (tCons ta tNil)) σ H (.int (ys.length : Int)) := by
  obtain ⟨ps, h1, h2, _⟩ := h
  have := ev_len ha h1
  rw [List.length_map, h2] at this
  exact this
theorem ev_lenI {σ : L2.St} {ta : TE} {ns : List Int} (h : SqL K H a (ns.map V.int)) (ha : Ev ta σ H (.ref a)) : Ev (tCB (rLenS K) (tCons ta tNil)) σ H (.int (ns.length : Int)) := by
  have := ev_len ha h
  rw [List.length_map] at this
  exact this
/-- a new list of new lists -/
def EvN (te : TE) (σ : L2.St) (H : Hp) (ys : List (List V)) : Prop := ∀ H1, Ex H H1 → ∀ Q : VK, (∀ p ps H2, LNew H1 H2 p ps ys → Ex H1 H2 → Q (.ref p) H2) → te σ H1 Q
/-- [te for x in xs], each te a new list -/
theorem en_ys {α : Type} {σ : L2.St} {te tl : TE} {j : Nat} {vs : List Nat} {xs : List α} {enc : α → V} {ys : List (List V)} (h : Ev tl σ H (.ref a)) (hx : SqL K H a (xs.map enc)) (hz : xs.length ≤ 40000) (hl : ys.length = xs.length)
    (hw : ∀ x, wipe ((wipe σ vs).set j (some x)) vs = wipe σ vs)
    (he : ∀ (i : Nat) (x : α) (y : List V) H1, xs[i]? = some x → ys[i]? = some y → Ex H H1 → EvL te ((wipe σ vs).set j (some (enc x))) H1 y) : EvN (tLc (iList K tl) (gName j) tYes te vs) σ H ys := by
  intro H0 e0 Q q
  refine h H0 e0 _ fun H1 e1 => ⟨a, rfl, ⟨_, ex_l (e0.trans e1) hx⟩, fun D hD => ?_⟩
  refine lc_list (K := K) (a := a) (xs := xs.map enc) (fun i H' => ∃ ps : List Addr, Ex H1 H' ∧ LNew H1 H' D ps (ys.take i)) ⟨[], Ex.new hD, hD, upd_same, by simp, by simp, fun i q y h1 => by simp at h1⟩
    (fun i H' _ p => ex_l ((e0.trans e1).trans p.choose_spec.1) hx) (fun i x H' hi p => ?_) (fun H' p => ?_)
  · obtain ⟨ps, ex, L⟩ := p
    rw [List.getElem?_map] at hi
    cases ei : xs[i]? with
    | none =>
      rw [ei] at hi
      cases hi
    | some y =>
      rw [ei] at hi
      obtain rfl : enc y = x := Option.some.inj hi
      have hil : i < xs.length := (List.getElem?_eq_some_iff.mp ei).1
      have hiy : i < ys.length := by omega
      refine ⟨hw _, iteT (B := ∃ ps : List Addr, Ex H1 H' ∧ LNew H1 H' D ps (ys.take (i + 1))) ?_⟩
      refine he i y ys[i] H' ei (List.getElem?_eq_getElem hiy) ((e0.trans e1).trans ex) H' (Ex.refl H') _ fun p H2 hp e2 h2 => ⟨ps.map V.ref, e2 _ _ L.top, sz_lt ?_, ps ++ [p], Ex.mut (ex.trans e2) hD, ?_⟩
      · have := L.len
        rw [List.length_take] at this
        rw [List.length_map]
        omega
      · have et : ys.take (i + 1) = ys.take i ++ [ys[i]] := by
          rw [List.take_add_one, List.getElem?_eq_getElem hiy]
          rfl
        rw [et]
        exact L.push ex e2 hp h2
  · obtain ⟨ps, ex, L⟩ := p
    have et : ys.take (xs.map enc).length = ys := by rw [List.length_map, ← hl, List.take_length]
    rw [et] at L
    exact q D ps H' (L.back e1) (e1.trans ex)
/-- [list(x) for x in xs] -/
theorem en_copy {σ : L2.St} {tl : TE} {j : Nat} {vs : List Nat} {ys : List (List V)} (h : Ev tl σ H (.ref a)) (hx : LV K H a ys) (hz : ys.length ≤ 40000) (hj : ∀ x, ((wipe σ vs).set j (some x))[j]? = some (some x))
    (hw : ∀ x, wipe ((wipe σ vs).set j (some x)) vs = wipe σ vs) : EvN (tLc (iList K tl) (gName j) tYes (tCB (rListS K) (tCons (tVar j) tNil)) vs) σ H ys := by
  obtain ⟨ps, h1, h2, h3⟩ := hx
  exact en_ys (xs := ps) (enc := V.ref) h h1 (by omega) h2.symm hw fun i x y H1 hi hy e1 => el_list (ev_var (hj _)) (ex_l e1 (h3 i x y hi hy))
theorem q_asgN {σ : L2.St} {te : TE} {ys : List (List V)} {i : Nat} {tz : TS} {D : Ends} (h : EvN te σ H ys) (k : ∀ p ps H1, LNew H H1 p ps ys → Ex H H1 → tz D (σ.set i (some (.ref p))) H1) : tSeq (tAsg te (gName i)) tz D σ H := h H (Ex.refl H) _ k
end
/-! ### heaps that are filled -/
theorem flat_set {α : Type} : ∀ {hs : List (List α)} {i : Nat} {h : List α} {x : α}, hs[i]? = some h → (hs.set i (h ++ [x])).flatten.length = hs.flatten.length + 1
  | [], _, _, _, h => by simp at h
  | h0 :: r, 0, h, x, e => by
    obtain rfl : h0 = h := Option.some.inj e
    simp
    omega
  | h0 :: r, i + 1, h, x, e => by
    have ih := flat_set (hs := r) (i := i) (h := h) (x := x) e
    simp only [List.set_cons_succ, List.flatten_cons, List.length_append]
    omega
/-- pn new heaps of goods, told by hs -/
structure Hps (H0 H : Hp) (p : Addr) (ps : List Addr) (hs : List (List Int)) (pn gn k : Nat) : Prop where
  L : LNew H0 H p ps (iv hs)
  ex : Ex H0 H
  len : hs.length = pn
  ins : ∀ h ∈ hs, Inside gn h
  few : hs.flatten.length ≤ k
theorem Hps.ext {H0 H H' : Hp} {p : Addr} {ps : List Addr} {hs : List (List Int)} {pn gn k : Nat} (h : Hps H0 H p ps hs pn gn k) (e : Ex H H') : Hps H0 H' p ps hs pn gn k := ⟨h.L.ext e, h.ex.trans e, h.len, h.ins, h.few⟩
theorem Hps.le {H0 H : Hp} {p : Addr} {ps : List Addr} {hs : List (List Int)} {pn gn k k' : Nat} (h : Hps H0 H p ps hs pn gn k) (e : k ≤ k') : Hps H0 H p ps hs pn gn k' := ⟨h.L, h.ex, h.len, h.ins, Nat.le_trans h.few e⟩
theorem flat_len_at {hs : List (List Int)} {h : List Int} (m : h ∈ hs) : h.length ≤ hs.flatten.length := by
  obtain ⟨a, b, rfl⟩ := List.append_of_mem m
  simp
  omega
/-- a written list of one list -/
theorem lv_one {K : PySem.W.Frag} {H : Hp} {a b : Addr} {r : List Int} (h : H a = some (.lst [V.ref b])) (h2 : H b = some (.lst (r.map V.int))) : LL K H a [r] := by
  refine ⟨[b], sq_of h, rfl, fun i q y h3 h4 => ?_⟩
  cases i with
  | zero =>
    obtain rfl : b = q := Option.some.inj h3
    obtain rfl : r.map V.int = y := Option.some.inj h4
    exact sq_of h2
  | succ i => simp at h3
theorem lv_two {K : PySem.W.Frag} {H : Hp} {a b c : Addr} {r t : List Int} (h : H a = some (.lst [V.ref b, V.ref c])) (h2 : H b = some (.lst (r.map V.int))) (h5 : H c = some (.lst (t.map V.int))) : LL K H a [r, t] := by
  refine ⟨[b, c], sq_of h, rfl, fun i q y h3 h4 => ?_⟩
  cases i with
  | zero =>
    obtain rfl : b = q := Option.some.inj h3
    obtain rfl : r.map V.int = y := Option.some.inj h4
    exact sq_of h2
  | succ i =>
    cases i with
    | zero =>
      obtain rfl : c = q := Option.some.inj h3
      obtain rfl : t.map V.int = y := Option.some.inj h4
      exact sq_of h5
    | succ i => simp at h3
theorem Hps.app {H0 H : Hp} {p : Addr} {ps : List Addr} {hs : List (List Int)} {pn gn k i j : Nat} (h : Hps H0 H p ps hs pn gn k) (hi : i < pn) (hj : j < gn) :
    ∃ q, ps[i]? = some q ∧ H q = some (.lst ((hs.getD i []).map V.int)) ∧ ∀ H', Ex H H' → Hps H0 (upd H' q (.lst ((hs.getD i []).map V.int ++ [.int (j : Int)]))) p ps (hs.set i (hs.getD i [] ++ [(j : Int)])) pn gn (k + 1) := by
  have hil : i < hs.length := by
    rw [h.len]
    exact hi
  have eh : hs.getD i [] = hs[i] := by simp [List.getD_eq_getElem?_getD, hil]
  have ehs : hs[i]? = some (hs.getD i []) := by rw [eh]; exact List.getElem?_eq_getElem hil
  have ey : (iv hs)[i]? = some ((hs.getD i []).map V.int) := by rw [List.getElem?_map, ehs]; rfl
  have hip : i < ps.length := by
    have := h.L.len
    rw [List.length_map] at this
    omega
  have hq : ps[i]? = some ps[i] := List.getElem?_eq_getElem hip
  refine ⟨ps[i], hq, (h.L.at_ i _ _ hq ey).2, fun H' e => ?_⟩
  refine ⟨?_, (h.L.ext e).exm hq (h.ex.trans e), by rw [List.length_set]; exact h.len, fun x hx => ?_, by rw [flat_set ehs]; have := h.few; omega⟩
  · have := (h.L.ext e).app (y' := (hs.getD i []).map V.int ++ [.int (j : Int)]) hq ey
    have es : iv (hs.set i (hs.getD i [] ++ [(j : Int)])) = (iv hs).set i ((hs.getD i []).map V.int ++ [.int (j : Int)]) := by
      show List.map _ _ = _
      rw [List.map_set, List.map_append]
      rfl
    rw [es]
    exact this
  · rcases List.mem_or_eq_of_mem_set hx with hx | rfl
    · exact h.ins x hx
    · intro g hg
      rcases List.mem_append.mp hg with hg | hg
      · exact h.ins _ (by rw [eh]; exact List.getElem_mem hil) g hg
      · rw [List.mem_singleton.mp hg]
        omega
theorem mod_range (x : Int) {m : Int} (h : 0 < m) : ∃ n : Nat, x % m = (n : Int) ∧ (n : Int) < m := by
  have h0 : 0 ≤ x % m := Int.emod_nonneg _ (by omega)
  have h1 : x % m < m := Int.emod_lt_of_pos _ h
  exact ⟨(x % m).toNat, by omega, by omega⟩
theorem shaped_list {ds : List PyData} (h : ∀ d ∈ ds, PyData.canLay0 d = true ∧ PyData.depth d ≤ 63) : SeqAt.shaped (.list ds) = true := by
  have h1 : ∀ ds : List PyData, (∀ d ∈ ds, PyData.canLay0 d = true ∧ PyData.depth d ≤ 63) → PyData.canLayAll0 ds = true ∧ PyData.depthAll ds ≤ 63 := by
    intro ds
    induction ds with
    | nil => intro _; simp [PyData.canLayAll0, PyData.depthAll]
    | cons d r ih =>
      intro h
      have a := h d List.mem_cons_self
      have b := ih fun x hx => h x (List.mem_cons_of_mem _ hx)
      simp only [PyData.canLayAll0, PyData.depthAll]
      rw [a.1, b.1]
      exact ⟨rfl, by omega⟩
  have a := h1 ds h
  unfold SeqAt.shaped
  simp only [PyData.canLay0, PyData.depth]
  rw [a.1]
  exact decide_eq_true (by omega)
section
variable {σ : L2.St} {H : Hp} {ts : TA} {Q : VK}
theorem g_lst (h : ts σ H fun xs H1 => xs.length ≤ sizeLine ∧ ∀ p, H1 p = none → Q (.ref p) (upd H1 p (.lst xs))) : tLst ts σ H Q := h
theorem g_tup (h : ts σ H fun xs H1 => xs.length ≤ sizeLine ∧ ∀ p, H1 p = none → Q (.ref p) (upd H1 p (.tup xs))) : tTup ts σ H Q := h
end
/-! ### a comprehension over a list of lists, flattened -/
theorem flat_take {α : Type} (yss : List (List α)) {i : Nat} (h : i < yss.length) : (yss.take (i + 1)).flatten = (yss.take i).flatten ++ yss[i] := by
  rw [List.take_add_one, List.getElem?_eq_getElem h, List.flatten_append]
  simp
section
variable {K : PySem.W.Frag} {σ : L2.St} {H : Hp} {te tl : TE} {a : Addr} {j j2 : Nat} {vs vs1 : List Nat}
/-- [te for ys in a for y in ys] -/
theorem el_flat {yss : List (List V)} (g : V → V) (h : Ev tl σ H (.ref a)) (hx : LV K H a yss) (hz : (yss.flatten).length ≤ 40000)
    (hj : ((wipe σ vs).set j (some (.ref a)))[j]? = some (some (.ref a)))
    (hw : ∀ x, wipe ((wipe σ vs).set j (some x)) vs = wipe σ vs) (hw1 : ∀ x y, wipe ((wipe ((wipe σ vs).set j (some x)) vs1).set j2 (some y)) vs1 = wipe ((wipe σ vs).set j (some x)) vs1)
    (he : ∀ (x y : V) H1, y ∈ yss.flatten → Ex H H1 → Ev te ((wipe ((wipe σ vs).set j (some x)) vs1).set j2 (some y)) H1 (g y)) :
    EvL (tLc2 (iList K tl) (gName j) tYes (iList K (tVar j)) (gName j2) tYes te vs vs1) σ H (yss.flatten.map g) := by
  intro H0 e0 Q q
  obtain ⟨ps, hs, hl, hat⟩ := hx
  have hjl : j < (wipe σ vs).length := by
    have := (List.getElem?_eq_some_iff.mp hj).1
    rw [List.length_set] at this
    exact this
  have fl : ∀ n, ((yss.take n).flatten).length ≤ yss.flatten.length := fun n => by
    have e : yss.flatten = (yss.take n).flatten ++ (yss.drop n).flatten := by rw [← List.flatten_append, List.take_append_drop]
    rw [e, List.length_append]
    omega
  refine h H0 e0 _ fun H1 e1 => ⟨a, rfl, ⟨_, ex_l (e0.trans e1) hs⟩, fun D hD => ?_⟩
  refine ⟨fun i m H' => m = ps.length - i ∧ i ≤ ps.length ∧ Ex H1 H' ∧ H' D = some (.lst ((yss.take i).flatten.map g)), ⟨ps.length, rfl, Nat.zero_le _, Ex.new hD, upd_same⟩, ?_⟩
  rintro i m H' ⟨rfl, hi, ex, hD'⟩
  have hS : SqL K H' a (ps.map V.ref) := ex_l ((e0.trans e1).trans ex) hs
  by_cases hlt : i < ps.length
  · have hy : i < yss.length := by omega
    refine .inr ⟨⟨_, _, hS, by rw [List.getElem?_map, List.getElem?_eq_getElem hlt]; rfl⟩, fun H'' => i + 1 ≤ ps.length ∧ Ex H1 H'' ∧ H'' D = some (.lst ((yss.take (i + 1)).flatten.map g)), fun H'' z => ⟨ps.length - (i + 1), by omega, rfl, z⟩, fun x H'' y => ?_⟩
    obtain ⟨rfl, hyl⟩ := y
    have ex' := hyl _ hS
    rw [List.getElem?_map, List.getElem?_eq_getElem hlt] at ex'
    obtain rfl : V.ref ps[i] = x := Option.some.inj ex'
    refine ⟨hw _, iteT (B := i + 1 ≤ ps.length ∧ Ex H1 H'' ∧ H'' D = some (.lst ((yss.take (i + 1)).flatten.map g))) ?_⟩
    have hq : SqL K H'' ps[i] yss[i] := ex_l ((e0.trans e1).trans ex) (hat i _ _ (List.getElem?_eq_getElem hlt) (List.getElem?_eq_getElem hy))
    refine ⟨.ref ps[i], by rw [List.getElem?_set_self hjl], ps[i], rfl, ⟨_, hq⟩, ?_⟩
    refine ⟨fun k m H3 => m = yss[i].length - k ∧ k ≤ yss[i].length ∧ Ex H1 H3 ∧ H3 D = some (.lst (((yss.take i).flatten ++ yss[i].take k).map g)), ⟨yss[i].length, rfl, Nat.zero_le _, ex, by simpa using hD'⟩, ?_⟩
    rintro k m H3 ⟨rfl, hk, ex3, hD3⟩
    have hq3 : SqL K H3 ps[i] yss[i] := ex_l ((e0.trans e1).trans ex3) (hat i _ _ (List.getElem?_eq_getElem hlt) (List.getElem?_eq_getElem hy))
    by_cases hkl : k < yss[i].length
    · refine .inr ⟨⟨_, _, hq3, List.getElem?_eq_getElem hkl⟩, fun H4 => k + 1 ≤ yss[i].length ∧ Ex H1 H4 ∧ H4 D = some (.lst (((yss.take i).flatten ++ yss[i].take (k + 1)).map g)), fun H4 z => ⟨yss[i].length - (k + 1), by omega, rfl, z⟩, fun y H4 z => ?_⟩
      obtain ⟨rfl, hyl2⟩ := z
      have ey := hyl2 _ hq3
      rw [List.getElem?_eq_getElem hkl] at ey
      obtain rfl : yss[i][k] = y := Option.some.inj ey
      refine ⟨hw1 _ _, iteT (B := k + 1 ≤ yss[i].length ∧ Ex H1 H4 ∧ H4 D = some (.lst (((yss.take i).flatten ++ yss[i].take (k + 1)).map g))) ?_⟩
      have hm : yss[i][k] ∈ yss.flatten := List.mem_flatten.mpr ⟨_, List.getElem_mem hy, List.getElem_mem hkl⟩
      refine he _ _ H4 hm ((e0.trans e1).trans ex3) H4 (Ex.refl H4) _ fun H5 e5 => ⟨_, e5 _ _ hD3, sz_lt ?_, by omega, Ex.mut (ex3.trans e5) hD, ?_⟩
      · rw [List.length_map, List.length_append, List.length_take]
        have h2 := fl (i + 1)
        rw [flat_take yss hy, List.length_append] at h2
        omega
      · rw [upd_same, List.take_add_one, List.getElem?_eq_getElem hkl, ← List.append_assoc, List.map_append (l₁ := (yss.take i).flatten ++ yss[i].take k)]
        rfl
    · have ek : k = yss[i].length := by omega
      subst ek
      refine .inl ⟨⟨_, hq3, Nat.le_refl _⟩, by omega, ex3, ?_⟩
      rw [hD3, flat_take yss hy, List.take_length]
  · have ei : i = ps.length := by omega
    subst ei
    refine .inl ⟨⟨_, hS, by rw [List.length_map]; exact Nat.le_refl _⟩, ?_⟩
    rw [hl, List.take_length] at hD'
    exact q D H' (fresh_back e1 hD) (e1.trans ex) hD'
end
/-! ### equal data -/
theorem rv_neR {K : PySem.W.Frag} {H : Hp} {v w : V} {d : PyData} (hs : SeqAt.shaped d = true) (h1 : Dp K H v d) (h2 : Dp K H w d) : RV (rNeD K) v w H (.bl false) := fun H1 e Q q =>
  ⟨d, d, dp_mono e h1, dp_mono e h2, hs, hs, by rw [SeqAt.eqv_refl d (SeqAt.canLay_of_shaped hs)]; exact q H1 (Ex.refl H1)⟩
theorem rv_eqR {K : PySem.W.Frag} {H : Hp} {v w : V} {d : PyData} (hs : SeqAt.shaped d = true) (h1 : Dp K H v d) (h2 : Dp K H w d) : RV (rEqD K) v w H (.bl true) := fun H1 e Q q =>
  ⟨d, d, dp_mono e h1, dp_mono e h2, hs, hs, by rw [SeqAt.eqv_refl d (SeqAt.canLay_of_shaped hs)]; exact q H1 (Ex.refl H1)⟩
/-! ### lists of pairs -/
/-- at p a list of new tuples of two ints -/
structure PNew (H : Hp) (p : Addr) (qs : List Addr) (ps : List (Int × Int)) : Prop where
  top : H p = some (.lst (qs.map V.ref))
  len : qs.length = ps.length
  at_ : ∀ (i : Nat) (q : Addr) (x : Int × Int), qs[i]? = some q → ps[i]? = some x → H q = some (.tup [.int x.1, .int x.2])
abbrev dP (ps : List (Int × Int)) : PyData := .list (ps.map fun x => PyData.tuple [.int x.1, .int x.2])
theorem encP : EncOk dP 2 := encList (encPair encInt encInt)
def RetP (ps : List (Int × Int)) (H : Hp) (Q : VK) : Prop := ∀ p qs H2, H p = none → Ex H H2 → PNew H2 p qs ps → Q (.ref p) H2
section
variable {K : PySem.W.Frag} {H H' : Hp} {p : Addr} {qs : List Addr} {ps : List (Int × Int)}
theorem PNew.ext (h : PNew H p qs ps) (e : Ex H H') : PNew H' p qs ps := ⟨e _ _ h.top, h.len, fun i q x h1 h2 => e _ _ (h.at_ i q x h1 h2)⟩
theorem PNew.push {t : Addr} {x : Int × Int} (P : PNew H p qs ps) (e : Ex H H') (ht : H t = none) (h2 : H' t = some (.tup [.int x.1, .int x.2])) : PNew (upd H' p (.lst (qs.map V.ref ++ [.ref t]))) p (qs ++ [t]) (ps ++ [x]) := by
  have ntp : t ≠ p := fun z => by
    rw [z, P.top] at ht
    cases ht
  refine ⟨?_, ?_, fun i q y h3 h4 => ?_⟩
  · rw [upd_same, List.map_append]
    rfl
  · rw [List.length_append, List.length_append, P.len]
    rfl
  · by_cases hi : i < qs.length
    · rw [List.getElem?_append_left hi] at h3
      rw [List.getElem?_append_left (by rw [← P.len]; exact hi)] at h4
      have a1 := P.at_ i q y h3 h4
      have nq : q ≠ p := ne_of a1 P.top (by intro z; cases z)
      rw [upd_ne nq]
      exact e _ _ a1
    · have hk : i = qs.length := by
        have := (List.getElem?_eq_some_iff.mp h3).1
        rw [List.length_append] at this
        have : i < qs.length + 1 := this
        omega
      subst hk
      rw [List.getElem?_append_right (Nat.le_refl _), Nat.sub_self] at h3
      rw [List.getElem?_append_right (by rw [← P.len]; exact Nat.le_refl _), ← P.len, Nat.sub_self] at h4
      obtain rfl : t = q := Option.some.inj h3
      obtain rfl : x = y := Option.some.inj h4
      rw [upd_ne ntp]
      exact h2
theorem dpAll_pairs : ∀ {qs : List Addr} {ps : List (Int × Int)}, qs.length = ps.length → (∀ (i : Nat) (q : Addr) (x : Int × Int), qs[i]? = some q → ps[i]? = some x → H q = some (.tup [.int x.1, .int x.2])) → DpAll K H (qs.map V.ref) (ps.map fun x => PyData.tuple [.int x.1, .int x.2])
  | [], [], _, _ => .nil
  | [], _ :: _, h, _ => by cases h
  | _ :: _, [], h, _ => by cases h
  | q :: qs, x :: ps, hl, h => .cons (.tup (st_of (h 0 q x rfl rfl)) (.cons (.int _) (.cons (.int _) .nil))) (dpAll_pairs (Nat.succ.inj hl) fun i q s h1 h2 => h (i + 1) q s h1 h2)
theorem PNew.dp (P : PNew H p qs ps) : Dp K H (.ref p) (dP ps) := .lst (sq_of P.top) (dpAll_pairs P.len P.at_)
end
theorem ev_isList {σ : L2.St} {K : PySem.W.Frag} {H : Hp} {te : TE} {a : Addr} {xs : List V} (h : Ev te σ H (.ref a)) (hx : H a = some (.lst xs)) : Ev (tCB (rIsi K) (tCons te (tCons (tC (.ty "list")) tNil))) σ H (.bl true) :=
  ev_cb (ea_cons h (ea_cons ev_c ea_nil)) fun H1 e Q q => ⟨_, _, _, _, true, rfl, .ty _, .base (.lst (e _ _ hx)), kit_ty (by decide +kernel), q H1 (Ex.refl H1)⟩
theorem ev_isTuple {σ : L2.St} {K : PySem.W.Frag} {H : Hp} {te : TE} {a : Addr} {xs : List V} (h : Ev te σ H (.ref a)) (hx : H a = some (.tup xs)) : Ev (tCB (rIsi K) (tCons te (tCons (tC (.ty "tuple")) tNil))) σ H (.bl true) :=
  ev_cb (ea_cons h (ea_cons ev_c ea_nil)) fun H1 e Q q => ⟨_, _, _, _, true, rfl, .ty _, .base (.tup (e _ _ hx)), kit_ty (by decide +kernel), q H1 (Ex.refl H1)⟩
theorem ev_lenT {σ : L2.St} {K : PySem.W.Frag} {H : Hp} {ta : TE} {p : Addr} {xs : List V} (ha : Ev ta σ H (.ref p)) (h : H p = some (.tup xs)) : Ev (tCB (rLenS K) (tCons ta tNil)) σ H (.int (xs.length : Int)) := fun H1 e Q q =>
  ha H1 e _ fun H2 e2 => ⟨p, xs, rfl, Or.inr (st_of ((e.trans e2) _ _ h)), q H2 e2⟩
/-! ### comprehensions over rows, over two lists at once -/
section
variable {K : PySem.W.Frag} {σ : L2.St} {H : Hp} {te tl : TE} {ta : TA} {a b : Addr} {j j1 j2 : Nat} {vs : List Nat}
/-- [te for row in rows] -/
theorem el_rows {rows : List (List Int)} (g : List Int → V) (h : Ev tl σ H (.ref a)) (hx : LL K H a rows) (hz : rows.length ≤ 40000) (hw : ∀ x, wipe ((wipe σ vs).set j (some x)) vs = wipe σ vs)
    (he : ∀ (i : Nat) (p : Addr) H1, i < rows.length → SqL K H1 p ((rows.getD i []).map V.int) → Ex H H1 → Ev te ((wipe σ vs).set j (some (.ref p))) H1 (g (rows.getD i []))) :
    EvL (tLc (iList K tl) (gName j) tYes te vs) σ H (rows.map g) := by
  obtain ⟨ps, h1, h2, h3⟩ := hx
  rw [List.length_map] at h2
  have L := el_lcL (t := tYes) (te := te) (j := j) (vs := vs) (fun _ => true) (fun i => g (rows.getD i [])) h h1 (by rw [List.length_map]; omega) hw (fun _ _ _ _ _ => et_yes)
    (fun i x H1 e1 hi _ => by
      rw [List.getElem?_map] at hi
      cases ei : ps[i]? with
      | none =>
        rw [ei] at hi
        cases hi
      | some p =>
        rw [ei] at hi
        obtain rfl : V.ref p = x := Option.some.inj hi
        have hil : i < rows.length := by
          have := (List.getElem?_eq_some_iff.mp ei).1
          omega
        have er : rows.getD i [] = rows[i] := by simp [List.getD_eq_getElem?_getD, hil]
        refine he i p H1 hil (ex_l e1 (h3 i p _ ei ?_)) e1
        rw [List.getElem?_map, List.getElem?_eq_getElem hil, er]
        rfl)
  rw [List.length_map, h2, given_all] at L
  exact L
/-- [te for x, y in zip(xs, ys)] -/
theorem el_zip {xs ys : List V} (v : Nat → V) (h : EvA ta σ H [.ref a, .ref b]) (hx : SqL K H a xs) (hy : SqL K H b ys) (hl : xs.length = ys.length) (hz : xs.length ≤ 40000)
    (hw : ∀ x y, wipe (((wipe σ vs).set j1 (some x)).set j2 (some y)) vs = wipe σ vs)
    (he : ∀ (i : Nat) (x y : V) H1, xs[i]? = some x → ys[i]? = some y → Ex H H1 → Ev te (((wipe σ vs).set j1 (some x)).set j2 (some y)) H1 (v i)) :
    EvL (tLc (iZip K ta) (gTup K 2 (gCons (gName j1) (gCons (gName j2) gNil))) tYes te vs) σ H ((List.range xs.length).map v) := by
  intro H0 e0 Q q
  refine h H0 e0 _ fun H1 e1 => ⟨a, b, xs, ys, rfl, ex_l (e0.trans e1) hx, ex_l (e0.trans e1) hy, fun D hD => ?_⟩
  refine ⟨fun i m H' => m = xs.length - i ∧ i ≤ xs.length ∧ Ex H1 H' ∧ H' D = some (.lst ((List.range i).map v)), ⟨xs.length, rfl, Nat.zero_le _, Ex.new hD, upd_same⟩, ?_⟩
  rintro i m H' ⟨rfl, hi, ex, hD'⟩
  have qx : SqL K H' a xs := ex_l ((e0.trans e1).trans ex) hx
  have qy : SqL K H' b ys := ex_l ((e0.trans e1).trans ex) hy
  by_cases hlt : i < xs.length
  · have hlt2 : i < ys.length := by omega
    refine .inr ⟨⟨xs, ys, _, _, qx, qy, List.getElem?_eq_getElem hlt, List.getElem?_eq_getElem hlt2⟩, fun H'' => i + 1 ≤ xs.length ∧ Ex H1 H'' ∧ H'' D = some (.lst ((List.range (i + 1)).map v)), fun H'' z => ⟨xs.length - (i + 1), by omega, rfl, z⟩, fun u H'' y => ?_⟩
    obtain ⟨T, x', y', rfl, hT, rfl, f1, f2⟩ := y
    have eT : Ex H' (upd H' T (.tup [x', y'])) := Ex.new hT
    refine ⟨T, [x', y'], rfl, .inl (.inl upd_same), rfl, x', [y'], rfl, y', [], rfl, rfl, hw _ _, iteT (B := i + 1 ≤ xs.length ∧ Ex H1 (upd H' T (.tup [x', y'])) ∧ (upd H' T (.tup [x', y'])) D = some (.lst ((List.range (i + 1)).map v))) ?_⟩
    refine he i x' y' _ (f1 _ qx) (f2 _ qy) (((e0.trans e1).trans ex).trans eT) _ (Ex.refl _) _ fun H3 e3 => ⟨_, e3 _ _ (eT _ _ hD'), sz_lt (by rw [List.length_map, List.length_range]; omega), by omega, Ex.mut ((ex.trans eT).trans e3) hD, ?_⟩
    rw [upd_same, List.range_succ, List.map_append]
    rfl
  · have ei : i = xs.length := by omega
    subst ei
    exact .inl ⟨⟨xs, ys, qx, qy, Or.inl (Nat.le_refl _)⟩, q D H' (fresh_back e1 hD) (e1.trans ex) hD'⟩
end
/-- at a stands a list of lists that this call, or the one asking, has made -/
def TV (H : Hp) (a : Addr) (ys : List (List V)) : Prop :=
  ∃ ps : List Addr, H a = some (.lst (ps.map V.ref)) ∧ ps.length = ys.length ∧ ∀ (i : Nat) (q : Addr) (y : List V), ps[i]? = some q → ys[i]? = some y → H q = some (.lst y)
theorem TV.mono {H H' : Hp} {a : Addr} {ys : List (List V)} (e : Ex H H') (h : TV H a ys) : TV H' a ys := by
  obtain ⟨ps, h1, h2, h3⟩ := h
  exact ⟨ps, e _ _ h1, h2, fun i q y h4 h5 => e _ _ (h3 i q y h4 h5)⟩
theorem LNew.tv {H0 H : Hp} {p : Addr} {ps : List Addr} {ys : List (List V)} (h : LNew H0 H p ps ys) : TV H p ys := ⟨ps, h.top, h.len, fun i q y h1 h2 => (h.at_ i q y h1 h2).2⟩
theorem TV.lv {K : PySem.W.Frag} {H : Hp} {a : Addr} {ys : List (List V)} (h : TV H a ys) : LV K H a ys := by
  obtain ⟨ps, h1, h2, h3⟩ := h
  exact ⟨ps, sq_of h1, h2, fun i q y h4 h5 => sq_of (h3 i q y h4 h5)⟩
/-! ### bids, heaps and sums -/
/-- bids: 1 to 9 rows of m bids -/
structure Bids (rows : List (List Int)) (m : Nat) : Prop where
  ne : 0 < rows.length
  l9 : rows.length ≤ 9
  m40 : m ≤ 40
  len : ∀ r ∈ rows, r.length = m
  ok : ∀ r ∈ rows, ∀ b ∈ r, 0 ≤ b ∧ b ≤ 1000000000000
theorem Bids.at_ {rows : List (List Int)} {m : Nat} (h : Bids rows m) {i : Nat} (hi : i < rows.length) : (rows.getD i []).length = m := by
  have e : rows.getD i [] = rows[i] := by simp [List.getD_eq_getElem?_getD, hi]
  rw [e]
  exact h.len _ (List.getElem_mem hi)
/-- heaps and sums that fit the bids -/
structure Fits (rows : List (List Int)) (m : Nat) (hs : List (List Int)) (ss : List Int) : Prop where
  hl : hs.length = rows.length
  sl : ss.length = rows.length
  ins : ∀ h ∈ hs, Inside m h
  few : hs.flatten.length ≤ 4000
theorem Fits.at_ {rows : List (List Int)} {m : Nat} {hs : List (List Int)} {ss : List Int} (F : Fits rows m hs ss) {i : Nat} (hi : i < rows.length) : Inside m (hs.getD i []) := by
  have h2 : i < hs.length := by
    rw [F.hl]
    exact hi
  have e : hs.getD i [] = hs[i] := by simp [List.getD_eq_getElem?_getD, h2]
  rw [e]
  exact F.ins _ (List.getElem_mem h2)
theorem Fits.few_at {rows : List (List Int)} {m : Nat} {hs : List (List Int)} {ss : List Int} (F : Fits rows m hs ss) {i : Nat} (hi : i < rows.length) : (hs.getD i []).length ≤ 4000 := by
  have h2 : i < hs.length := by
    rw [F.hl]
    exact hi
  have e : hs.getD i [] = hs[i] := by simp [List.getD_eq_getElem?_getD, h2]
  rw [e]
  exact Nat.le_trans (flat_len_at (List.getElem_mem h2)) F.few
theorem iv_flat (hs : List (List Int)) : (iv hs).flatten = hs.flatten.map V.int := by
  rw [List.map_flatten]
theorem any_flat {H : Hp} (hs : List (List Int)) : ∀ y ∈ (iv hs).flatten, Any H y := by
  intro y hy
  rw [iv_flat] at hy
  obtain ⟨g, hg, rfl⟩ := List.mem_map.mp hy
  exact .int g
def gainM (rows hs : List (List Int)) (ss : List Int) (i j : Nat) : Int := worthM (rows.getD i []) (hs.getD j []) * rows.length - ss.getD j 0
/-- append to one of the new lists -/
theorem LNew.put {H0 H : Hp} {p : Addr} {ps : List Addr} {hs : List (List Int)} {i : Nat} (h : LNew H0 H p ps (iv hs)) (hi : i < hs.length) :
    ∃ q, ps[i]? = some q ∧ H q = some (.lst ((hs.getD i []).map V.int)) ∧ ∀ H', Ex H H' → ∀ z : Int, LNew H0 (upd H' q (.lst ((hs.getD i []).map V.int ++ [.int z]))) p ps (iv (hs.set i (hs.getD i [] ++ [z]))) := by
  have ehs : hs[i]? = some (hs.getD i []) := by simp [List.getD_eq_getElem?_getD, hi]
  have ey : (iv hs)[i]? = some ((hs.getD i []).map V.int) := by rw [List.getElem?_map, ehs]; rfl
  have hip : i < ps.length := by
    have := h.len
    rw [List.length_map] at this
    omega
  have hq : ps[i]? = some ps[i] := List.getElem?_eq_getElem hip
  refine ⟨ps[i], hq, (h.at_ i _ _ hq ey).2, fun H' e z => ?_⟩
  have := (h.ext e).app (y' := (hs.getD i []).map V.int ++ [.int z]) hq ey
  have es : iv (hs.set i (hs.getD i [] ++ [z])) = (iv hs).set i ((hs.getD i []).map V.int ++ [.int z]) := by
    show List.map _ _ = _
    rw [List.map_set, List.map_append]
    rfl
  rw [es]
  exact this
/-! ### a heap without some of its objects -/
def msk (H : Hp) (l : List Addr) : Hp := fun b => if b ∈ l then none else H b
theorem msk_at {H : Hp} {l : List Addr} {b : Addr} (h : b ∉ l) : msk H l b = H b := by
  unfold msk
  rw [if_neg h]
theorem msk_of {H : Hp} {l : List Addr} {b : Addr} {o : HO} (h : msk H l b = some o) : H b = some o ∧ b ∉ l := by
  unfold msk at h
  by_cases m : b ∈ l
  · rw [if_pos m] at h
    cases h
  · rw [if_neg m] at h
    exact ⟨h, m⟩
theorem msk_ex {H H' : Hp} {l : List Addr} (h : ∀ b o, H b = some o → b ∉ l → H' b = some o) : Ex (msk H l) H' := fun b o e => h b o (msk_of e).1 (msk_of e).2
theorem ex_msk {Hb H : Hp} {l : List Addr} (e : Ex Hb H) (h : ∀ b ∈ l, Hb b = none) : Ex Hb (msk H l) := fun b o hb => by
  rw [msk_at fun m => by rw [h b m] at hb; cases hb]
  exact e b o hb
theorem LNew.msk {H0 H : Hp} {p : Addr} {ps : List Addr} {ys : List (List V)} {l : List Addr} (L : LNew H0 H p ps ys) (h : ∀ b ∈ l, H0 b ≠ none) : TV (msk H l) p ys := by
  have n : ∀ b, H0 b = none → b ∉ l := fun b hb m => h b m hb
  refine ⟨ps, by rw [msk_at (n p L.new)]; exact L.top, L.len, fun i q y h1 h2 => ?_⟩
  have a := L.at_ i q y h1 h2
  rw [msk_at (n q a.1)]
  exact a.2
theorem TV.any {H : Hp} (hs : List (List Int)) : ∀ y ∈ (iv hs).flatten, Any H y := any_flat hs
/-- if a or not b: .., where b changes something -/
theorem q_orNot {σ : L2.St} {H : Hp} {t1 : TT} {te : TE} {tu tz : TS} {D : Ends} (h1 : EvT t1 σ H false) (h2 : ∀ H1, Ex H H1 → te σ H1 fun x H2 => ∃ k, x = .bl k ∧ (if (!k) = true then tu { D with nx := tz D } σ H2 else tz D σ H2)) : tSeq (tIfS (tOr t1 (tNot (tB te))) tu tNext) tz D σ H :=
  h1 H (Ex.refl H) _ fun H1 e1 => h2 H1 e1
/-! ### what is told of heaps, deals, envy -/
/-- x is the number of one of m -/
def place (x : V) (m : Int) : Bool := match x with
  | .int i => decide (0 ≤ i ∧ i < m)
  | _ => false
/-- how often each good stands there -/
def seenM (vs : List V) (g : Nat) : List Int := (List.range g).map fun k : Nat => ((vs.count (V.int k) : Nat) : Int)
def heapsB (yss : List (List V)) (n : Int) (g : Nat) : Bool := decide ((yss.length : Int) = n) && (yss.flatten.all (fun y => place y g) && decide (seenM yss.flatten g = List.replicate g 1))
theorem seenM_len (vs : List V) (g : Nat) : (seenM vs g).length = g := by simp [seenM]
theorem seenM_nil (g : Nat) : seenM [] g = List.replicate g 0 := by
  unfold seenM
  refine List.ext_getElem (by simp) fun i h1 h2 => ?_
  simp
theorem seenM_push {vs : List V} {g k : Nat} (h : k < g) : (seenM vs g).set k ((seenM vs g).getD k 0 + 1) = seenM (vs ++ [V.int k]) g := by
  refine List.ext_getElem (by simp [seenM]) fun i h1 h2 => ?_
  have hi : i < g := by simpa [seenM] using h2
  rw [List.getElem_set]
  by_cases e : k = i
  · subst e
    rw [if_pos rfl]
    simp [seenM, List.getD_eq_getElem?_getD, h]
  · rw [if_neg e]
    have : List.count (V.int (i : Int)) [V.int (k : Int)] = 0 := by
      rw [List.count_eq_zero]
      intro m
      have := V.int.inj (List.mem_singleton.mp m)
      omega
    simp [seenM, List.count_append, this]
def dealB (yss : List (List V)) (ss : List Int) (n : Int) (g : Nat) : Bool := heapsB yss n g && (decide ((ss.length : Int) = n) && decide (ss.sum = 0))
def enviedB (g : Nat → Nat → Int) (n : Nat) : Bool := (List.range n).any fun i => (List.range n).any fun j => decide (g i i < g i j)
theorem enviedB_of {g : Nat → Nat → Int} {n i j : Nat} (hi : i < n) (hj : j < n) (h : g i i < g i j) : enviedB g n = true :=
  List.any_eq_true.mpr ⟨i, List.mem_range.mpr hi, List.any_eq_true.mpr ⟨j, List.mem_range.mpr hj, decide_eq_true h⟩⟩
theorem enviedB_not {g : Nat → Nat → Int} {n : Nat} (h : ∀ i j, i < n → j < n → g i j ≤ g i i) : enviedB g n = false := by
  cases e : enviedB g n with
  | false => rfl
  | true =>
    obtain ⟨i, hi, h2⟩ := List.any_eq_true.mp e
    obtain ⟨j, hj, h3⟩ := List.any_eq_true.mp h2
    have := h i j (List.mem_range.mp hi) (List.mem_range.mp hj)
    have := of_decide_eq_true h3
    omega
/-- of pairs (i, j): those where g i j is more than g i i -/
def pairRow (g : Nat → Nat → Int) (n i : Nat) : List (Int × Int) := ((List.range n).filter fun j : Nat => decide (g i i < g i j)).map fun j : Nat => ((i : Int), (j : Int))
def pairsM (g : Nat → Nat → Int) (n i : Nat) : List (Int × Int) := ((List.range i).map (pairRow g n)).flatten
theorem pairRow_succ (g : Nat → Nat → Int) (j i : Nat) : pairRow g (j + 1) i = pairRow g j i ++ (if g i i < g i j then [((i : Int), (j : Int))] else []) := by
  unfold pairRow
  rw [List.range_succ, List.filter_append, List.map_append]
  congr 1
  by_cases h : g i i < g i j
  · simp [h]
  · simp [h]
theorem pairsM_succ (g : Nat → Nat → Int) (n i : Nat) : pairsM g n (i + 1) = pairsM g n i ++ pairRow g n i := by
  unfold pairsM
  rw [List.range_succ, List.map_append, List.flatten_append]
  simp
theorem pairRow_len (g : Nat → Nat → Int) (n i : Nat) : (pairRow g n i).length ≤ n := by
  unfold pairRow
  rw [List.length_map]
  have := List.length_filter_le (fun j : Nat => decide (g i i < g i j)) (List.range n)
  rw [List.length_range] at this
  exact this
theorem pairsM_len (g : Nat → Nat → Int) (n : Nat) : ∀ i, (pairsM g n i).length ≤ i * n
  | 0 => by simp [pairsM]
  | i + 1 => by
    rw [pairsM_succ, List.length_append]
    have h1 := pairsM_len g n i
    have h2 := pairRow_len g n i
    have e : (i + 1) * n = i * n + n := Nat.succ_mul i n
    omega
/-! ### the deal in heaps -/
def bidAt (rows : List (List Int)) (i g : Nat) : Int := (rows.getD i []).getD g 0
/-- person i is the first of those who bid most for the good g -/
def firstB (rows : List (List Int)) (i g : Nat) : Bool := (List.range rows.length).all fun k => !(decide (bidAt rows i g < bidAt rows k g) || (decide (bidAt rows k g = bidAt rows i g) && decide (k < i)))
theorem firstB_iff {rows : List (List Int)} {i g : Nat} : firstB rows i g = true ↔ ∀ k, k < rows.length → bidAt rows k g ≤ bidAt rows i g ∧ (bidAt rows k g = bidAt rows i g → i ≤ k) := by
  unfold firstB
  rw [List.all_eq_true]
  constructor
  · intro h k hk
    have h1 := h k (List.mem_range.mpr hk)
    simp at h1
    exact ⟨h1.1, fun e => h1.2.resolve_left fun n => n e⟩
  · intro h k hk
    have h1 := h k (List.mem_range.mp hk)
    simp
    refine ⟨h1.1, ?_⟩
    by_cases e : bidAt rows k g = bidAt rows i g
    · exact .inr (h1.2 e)
    · exact .inl e
theorem firstB_uniq {rows : List (List Int)} {i j g : Nat} (hi : i < rows.length) (hj : j < rows.length) (h1 : firstB rows i g = true) (h2 : firstB rows j g = true) : i = j := by
  have a := firstB_iff.mp h1 j hj
  have b := firstB_iff.mp h2 i hi
  have e : bidAt rows i g = bidAt rows j g := by omega
  have := a.2 e.symm
  have := b.2 e
  omega
/-- the heaps of the first m goods -/
def heapsM (rows : List (List Int)) (m : Nat) : List (List Int) := (List.range rows.length).map fun i : Nat => ((List.range m).filter (firstB rows i)).map fun g : Nat => (g : Int)
theorem heapsM_len (rows : List (List Int)) (m : Nat) : (heapsM rows m).length = rows.length := by simp [heapsM]
theorem heapsM_at {rows : List (List Int)} {m i : Nat} (hi : i < rows.length) : (heapsM rows m).getD i [] = ((List.range m).filter (firstB rows i)).map fun g : Nat => (g : Int) := by
  simp [heapsM, List.getD_eq_getElem?_getD, hi]
theorem heapsM_in (rows : List (List Int)) (m : Nat) : ∀ h ∈ heapsM rows m, Inside m h := by
  intro h hh g hg
  obtain ⟨i, _, rfl⟩ := List.mem_map.mp hh
  obtain ⟨j, hj, rfl⟩ := List.mem_map.mp hg
  have := List.mem_range.mp (List.mem_filter.mp hj).1
  omega
theorem heapsM_succ {rows : List (List Int)} {m j : Nat} (hj : j < rows.length) (hf : firstB rows j m = true) : (heapsM rows m).set j ((heapsM rows m).getD j [] ++ [(m : Int)]) = heapsM rows (m + 1) := by
  refine List.ext_getElem (by simp [heapsM]) fun k h1 h2 => ?_
  have hk : k < rows.length := by simpa [heapsM] using h2
  have e2 : (heapsM rows (m + 1))[k] = ((List.range (m + 1)).filter (firstB rows k)).map fun g : Nat => (g : Int) := by simp [heapsM]
  rw [e2, List.getElem_set, List.range_succ, List.filter_append, List.map_append]
  by_cases e : j = k
  · subst e
    rw [if_pos rfl, heapsM_at hj]
    simp [hf]
  · rw [if_neg e]
    have hn : firstB rows k m = false := by
      cases h : firstB rows k m with
      | false => rfl
      | true => exact absurd (firstB_uniq hj hk hf h) e
    simp [heapsM, hn]
/-- what each one's own heap is worth to them, and what they pay -/
def ownM (rows hs : List (List Int)) : List Int := (List.range rows.length).map fun i => worthM (rows.getD i []) (hs.getD i [])
def payM (rows hs : List (List Int)) : List Int := (ownM rows hs).map fun o => o * rows.length - (ownM rows hs).sum
theorem ownM_len (rows hs : List (List Int)) : (ownM rows hs).length = rows.length := by simp [ownM]
theorem payM_len (rows hs : List (List Int)) : (payM rows hs).length = rows.length := by simp [payM, ownM]
theorem heaps_few {rows : List (List Int)} {m : Nat} (h9 : rows.length ≤ 9) (h40 : m ≤ 40) : (heapsM rows m).flatten.length ≤ 4000 := by
  have h : ∀ hs : List (List Int), (∀ h ∈ hs, h.length ≤ 40) → hs.flatten.length ≤ hs.length * 40 := by
    intro hs
    induction hs with
    | nil => intro _; simp
    | cons x r ih =>
      intro hx
      have a := hx x List.mem_cons_self
      have b := ih fun y hy => hx y (List.mem_cons_of_mem _ hy)
      rw [List.flatten_cons, List.length_append, List.length_cons]
      omega
  have h2 := h (heapsM rows m) fun x hx => by
    obtain ⟨i, _, rfl⟩ := List.mem_map.mp hx
    rw [List.length_map]
    have := List.length_filter_le (firstB rows i) (List.range m)
    rw [List.length_range] at this
    omega
  rw [heapsM_len] at h2
  omega
/-- the deal in heaps fits -/
theorem heaps_fit {rows : List (List Int)} {m : Nat} (hb : Bids rows m) : Fits rows m (heapsM rows m) (payM rows (heapsM rows m)) := ⟨heapsM_len _ _, payM_len _ _, heapsM_in _ _, heaps_few hb.l9 hb.m40⟩
/-- at p a new deal -/
structure DNew (H0 H : Hp) (p hp sp : Addr) (hps : List Addr) (hs : List (List Int)) (ss : List Int) : Prop where
  new : H0 p = none
  L : LNew H0 H hp hps (iv hs)
  sn : H0 sp = none
  s : H sp = some (.lst (ss.map V.int))
  t : H p = some (.tup [.ref hp, .ref sp])
  apart : sp ∉ hp :: hps
theorem DNew.ext {H0 H H' : Hp} {p hp sp : Addr} {hps : List Addr} {hs : List (List Int)} {ss : List Int} (d : DNew H0 H p hp sp hps hs ss) (e : Ex H H') : DNew H0 H' p hp sp hps hs ss := ⟨d.new, d.L.ext e, d.sn, e _ _ d.s, e _ _ d.t, d.apart⟩
theorem DNew.back {H0 H Hb : Hp} {p hp sp : Addr} {hps : List Addr} {hs : List (List Int)} {ss : List Int} (d : DNew H0 H p hp sp hps hs ss) (e : Ex Hb H0) : DNew Hb H p hp sp hps hs ss := ⟨fresh_back e d.new, d.L.back e, fresh_back e d.sn, d.s, d.t, d.apart⟩
theorem map_erase {α β : Type} (f : α → β) : ∀ (l : List α) (i : Nat), (l.map f).eraseIdx i = (l.eraseIdx i).map f
  | [], _ => rfl
  | _ :: _, 0 => rfl
  | x :: r, i + 1 => by
    show f x :: (r.map f).eraseIdx i = f x :: (r.eraseIdx i).map f
    rw [map_erase f r i]
def intOf : V → Int
  | .int i => i
  | _ => 0
def hsOf (yss : List (List V)) : List (List Int) := yss.map fun ys => ys.map intOf
theorem hsOf_iv {yss : List (List V)} {m : Int} (h : yss.flatten.all (fun y => place y m) = true) : iv (hsOf yss) = yss := by
  show List.map _ (List.map _ yss) = yss
  rw [List.map_map]
  refine (List.map_congr_left fun ys hys => ?_).trans (List.map_id _)
  show List.map _ (List.map _ _) = ys
  rw [List.map_map]
  refine (List.map_congr_left fun y hy => ?_).trans (List.map_id _)
  have := List.all_eq_true.mp h y (List.mem_flatten.mpr ⟨ys, hys, hy⟩)
  cases y with
  | int i => rfl
  | _ => cases this
theorem hsOf_in {yss : List (List V)} {m : Nat} (h : yss.flatten.all (fun y => place y m) = true) : ∀ h ∈ hsOf yss, Inside m h := by
  intro hh hm g hg
  obtain ⟨ys, hys, rfl⟩ := List.mem_map.mp hm
  obtain ⟨y, hy, rfl⟩ := List.mem_map.mp hg
  have := List.all_eq_true.mp h y (List.mem_flatten.mpr ⟨ys, hys, hy⟩)
  cases y with
  | int i => exact of_decide_eq_true this
  | _ => cases this
theorem hsOf_flat (yss : List (List V)) : (hsOf yss).flatten.length = yss.flatten.length := by
  unfold hsOf
  rw [← List.map_flatten, List.length_map]
/-- x may stand as a bid -/
def bidOk (x : V) : Bool := match x with
  | .int i => decide (0 ≤ i ∧ i ≤ 1000000000000)
  | _ => false
/-- something that == can compare -/
def Itm (K : PySem.W.Frag) (H : Hp) (y : V) : Prop := Any H y ∧ ∃ d, Dp K H y d ∧ PyData.canLay0 d = true ∧ PyData.depth d ≤ 3
section
variable {K : PySem.W.Frag} {H H' : Hp}
theorem Itm.mono {y : V} (e : Ex H H') (h : Itm K H y) : Itm K H' y := by
  obtain ⟨a, d, b, c⟩ := h
  exact ⟨a.mono e, d, dp_mono e b, c⟩
theorem itm_int (i : Int) : Itm K H (.int i) := ⟨.int i, .int i, .int i, by simp only [PyData.canLay0], by simp [PyData.depth]⟩
theorem itm_bl (b : Bool) : Itm K H (.bl b) := ⟨.bl b, .bool b, .bl b, by simp only [PyData.canLay0], by simp [PyData.depth]⟩
theorem itm_non : Itm K H .non := ⟨.non, .none, .non, by simp only [PyData.canLay0], by simp [PyData.depth]⟩
theorem itm_one {a : Addr} {n : Int} (h : H a = some (.lst [V.int n])) : Itm K H (.ref a) := ⟨.lst h, .list [.int n], .lst (sq_of h) (.cons (.int n) .nil), by simp only [PyData.canLay0, PyData.canLayAll0]; rfl, by simp [PyData.depth, PyData.depthAll]⟩
theorem itm_tup {a : Addr} {n : Int} (h : H a = some (.tup [V.int n])) : Itm K H (.ref a) := ⟨.tup h, .tuple [.int n], .tup (st_of h) (.cons (.int n) .nil), by simp only [PyData.canLay0, PyData.canLayAll0]; rfl, by simp [PyData.depth, PyData.depthAll]⟩
/-- what is new in H' -/
def nw (H H' : Hp) : Hp := fun b => if (H b).isNone then H' b else none
theorem nw_of {H H' : Hp} {b : Addr} {o : HO} (h : nw H H' b = some o) : H b = none ∧ H' b = some o := by
  unfold nw at h
  cases hb : H b with
  | none =>
    rw [hb] at h
    exact ⟨rfl, h⟩
  | some u =>
    rw [hb] at h
    cases h
theorem nw_at {H H' : Hp} {b : Addr} (h : H b = none) : nw H H' b = H' b := by
  unfold nw
  rw [h]
  rfl
theorem nw_ex {H H' H'' : Hp} (h : ∀ b o, H b = none → H' b = some o → H'' b = some o) : Ex (nw H H') H'' := fun b o e => h b o (nw_of e).1 (nw_of e).2
theorem nw_mono {H H' H'' : Hp} (e : Ex H' H'') : Ex (nw H H') (nw H H'') := fun b o h => by
  rw [nw_at (nw_of h).1]
  exact e _ _ (nw_of h).2
end
section
variable {K : PySem.W.Frag} {σ : L2.St} {H : Hp} {ta tb te : TE}
theorem el_cat {xs ys : List V} (ha : EvL ta σ H xs) (hb : EvL tb σ H ys) (hz : xs.length + ys.length ≤ 100000) : EvL (tOp rCat ta tb) σ H (xs ++ ys) := fun H1 e Q q => ha H1 e _ fun p H2 hp e2 h2 => hb H2 (e.trans e2) _ fun p3 H3 hp3 e3 h3 =>
  ⟨p, p3, xs, ys, rfl, rfl, e3 _ _ h2, h3, sz_of hz, fun r hr => q r _ (fresh_back (e2.trans e3) hr) ((e2.trans e3).trans (Ex.new hr)) upd_same⟩
theorem el_rev {a : Addr} {xs : List V} (h : Ev te σ H (.ref a)) (hs : SqL K H a xs) : EvL (tRevL K te) σ H xs.reverse := fun H1 e _ q => h H1 e _ fun H2 e2 =>
  ⟨a, xs, rfl, ex_l (e.trans e2) hs, fun p hp => q p _ (fresh_back e2 hp) (e2.trans (Ex.new hp)) upd_same⟩
theorem ev_isBool {b : Bool} (h : Ev te σ H (.bl b)) : Ev (tCB (rIsi K) (tCons te (tCons (tC (.ty "bool")) tNil))) σ H (.bl true) :=
  ev_cb (ea_cons h (ea_cons ev_c ea_nil)) fun H1 e Q q => ⟨_, _, _, _, true, rfl, .ty _, .base (.bl b), kit_ty (by decide +kernel), q H1 (Ex.refl H1)⟩
end
theorem LNew.out {H0 H : Hp} {p : Addr} {ps : List Addr} {ys : List (List V)} (L : LNew H0 H p ps ys) : ∀ b ∈ p :: ps, H0 b = none ∧ ∃ zs, H b = some (.lst zs) := by
  intro b hb
  rcases List.mem_cons.mp hb with rfl | hb
  · exact ⟨L.new, _, L.top⟩
  · obtain ⟨k, hk⟩ := List.getElem?_of_mem hb
    have hkl : k < ys.length := by
      have := (List.getElem?_eq_some_iff.mp hk).1
      have := L.len
      omega
    have := L.at_ k b _ hk (List.getElem?_eq_getElem hkl)
    exact ⟨this.1, _, this.2⟩
theorem flat_10 : ∀ {n : Nat} {yss : List (List V)}, (∀ ys ∈ yss, ys.length ≤ 50) → yss.length ≤ n → yss.flatten.length ≤ 50 * n
  | _, [], _, _ => by simp
  | 0, _ :: _, _, h => by simp at h
  | n + 1, ys :: r, h, hl => by
    have a := h ys List.mem_cons_self
    have b := flat_10 (n := n) (yss := r) (fun x hx => h x (List.mem_cons_of_mem _ hx)) (by simpa using hl)
    rw [List.flatten_cons, List.length_append]
    omega
section
variable {K : PySem.W.Frag} {H : Hp}
theorem dp_items : ∀ {ys : List V}, (∀ y ∈ ys, Itm K H y) → ∃ ds, DpAll K H ys ds ∧ PyData.canLayAll0 ds = true ∧ PyData.depthAll ds ≤ 3
  | [], _ => ⟨[], .nil, by simp [PyData.canLayAll0], by simp [PyData.depthAll]⟩
  | y :: r, h => by
    obtain ⟨_, d, hd, hc, hp⟩ := h y List.mem_cons_self
    obtain ⟨ds, h1, h2, h3⟩ := dp_items fun x hx => h x (List.mem_cons_of_mem _ hx)
    refine ⟨d :: ds, .cons hd h1, ?_, ?_⟩
    · simp only [PyData.canLayAll0]
      rw [hc, h2]
      rfl
    · simp only [PyData.depthAll]
      omega
/-- two lists of lists with the same items: the same data -/
theorem dp_rows : ∀ {yss : List (List V)}, (∀ ys ∈ yss, ∀ y ∈ ys, Itm K H y) → ∃ ds, (∀ ps : List Addr, ps.length = yss.length → (∀ (i : Nat) (q : Addr) (y : List V), ps[i]? = some q → yss[i]? = some y → SqL K H q y) → DpAll K H (ps.map V.ref) ds) ∧ PyData.canLayAll0 ds = true ∧ PyData.depthAll ds ≤ 4
  | [], _ => by
    refine ⟨[], fun ps hl _ => ?_, by simp [PyData.canLayAll0], by simp [PyData.depthAll]⟩
    cases ps with
    | nil => exact .nil
    | cons _ _ => cases hl
  | ys :: r, h => by
    obtain ⟨d, hd, hc, hp⟩ := dp_items (h ys List.mem_cons_self)
    obtain ⟨ds, h1, h2, h3⟩ := dp_rows fun x hx => h x (List.mem_cons_of_mem _ hx)
    refine ⟨.list d :: ds, fun ps hl ha => ?_, ?_, ?_⟩
    · cases ps with
      | nil => cases hl
      | cons q qs => exact .cons (.lst (ha 0 q ys rfl rfl) hd) (h1 qs (Nat.succ.inj hl) fun i q y e1 e2 => ha (i + 1) q y e1 e2)
    · simp only [PyData.canLayAll0, PyData.canLay0]
      rw [hc, h2]
      rfl
    · simp only [PyData.depthAll, PyData.depth]
      omega
theorem dp_lv {yss : List (List V)} (h : ∀ ys ∈ yss, ∀ y ∈ ys, Itm K H y) : ∃ d, (∀ a, LV K H a yss → Dp K H (.ref a) d) ∧ PyData.canLay0 d = true ∧ PyData.depth d ≤ 63 := by
  obtain ⟨ds, h1, h2, h3⟩ := dp_rows h
  refine ⟨.list ds, fun a ⟨ps, e1, e2, e3⟩ => .lst e1 (h1 ps e2 e3), ?_, ?_⟩
  · simp only [PyData.canLay0]
    exact h2
  · simp only [PyData.depth]
    omega
end
section
variable {K : PySem.W.Frag} {F T : Nat} {H H' : Hp}
/-- heaps, spoiled: told by what stands there; nothing else is changed -/
structure Spo (K : PySem.W.Frag) (F T : Nat) (H H' : Hp) (p : Addr) (ps ps' : List Addr) (yss : List (List V)) : Prop where
  top : H' p = some (.lst (ps'.map V.ref))
  len : ps'.length = yss.length
  at_ : ∀ (i : Nat) (q : Addr) (y : List V), ps'[i]? = some q → yss[i]? = some y → H' q = some (.lst y)
  itm : ∀ ys ∈ yss, ∀ y ∈ ys, Itm K (nw H H') y
  old : ∀ q ∈ ps', q ∈ ps ∨ H q = none
  few : ∀ ys ∈ yss, ys.length ≤ F
  ten : yss.length ≤ T
  keep : ∀ b o, H b = some o → b ∉ p :: ps → H' b = some o
theorem Spo.ext {H'' : Hp} {p : Addr} {ps ps' : List Addr} {yss : List (List V)} (s : Spo K F T H H' p ps ps' yss) (e : Ex H' H'') : Spo K F T H H'' p ps ps' yss :=
  ⟨e _ _ s.top, s.len, fun i q y h1 h2 => e _ _ (s.at_ i q y h1 h2), fun ys h y hy => (s.itm ys h y hy).mono (nw_mono e), s.old, s.few, s.ten, fun b o h n => e _ _ (s.keep b o h n)⟩
theorem spo_same {H0 : Hp} {p : Addr} {ps : List Addr} {hs : List (List Int)} (L : LNew H0 H p ps (iv hs)) (e : Ex H H') (h50 : ∀ h ∈ hs, h.length < F) (h9 : hs.length < T) : Spo K F T H H' p ps ps (iv hs) := by
  have L' := L.ext e
  refine ⟨L'.top, L'.len, fun i q y h1 h2 => (L'.at_ i q y h1 h2).2, fun ys hys y hy => ?_, fun q hq => .inl hq, fun ys hys => ?_, by rw [List.length_map]; omega, fun b o h n => e _ _ h⟩
  · obtain ⟨h, _, rfl⟩ := List.mem_map.mp hys
    obtain ⟨z, _, rfl⟩ := List.mem_map.mp hy
    exact itm_int z
  · obtain ⟨h, hh, rfl⟩ := List.mem_map.mp hys
    rw [List.length_map]
    have := h50 h hh
    omega
/-- one of the heaps made otherwise -/
theorem spo_set {H0 H2 : Hp} {p q : Addr} {ps : List Addr} {hs : List (List Int)} {i : Nat} {y' : List V} (L : LNew H0 H p ps (iv hs)) (e : Ex H H2) (h50 : ∀ h ∈ hs, h.length < F) (h9 : hs.length < T) (hq : ps[i]? = some q)
    (hy : ∀ y ∈ y', Itm K (nw H (upd H2 q (.lst y'))) y) (hl : y'.length ≤ F) : Spo K F T H (upd H2 q (.lst y')) p ps ps ((iv hs).set i y') := by
  have S := spo_same (K := K) L e h50 h9
  have hpq : p ≠ q := fun z => (List.nodup_cons.mp L.nd).1 (z ▸ List.mem_of_getElem? hq)
  have hqm : q ∈ ps := List.mem_of_getElem? hq
  refine ⟨by rw [upd_ne hpq]; exact S.top, by rw [List.length_set]; exact S.len, fun k r z h1 h2 => ?_, fun ys hys y hyy => ?_, fun q hq => .inl hq, fun ys hys => ?_, by rw [List.length_set]; exact S.ten, fun b o h n => ?_⟩
  · by_cases ek : k = i
    · subst ek
      obtain rfl : r = q := Option.some.inj (h1.symm.trans hq)
      have hk : k < (iv hs).length := by
        have := (List.getElem?_eq_some_iff.mp h2).1
        rwa [List.length_set] at this
      rw [List.getElem?_set_self hk] at h2
      rw [upd_same, Option.some.inj h2]
    · rw [List.getElem?_set_ne (fun z => ek z.symm)] at h2
      have hr : r ≠ q := fun z => ek (nd_ix (List.nodup_cons.mp L.nd).2 (z ▸ h1) hq)
      rw [upd_ne hr]
      exact S.at_ k r z h1 h2
  · rcases List.mem_or_eq_of_mem_set hys with hys | rfl
    · obtain ⟨h, _, rfl⟩ := List.mem_map.mp hys
      obtain ⟨z, _, rfl⟩ := List.mem_map.mp hyy
      exact itm_int z
    · exact hy y hyy
  · rcases List.mem_or_eq_of_mem_set hys with hys | rfl
    · exact S.few ys hys
    · exact hl
  · rw [upd_ne (show b ≠ q from fun z => n (by rw [z]; exact List.mem_cons_of_mem _ hqm))]
    exact e _ _ h
end
/-- the heaps in another order, or one less -/
theorem spo_top {K : PySem.W.Frag} {F T : Nat} {H H0 H2 : Hp} {p : Addr} {ps ps' : List Addr} {hs : List (List Int)} {yss : List (List V)} (L : LNew H0 H p ps (iv hs)) (e : Ex H H2) (h50 : ∀ h ∈ hs, h.length < F) (h9 : hs.length < T)
    (hl : ps'.length = yss.length) (h10 : yss.length ≤ T) (h : ∀ (i : Nat) (q : Addr) (y : List V), ps'[i]? = some q → yss[i]? = some y → ∃ j : Nat, ps[j]? = some q ∧ (iv hs)[j]? = some y) : Spo K F T H (upd H2 p (.lst (ps'.map V.ref))) p ps ps' yss := by
  have S := spo_same (K := K) L e h50 h9
  have mem : ∀ y ∈ yss, y ∈ iv hs := fun y hy => by
    obtain ⟨k, hk⟩ := List.getElem?_of_mem hy
    have hkl := (List.getElem?_eq_some_iff.mp hk).1
    obtain ⟨j, _, hj⟩ := h k ps'[k] y (List.getElem?_eq_getElem (by omega)) hk
    exact List.mem_of_getElem? hj
  refine ⟨upd_same, hl, fun i q y h1 h2 => ?_, fun ys hys y hy => ?_, fun q hq => ?_, fun ys hys => S.few ys (mem ys hys), h10, fun b o hb n => ?_⟩
  · obtain ⟨j, h3, h4⟩ := h i q y h1 h2
    have hq : q ≠ p := fun z => (List.nodup_cons.mp L.nd).1 (z ▸ List.mem_of_getElem? h3)
    rw [upd_ne hq]
    exact S.at_ j q y h3 h4
  · obtain ⟨hh, _, rfl⟩ := List.mem_map.mp (mem ys hys)
    obtain ⟨z, _, rfl⟩ := List.mem_map.mp hy
    exact itm_int z
  · obtain ⟨k, hk⟩ := List.getElem?_of_mem hq
    have hkl := (List.getElem?_eq_some_iff.mp hk).1
    obtain ⟨j, hj, _⟩ := h k q yss[k] hk (List.getElem?_eq_getElem (by omega))
    exact .inl (List.mem_of_getElem? hj)
  · rw [upd_ne (show b ≠ p from fun z => n (by rw [z]; exact List.mem_cons_self))]
    exact e _ _ hb
theorem rep_one (g : Nat) (z : Int) : (List.replicate g [V.int z]).flatten = (List.replicate g z).map V.int := by
  induction g with
  | zero => rfl
  | succ g ih =>
    rw [List.replicate_succ, List.flatten_cons, ih, List.replicate_succ]
    rfl
/-- [z] * n -/
theorem el_rep {σ : L2.St} {H : Hp} {tn : TE} {z : Int} {g : Nat} (h : Ev tn σ H (.int (g : Int))) (hg : g ≤ 1000) : EvL (tOp rRep (tLst (tCons (tC (.int z)) tNil)) tn) σ H ((List.replicate g z).map V.int) := fun H0 e0 Q q => by
  refine g_op (g_lst ⟨sz_of (by show 1 ≤ 100000; omega), fun p hp => ?_⟩)
  have x1 := Ex.new (o := .lst [V.int z]) hp
  refine h _ (e0.trans x1) _ fun H1 e1 => ⟨p, (g : Int), [V.int z], rfl, rfl, e1 _ _ upd_same, by omega, by omega, ?_, fun p2 hp2 => ?_⟩
  · rw [Int.toNat_natCast]
    exact sz_of (by show 1 * g ≤ 100000; omega)
  · rw [Int.toNat_natCast, rep_one]
    exact q p2 _ (fresh_back (x1.trans e1) hp2) ((x1.trans e1).trans (Ex.new hp2)) upd_same
/-! the deal in heaps is one, and fair -/
theorem first_ex {rows : List (List Int)} {g : Nat} : ∀ {n : Nat}, 0 < n → ∃ i, i < n ∧ ∀ k, k < n → bidAt rows k g ≤ bidAt rows i g ∧ (bidAt rows k g = bidAt rows i g → i ≤ k)
  | 0, h => by omega
  | 1, _ => ⟨0, by omega, fun k hk => by
    have : k = 0 := by omega
    subst this
    exact ⟨Int.le_refl _, fun _ => Nat.le_refl _⟩⟩
  | n + 2, _ => by
    obtain ⟨i, hi, h⟩ := first_ex (rows := rows) (g := g) (n := n + 1) (by omega)
    by_cases e : bidAt rows i g < bidAt rows (n + 1) g
    · refine ⟨n + 1, by omega, fun k hk => ?_⟩
      by_cases hk2 : k < n + 1
      · have := (h k hk2).1
        exact ⟨by omega, fun z => by omega⟩
      · have : k = n + 1 := by omega
        subst this
        exact ⟨Int.le_refl _, fun _ => Nat.le_refl _⟩
    · refine ⟨i, by omega, fun k hk => ?_⟩
      by_cases hk2 : k < n + 1
      · exact h k hk2
      · have : k = n + 1 := by omega
        subst this
        exact ⟨by omega, fun _ => by omega⟩
theorem sum_zero {c : Nat → Bool} : ∀ {n : Nat}, (∀ i, i < n → c i = false) → ((List.range n).map fun i => if c i = true then 1 else 0).sum = 0
  | 0, _ => rfl
  | n + 1, h => by
    rw [List.range_succ, List.map_append, List.sum_append, sum_zero fun i hi => h i (by omega)]
    simp [h n (by omega)]
theorem sum_one {c : Nat → Bool} {i0 : Nat} (hc : c i0 = true) : ∀ {n : Nat}, i0 < n → (∀ i, i < n → c i = true → i = i0) → ((List.range n).map fun i => if c i = true then 1 else 0).sum = 1
  | 0, h, _ => by omega
  | n + 1, h, hu => by
    rw [List.range_succ, List.map_append, List.sum_append]
    by_cases e : i0 = n
    · subst e
      rw [sum_zero fun i hi => ?_]
      · simp [hc]
      · cases hci : c i with
        | false => rfl
        | true =>
          have := hu i (by omega) hci
          omega
    · have hn : c n = false := by
        cases hcn : c n with
        | false => rfl
        | true => exact absurd (hu n (by omega) hcn).symm e
      rw [sum_one hc (by omega) fun i hi => hu i (by omega)]
      simp [hn]
theorem count_heap (f : Nat → Bool) (k : Nat) : ∀ m : Nat, List.count (V.int (k : Int)) ((((List.range m).filter f).map fun g : Nat => (g : Int)).map V.int) = if k < m ∧ f k = true then 1 else 0
  | 0 => by simp
  | m + 1 => by
    rw [List.range_succ, List.filter_append, List.map_append, List.map_append, List.count_append, count_heap f k m]
    by_cases e : k = m
    · subst e
      by_cases hf : f k = true
      · simp [hf]
      · simp [hf]
    · have hne : ∀ l : List V, (∀ x ∈ l, x ≠ V.int (k : Int)) → List.count (V.int (k : Int)) l = 0 := fun l hl => List.count_eq_zero.mpr fun mm => hl _ mm rfl
      rw [hne _ fun x hx => ?_]
      · by_cases h : k < m ∧ f k = true
        · rw [if_pos h, if_pos ⟨by omega, h.2⟩]
        · rw [if_neg h, if_neg fun z => h ⟨by omega, z.2⟩]
      · obtain ⟨y, hy, rfl⟩ := List.mem_map.mp hx
        obtain ⟨g, hg, rfl⟩ := List.mem_map.mp hy
        have := (List.mem_filter.mp hg).1
        rw [List.mem_singleton.mp this]
        intro z
        have := V.int.inj z
        omega
theorem heaps_seen {rows : List (List Int)} {m k : Nat} (hne : 0 < rows.length) (hk : k < m) : List.count (V.int (k : Int)) (iv (heapsM rows m)).flatten = 1 := by
  rw [List.count_flatten, List.map_map]
  unfold heapsM
  rw [List.map_map]
  have e : (List.range rows.length).map ((List.count (V.int (k : Int)) ∘ fun r => List.map V.int r) ∘ fun i : Nat => ((List.range m).filter (firstB rows i)).map fun g : Nat => (g : Int)) = (List.range rows.length).map fun i => if firstB rows i k = true then 1 else 0 := by
    refine List.map_congr_left fun i _ => ?_
    show List.count _ _ = _
    rw [count_heap]
    by_cases h : firstB rows i k = true
    · rw [if_pos ⟨hk, h⟩, if_pos h]
    · rw [if_neg fun z => h z.2, if_neg h]
  rw [e]
  obtain ⟨i, hi, h⟩ := first_ex (rows := rows) (g := k) hne
  have hf : firstB rows i k = true := firstB_iff.mpr h
  exact sum_one (c := fun i => firstB rows i k) hf hi fun j hj hj2 => firstB_uniq hj hi hj2 hf
theorem heaps_ok {rows : List (List Int)} {m : Nat} (hne : 0 < rows.length) : heapsB (iv (heapsM rows m)) rows.length m = true := by
  unfold heapsB
  rw [decide_eq_true (by rw [List.length_map, heapsM_len]), Bool.true_and, Bool.and_eq_true]
  constructor
  · refine List.all_eq_true.mpr fun y hy => ?_
    rw [iv_flat] at hy
    obtain ⟨g, hg, rfl⟩ := List.mem_map.mp hy
    obtain ⟨h, hh, hg⟩ := List.mem_flatten.mp hg
    exact decide_eq_true (heapsM_in rows m h hh g hg)
  · refine decide_eq_true (List.ext_getElem (by simp [seenM]) fun k h1 h2 => ?_)
    have hk : k < m := by simpa using h2
    simp only [seenM, List.getElem_map, List.getElem_range, List.getElem_replicate]
    rw [heaps_seen hne hk]
    rfl
theorem sum_pay (l : List Int) (c d : Int) : (l.map fun o => o * c - d).sum = l.sum * c - l.length * d := by
  induction l with
  | nil => simp
  | cons x r ih =>
    rw [List.map_cons, List.sum_cons, List.sum_cons, ih, List.length_cons, Int.add_mul]
    have : ((r.length + 1 : Nat) : Int) * d = r.length * d + d := by
      rw [Int.natCast_add, Int.add_mul]
      simp
    omega
theorem pay_zero (rows hs : List (List Int)) : (payM rows hs).sum = 0 := by
  unfold payM
  rw [sum_pay, ownM_len, Int.mul_comm]
  omega
theorem heaps_deal {rows : List (List Int)} {m : Nat} (hne : 0 < rows.length) : dealB (iv (heapsM rows m)) (payM rows (heapsM rows m)) rows.length m = true := by
  unfold dealB
  rw [heaps_ok hne, pay_zero, payM_len, decide_eq_true rfl, decide_eq_true rfl]
  rfl
theorem worthM_le {r r' heap : List Int} (h : ∀ g ∈ heap, r.getD g.toNat 0 ≤ r'.getD g.toNat 0) : worthM r heap ≤ worthM r' heap := by
  unfold worthM
  induction heap with
  | nil => exact Int.le_refl _
  | cons x t ih =>
    have a := h x List.mem_cons_self
    have b := ih fun g hg => h g (List.mem_cons_of_mem _ hg)
    rw [List.map_cons, List.map_cons, List.sum_cons, List.sum_cons]
    omega
theorem own_at {rows hs : List (List Int)} {i : Nat} (hi : i < rows.length) : (ownM rows hs).getD i 0 = worthM (rows.getD i []) (hs.getD i []) := by
  simp [ownM, List.getD_eq_getElem?_getD, hi]
theorem pay_at {rows hs : List (List Int)} {i : Nat} (hi : i < rows.length) : (payM rows hs).getD i 0 = worthM (rows.getD i []) (hs.getD i []) * rows.length - (ownM rows hs).sum := by
  have h := own_at (hs := hs) hi
  have hl : i < (ownM rows hs).length := by rw [ownM_len]; exact hi
  rw [List.getD_eq_getElem?_getD, List.getElem?_eq_getElem hl] at h
  have h2 : (ownM rows hs)[i] = worthM (rows.getD i []) (hs.getD i []) := h
  unfold payM
  rw [List.getD_eq_getElem?_getD, List.getElem?_map, List.getElem?_eq_getElem hl, h2]
  rfl
theorem heaps_fair {rows : List (List Int)} {m : Nat} : enviedB (gainM rows (heapsM rows m) (payM rows (heapsM rows m))) rows.length = false := by
  refine enviedB_not fun i j hi hj => ?_
  unfold gainM
  rw [pay_at hi, pay_at hj]
  have h : worthM (rows.getD i []) ((heapsM rows m).getD j []) ≤ worthM (rows.getD j []) ((heapsM rows m).getD j []) := by
    rw [heapsM_at hj]
    refine worthM_le fun g hg => ?_
    obtain ⟨k, hk, rfl⟩ := List.mem_map.mp hg
    rw [Int.toNat_natCast]
    exact (firstB_iff.mp (List.mem_filter.mp hk).2 i hi).1
  have h2 := Int.mul_le_mul_of_nonneg_right h (show (0 : Int) ≤ rows.length by omega)
  omega
theorem half_ok {rows : List (List Int)} {m : Nat} (hb : Bids rows m) : Bids (rows.map fun r => r.map fun b => 1 + b / 2) m := by
  refine ⟨by rw [List.length_map]; exact hb.ne, by rw [List.length_map]; exact hb.l9, hb.m40, fun r hr => ?_, fun r hr b hbm => ?_⟩
  · obtain ⟨r0, hr0, rfl⟩ := List.mem_map.mp hr
    rw [List.length_map]
    exact hb.len r0 hr0
  · obtain ⟨r0, hr0, rfl⟩ := List.mem_map.mp hr
    obtain ⟨b0, hb0, rfl⟩ := List.mem_map.mp hbm
    have := hb.ok r0 hr0 b0 hb0
    omega
theorem g_c {σ : L2.St} {H : Hp} {v : V} {Q : VK} (h : Q v H) : tC v σ H Q := h
end Fs

set_option Elab.async false
set_option linter.all false
set_option maxRecDepth 100000
set_option maxHeartbeats 4000000
/-! Xs: what the proofs about refusals share. -/
namespace Xs
open PySem PySem.Spec PyProof.Rows L2 Evl Fs
/-- an own class of exceptions, below ValueError -/
structure ExC (K : PySem.W.Frag) (mg : Str → Option Value) (x : Str) (C : Addr) : Prop where
  g : mg x = some (.ref C)
  q : PySem.W.excIn K C [.type "ValueError", .type "Exception", .type "BaseException", .type "object"] "ValueError.__new__" = true
  kp : PySem.W.keepIn K (.ref C) = true
  b : PySem.W.subIn K (.ref C) (.type "BaseException") = some true
  t : PySem.W.typeIn K (.ref C) = some (.type "type")
section
variable {P : Program} {w : World} {K : PySem.W.Frag} {mg : Str → Option Value} {base : Heap}
theorem okX_of {x : Str} {st : Stmt} {N ps : List Str} {k : Nat} {sp : Sp} (D : DnX K mg x st ps) (S : FnScope N ps (defScope st)) (len : ∀ vs H Q E, sp vs H Q E → vs.length = ps.length)
    (hbody : ∀ (f : Addr) (cdv : Value) (A : Around) (outer : List Env) (s : Shared) (H : Hp) (vs : List V) (Q : VK) (E : XK), Room k (A.deeper (envOfC x (defScope st) s.heap.objs.size f cdv)) → sp vs H Q E →
      ∃ t, PSs (cxOf (L2.CX P w) P w K mg base N x (defScope st) f cdv A outer s H E) (defBody st) t ∧ t { nx := fun _ H' => Q .non H', rt := Q } (start N vs) H) : Ok P w K mg base (L2.CX P w) (k + 1) x ps sp := by
  obtain ⟨f, fd, F, g, b⟩ := D
  have F0 := F
  obtain ⟨oc, od, _, _, _, _, _, _, osl, _, lk, _⟩ := F0.ex
  exact ⟨f, fd, F.okX S len fun cdv A outer s H vs Q E hr h => hbody f cdv A outer s H vs Q E hr h, g, F.kp, b, oc, od, osl, lk⟩
end
section
variable {X : Cx}
theorem pe_okS {CX : CXT} {k : Nat} {x : Str} {ps : List Str} {sp : Sp} {E : L2.St → XK} {e : Expr} {es : List Expr} {t : TA} {p pos : Pos} (h : Ok X.prog X.w X.K X.mg X.base CX k x ps sp) (hr : Room k X.A) (hg : Gl X x) (hx : ∀ σ, PassesAt CX X σ (E σ)) (ha : PA X (e :: es) t)
    (hdb : (x == ("__debug__" : Str)) = false := by decide) (he : starEach (e :: es) X.env = (false, eval e X.env) :: starEach es X.env := by rfl) (hpl : (backTo pos (starEach es X.env)).any (·.1) = false := by rfl) :
    PE X (.Call (.Name x p) (e :: es) [] pos) (tCallS sp E t) := by
  obtain ⟨f, fd, F, hm, hk, hb, _⟩ := h
  exact pe_callS F hr hg hm hk hb hx ha hdb he hpl
def tRaise (C : Addr) (W : WX) : TS := fun _ σ H => W (.ref C) none σ H
theorem ps_raiseX {W : WX} {x m : Str} {C : Addr} {j : Nat} {p p2 pos pos2 : Pos} (T : ExC X.K X.mg x C) (tk : Takes X W) (hg : Gl X x := by rfl) (hc : X.calm = true := by rfl) (hdb : (x == ("__debug__" : Str)) = false := by decide) :
    PS X (.Raise (some (.Call (.Name x p) [.Constant (.str m) j p2] [] pos)) none pos2) (tRaise C W) := ps_raise hc tk (pmk_own PySem.F.excBase_ValueError T.q T.g T.kp (raises_own T.b T.t) hg hdb)
end
section
variable {sp : Sp} {E : L2.St → XK} {σ : L2.St} {H : Hp} {ta : TA} {vs : List V} {tz : TS} {D : Ends} {Q : VK} {i : Nat}
theorem g_callS (ha : EvA ta σ H vs) (h : ∀ H1, Ex H H1 → sp vs H1 Q (E σ)) : tCallS sp E ta σ H Q := ha H (Ex.refl H) _ fun H1 e1 => h H1 e1
theorem q_dropS (ha : EvA ta σ H vs) (h : ∀ H1, Ex H H1 → sp vs H1 (fun _ H2 => tz D σ H2) (E σ)) : tSeq (tDrop (tCallS sp E ta)) tz D σ H := ha H (Ex.refl H) _ fun H1 e1 => h H1 e1
theorem s_dropS (ha : EvA ta σ H vs) (h : ∀ H1, Ex H H1 → sp vs H1 (fun _ H2 => D.nx σ H2) (E σ)) : tDrop (tCallS sp E ta) D σ H := ha H (Ex.refl H) _ fun H1 e1 => h H1 e1
end
/-! ### refusals of bids. 1 NoPeople, 2 TooMany, 3 Uneven, 4 BadBid, 5 NoDeal, 6 NoPerson, 7 NoGood, 8 NoText; 0 SplitError -/
/-- told, or refused -/
def DueX (cl : Nat → Addr) (n : Nat) (v : V) (H : Hp) (Q : VK) (E : XK) : Prop := (n = 0 → RetV v H Q) ∧ (n ≠ 0 → ∀ H', Ex H H' → E (.ref (cl n)) none H')
abbrev sp1X (R : V → Hp → VK → XK → Prop) : Sp := fun vs H Q E => ∃ x, vs = [x] ∧ R x H Q E
abbrev sp2X (R : V → V → Hp → VK → XK → Prop) : Sp := fun vs H Q E => ∃ x y, vs = [x, y] ∧ R x y H Q E
abbrev sp3X (R : V → V → V → Hp → VK → XK → Prop) : Sp := fun vs H Q E => ∃ x y z, vs = [x, y, z] ∧ R x y z H Q E
abbrev sp4X (R : V → V → V → V → Hp → VK → XK → Prop) : Sp := fun vs H Q E => ∃ x y z u, vs = [x, y, z, u] ∧ R x y z u H Q E
theorem DueX.out {cl : Nat → Addr} {n k : Nat} {v : V} {H H' : Hp} {Q : VK} {E : XK} (d : DueX cl n v H Q E) (h : n = k) (h0 : k ≠ 0) (e : Ex H H') : E (.ref (cl k)) none H' := by
  subst h
  exact d.2 h0 H' e
theorem DueX.mono {cl : Nat → Addr} {n : Nat} {v : V} {H H' : Hp} {Q : VK} {E : XK} (e : Ex H H') (d : DueX cl n v H Q E) : DueX cl n v H' Q E := ⟨fun h H2 e2 => d.1 h H2 (e.trans e2), fun h H2 e2 => d.2 h H2 (e.trans e2)⟩
/-- what a line is refused with -/
def lineD (m : Int) (r : List V) : Nat := if (r.length : Int) = m then (if r.all bidOk = true then 0 else 4) else 3
/-- the first refusal of the rows -/
def rowsD (m : Int) : List (List V) → Nat
  | [] => 0
  | r :: t => if lineD m r = 0 then rowsD m t else lineD m r
/-- what bids are refused with -/
def dueB (yss : List (List V)) : Nat := if yss.length = 0 then 1 else if 9 < yss.length then 2 else if 40 < (yss.getD 0 []).length then 2 else rowsD (yss.getD 0 []).length yss
theorem rowsD_at {m : Int} : ∀ {yss : List (List V)} {i : Nat} {y : List V}, yss[i]? = some y → (∀ (k : Nat) z, k < i → yss[k]? = some z → lineD m z = 0) → lineD m y ≠ 0 → rowsD m yss = lineD m y
  | [], _, _, h, _, _ => by simp at h
  | r :: t, 0, y, h, _, hn => by
    obtain rfl : r = y := Option.some.inj h
    exact if_neg hn
  | r :: t, i + 1, y, h, ha, hn => by
    show (if lineD m r = 0 then rowsD m t else lineD m r) = _
    rw [if_pos (ha 0 r (by omega) rfl)]
    exact rowsD_at (i := i) h (fun k z hk hz => ha (k + 1) z (by omega) hz) hn
theorem rowsD_zero {m : Int} : ∀ {yss : List (List V)}, (∀ y ∈ yss, lineD m y = 0) → rowsD m yss = 0
  | [], _ => rfl
  | r :: t, h => by
    show (if lineD m r = 0 then rowsD m t else lineD m r) = _
    rw [if_pos (h r List.mem_cons_self)]
    exact rowsD_zero fun y hy => h y (List.mem_cons_of_mem _ hy)
theorem rowsD_all {m : Int} : ∀ {yss : List (List V)}, rowsD m yss = 0 → ∀ y ∈ yss, lineD m y = 0
  | [], _, y, h => by cases h
  | r :: t, e, y, h => by
    by_cases h0 : lineD m r = 0
    · have e2 : rowsD m t = 0 := by
        rw [← e]
        exact (if_pos h0).symm
      rcases List.mem_cons.mp h with rfl | h
      · exact h0
      · exact rowsD_all e2 y h
    · exact absurd ((if_neg h0).symm.trans e) h0
theorem lineD_zero {m : Int} {r : List V} (h : lineD m r = 0) : (r.length : Int) = m ∧ ∀ y ∈ r, bidOk y = true := by
  unfold lineD at h
  by_cases h1 : (r.length : Int) = m
  · rw [if_pos h1] at h
    by_cases h2 : r.all bidOk = true
    · exact ⟨h1, List.all_eq_true.mp h2⟩
    · rw [if_neg h2] at h
      cases h
  · rw [if_neg h1] at h
    cases h
theorem hsOf_int {yss : List (List V)} (h : ∀ ys ∈ yss, ∀ y ∈ ys, isInt y = true) : iv (hsOf yss) = yss := by
  show List.map _ (List.map _ yss) = yss
  rw [List.map_map]
  refine (List.map_congr_left fun ys hys => ?_).trans (List.map_id _)
  show List.map _ (List.map _ ys) = ys
  rw [List.map_map]
  refine (List.map_congr_left fun y hy => ?_).trans (List.map_id _)
  have := h ys hys y hy
  cases y with
  | int i => rfl
  | _ => cases this
/-- what is not refused are bids -/
theorem bids_of {yss : List (List V)} (h : dueB yss = 0) : iv (hsOf yss) = yss ∧ Bids (hsOf yss) (yss.getD 0 []).length := by
  unfold dueB at h
  by_cases h1 : yss.length = 0
  · rw [if_pos h1] at h
    cases h
  rw [if_neg h1] at h
  by_cases h2 : 9 < yss.length
  · rw [if_pos h2] at h
    cases h
  rw [if_neg h2] at h
  by_cases h3 : 40 < (yss.getD 0 []).length
  · rw [if_pos h3] at h
    cases h
  rw [if_neg h3] at h
  have hl := rowsD_all h
  have hi : iv (hsOf yss) = yss := hsOf_int fun ys hys y hy => by
    have := (lineD_zero (hl ys hys)).2 y hy
    cases y with
    | int i => rfl
    | _ => cases this
  have ll : (hsOf yss).length = yss.length := List.length_map _
  refine ⟨hi, by omega, by omega, by omega, fun r hr => ?_, fun r hr b hb => ?_⟩
  · obtain ⟨ys, hys, rfl⟩ := List.mem_map.mp hr
    have := (lineD_zero (hl ys hys)).1
    rw [List.length_map]
    omega
  · obtain ⟨ys, hys, rfl⟩ := List.mem_map.mp hr
    obtain ⟨y, hy, rfl⟩ := List.mem_map.mp hb
    have := (lineD_zero (hl ys hys)).2 y hy
    cases y with
    | int i => exact of_decide_eq_true this
    | _ => cases this
/-- told (what, is not said), or refused -/
def DueV (cl : Nat → Addr) (n : Nat) (H : Hp) (Q : VK) (E : XK) : Prop := (n = 0 → ∀ v H', Ex H H' → Q v H') ∧ (n ≠ 0 → ∀ H', Ex H H' → E (.ref (cl n)) none H')
/-- the classes of refusals, which is which -/
structure ExM (K : PySem.W.Frag) (cl : Nat → Addr) (ns : List Nat) : Prop where
  m : ∀ i ∈ ns, ∀ j ∈ ns, PySem.W.exmOne K (.ref (cl i)) (.ref (cl j)) = some (decide (i = j))
  b : ∀ i ∈ ns, PySem.W.exmOne K (.ref (cl i)) (.ref (cl 0)) = some true
  c : ∀ i ∈ ns, ExcC K (cl i)
  v : ∀ i ∈ ns, PySem.W.kitOne K (.ref (cl i)) (.type "ValueError") = some true
theorem exm_by {K : PySem.W.Frag} {C D : Addr} {b : Bool} (hB : PySem.W.subIn K (.ref D) (.type "BaseException") = some true) (hI : PySem.W.isClsIn K D = true) (hT : PySem.W.typeIn K (.ref D) = some (.type "type")) (hS : PySem.W.subIn K (.ref C) (.ref D) = some b) : PySem.W.exmOne K (.ref C) (.ref D) = some b := by
  unfold PySem.W.exmOne PySem.W.kitCls
  unfold PySem.W.isClsIn at hI
  rw [hB, if_pos (by rfl)]
  show (if ((PySem.W.clsIn K D).isSome && PySem.W.typeIn K (.ref D) == some (.type "type")) = true then PySem.W.subIn K (.ref C) (.ref D) else none) = some b
  rw [hI, hT, hS]
  rfl
theorem kit_by {K : PySem.W.Frag} {C : Addr} {T : String} (h : PySem.W.subIn K (.ref C) (.type T) = some true) (hk : PySem.W.kitMeta T = true := by decide +kernel) : PySem.W.kitOne K (.ref C) (.type T) = some true := by
  unfold PySem.W.kitOne PySem.W.kitCls
  rw [if_neg (by intro z; cases eq_of_beq z)]
  show (if PySem.W.kitMeta T = true then PySem.W.subIn K (.ref C) (.type T) else none) = some true
  rw [if_pos hk, h]
/-- isinstance(e, c), e what the suite holds -/
def rIsEX (K : PySem.W.Frag) (a : Addr) (cls : Value) (d : Option Addr) : List V → Hp → VK → Prop := fun xs H Q => ∃ D, cls = .ref D ∧ d = none ∧ ExcC K D ∧ rIsE K D a xs H Q
theorem isE {X : Cx} {K : PySem.W.Frag} {a : Addr} {oe : Obj} {cls : Value} {d : Option Addr} {pn : List (Addr × Obj)} (hz : Zc cls d oe) (hf : ∃ vs, oe.data = .fields vs) (hK : X.K = K := by rfl) : CallR (X.suite a ((a, oe) :: pn)) (.builtin "isinstance") (rIsEX K a cls d) := by
  subst hK
  intro pins s σ H xs us Q I r ⟨D, e1, e2, C, h⟩
  subst e1
  subst e2
  exact call_isE C hz hf pins s σ H xs us Q I r h
theorem dpAll_len {K : PySem.W.Frag} {H : Hp} : ∀ {vs : List V} {ds : List PyData}, DpAll K H vs ds → vs.length = ds.length
  | [], [], .nil => rfl
  | _ :: _, _ :: _, .cons _ h => congrArg Nat.succ (dpAll_len h)
/-- xs != [] -/
theorem rv_neE {K : PySem.W.Frag} {H : Hp} {a b : Addr} {xs : List V} {ds : List PyData} (hA : SqL K H a xs) (hd : DpAll K H xs ds) (hc : PyData.canLayAll0 ds = true) (hp : PyData.depthAll ds ≤ 60) (hb : SqL K H b []) : RV (rNeD K) (.ref a) (.ref b) H (.bl (!decide (xs.length = 0))) := fun H1 e Q q => by
  refine ⟨.list ds, .list [], dp_mono e (.lst hA hd), dp_mono e (.lst hb .nil), ?_, by decide, ?_⟩
  · unfold SeqAt.shaped
    simp only [PyData.canLay0, PyData.depth]
    rw [hc]
    exact decide_eq_true (by omega)
  · have hl := dpAll_len hd
    have ev : PyData.eqv (.list ds) (.list []) = decide (xs.length = 0) := by
      rw [hl]
      cases ds with
      | nil => rfl
      | cons d r => rfl
    rw [ev]
    exact q H1 (Ex.refl H1)
theorem rv_eqE {K : PySem.W.Frag} {H : Hp} {a b : Addr} {xs : List V} {ds : List PyData} (hA : SqL K H a xs) (hd : DpAll K H xs ds) (hc : PyData.canLayAll0 ds = true) (hp : PyData.depthAll ds ≤ 60) (hb : SqL K H b []) : RV (rEqD K) (.ref a) (.ref b) H (.bl (decide (xs.length = 0))) := fun H1 e Q q => by
  refine ⟨.list ds, .list [], dp_mono e (.lst hA hd), dp_mono e (.lst hb .nil), ?_, by decide, ?_⟩
  · unfold SeqAt.shaped
    simp only [PyData.canLay0, PyData.depth]
    rw [hc]
    exact decide_eq_true (by omega)
  · have hl := dpAll_len hd
    have ev : PyData.eqv (.list ds) (.list []) = decide (xs.length = 0) := by
      rw [hl]
      cases ds with
      | nil => rfl
      | cons d r => rfl
    rw [ev]
    exact q H1 (Ex.refl H1)
/-- bids != [] -/
theorem ev_some {K : PySem.W.Frag} {σ : L2.St} {H : Hp} {te : TE} {a : Addr} {yss : List (List V)} (h : Ev te σ H (.ref a)) (hA : LV K H a yss) (hi : ∀ ys ∈ yss, ∀ y ∈ ys, Itm K H y) : Ev (tOp (rNeD K) te (tLst tNil)) σ H (.bl (!decide (yss.length = 0))) := by
  refine ev_opL h (el_lst ea_nil (by decide)) fun b H3 hb e3 => ?_
  obtain ⟨ds, h1, h2, h3⟩ := dp_rows (K := K) (H := H3) (yss := yss) fun ys m y hy => (hi ys m y hy).mono e3
  obtain ⟨ps, p1, p2, p3⟩ := hA.mono e3
  have := rv_neE p1 (h1 ps p2 p3) h2 (by omega) (sq_of hb)
  rw [List.length_map, p2] at this
  exact this
theorem ev_none {K : PySem.W.Frag} {σ : L2.St} {H : Hp} {te : TE} {a : Addr} {yss : List (List V)} (h : Ev te σ H (.ref a)) (hA : LV K H a yss) (hi : ∀ ys ∈ yss, ∀ y ∈ ys, Itm K H y) : Ev (tOp (rEqD K) te (tLst tNil)) σ H (.bl (decide (yss.length = 0))) := by
  refine ev_opL h (el_lst ea_nil (by decide)) fun b H3 hb e3 => ?_
  obtain ⟨ds, h1, h2, h3⟩ := dp_rows (K := K) (H := H3) (yss := yss) fun ys m y hy => (hi ys m y hy).mono e3
  obtain ⟨ps, p1, p2, p3⟩ := hA.mono e3
  have := rv_eqE p1 (h1 ps p2 p3) h2 (by omega) (sq_of hb)
  rw [List.length_map, p2] at this
  exact this
def nameD (n : Nat) : Str := if n = 1 then "NoPeople" else if n = 2 then "TooMany" else if n = 3 then "Uneven" else if n = 4 then "BadBid" else if n = 5 then "NoDeal" else ""
/-- what bids of rooms are refused with -/
def dueR (yss : List (List V)) : Nat := if dueB yss = 0 then (if yss.length < (yss.getD 0 []).length then 2 else 0) else dueB yss
end Xs

/-! Rm: the mathematics of the deal in rooms. -/
namespace Rm
/-! ### sums -/
def sumN : Nat → (Nat → Int) → Int
  | 0, _ => 0
  | n + 1, f => sumN n f + f n
theorem sumN_congr {f g : Nat → Int} : ∀ {n : Nat}, (∀ i, i < n → f i = g i) → sumN n f = sumN n g
  | 0, _ => rfl
  | n + 1, h => by
    show sumN n f + f n = sumN n g + g n
    rw [sumN_congr fun i hi => h i (by omega), h n (by omega)]
theorem sumN_le {f g : Nat → Int} : ∀ {n : Nat}, (∀ i, i < n → f i ≤ g i) → sumN n f ≤ sumN n g
  | 0, _ => Int.le_refl _
  | n + 1, h => by
    show sumN n f + f n ≤ sumN n g + g n
    have := sumN_le (n := n) fun i hi => h i (by omega)
    have := h n (by omega)
    omega
theorem sumN_add {f g : Nat → Int} : ∀ n : Nat, sumN n (fun i => f i + g i) = sumN n f + sumN n g
  | 0 => rfl
  | n + 1 => by
    show sumN n _ + (f n + g n) = sumN n f + f n + (sumN n g + g n)
    rw [sumN_add n]
    omega
theorem sumN_sub {f g : Nat → Int} : ∀ n : Nat, sumN n (fun i => f i - g i) = sumN n f - sumN n g
  | 0 => rfl
  | n + 1 => by
    show sumN n _ + (f n - g n) = sumN n f + f n - (sumN n g + g n)
    rw [sumN_sub n]
    omega
theorem sumN_mul {f : Nat → Int} (c : Int) : ∀ n : Nat, sumN n (fun i => f i * c) = sumN n f * c
  | 0 => by show (0 : Int) = 0 * c; omega
  | n + 1 => by
    show sumN n _ + f n * c = (sumN n f + f n) * c
    rw [sumN_mul c n, Int.add_mul]
theorem sumN_const (c : Int) : ∀ n : Nat, sumN n (fun _ => c) = (n : Int) * c
  | 0 => by show (0 : Int) = (0 : Nat) * c; simp
  | n + 1 => by
    show sumN n _ + c = ((n + 1 : Nat) : Int) * c
    rw [sumN_const c n, Int.natCast_add, Int.add_mul]
    simp
theorem sumN_upd {f : Nat → Int} {i : Nat} {x : Int} : ∀ {n : Nat}, i < n → sumN n (fun k => if k = i then x else f k) = sumN n f + (x - f i)
  | 0, h => by omega
  | n + 1, h => by
    show sumN n _ + (if n = i then x else f n) = sumN n f + f n + (x - f i)
    by_cases e : n = i
    · rw [if_pos e, sumN_congr (g := f) fun k hk => if_neg (by omega), e]
      omega
    · rw [if_neg e, sumN_upd (n := n) (by omega)]
      omega
theorem sumN_list (xs : List Int) : xs.sum = sumN xs.length fun i => xs.getD i 0 := by
  have h : ∀ n, n ≤ xs.length → (xs.take n).sum = sumN n fun i => xs.getD i 0 := by
    intro n
    induction n with
    | zero => intro _; simp [sumN]
    | succ n ih =>
      intro hn
      have h1 : n < xs.length := by omega
      rw [List.take_add_one, List.getElem?_eq_getElem h1, List.sum_append, ih (by omega)]
      show _ = sumN n _ + xs.getD n 0
      simp [List.getD_eq_getElem?_getD, h1]
  have := h xs.length (Nat.le_refl _)
  rw [List.take_length] at this
  exact this
/-! ### pigeons -/
theorem nodup_len : ∀ {n : Nat} {l : List Nat}, l.Nodup → (∀ x ∈ l, x < n) → l.length ≤ n
  | 0, [], _, _ => Nat.le_refl _
  | 0, x :: l, _, h => by
    have := h x List.mem_cons_self
    omega
  | n + 1, l, nd, h => by
    by_cases m : n ∈ l
    · have h1 := nodup_len (n := n) (l := l.erase n) (nd.erase n) fun x hx => by
        have := (nd.mem_erase_iff).mp hx
        have := h x this.2
        omega
      rw [List.length_erase_of_mem m] at h1
      omega
    · have := nodup_len (n := n) nd fun x hx => by
        have := h x hx
        have : x ≠ n := fun e => m (e ▸ hx)
        omega
      omega
theorem nodup_all {n : Nat} {l : List Nat} (nd : l.Nodup) (h : ∀ x ∈ l, x < n) (hl : l.length = n) {j : Nat} (hj : j < n) : j ∈ l := by
  by_cases m : j ∈ l
  · exact m
  · have := nodup_len (n := n) (l := j :: l) (List.nodup_cons.mpr ⟨m, nd⟩) fun x hx => by
      rcases List.mem_cons.mp hx with rfl | hx
      · exact hj
      · exact h x hx
    rw [List.length_cons] at this
    omega
/-! ### tables: to each set of rooms the best way -/
abbrev Tab := List (Nat × (Int × List Nat))
def lookT (t : Tab) (m : Nat) : Option (Int × List Nat) := (t.find? fun e => decide (e.1 = m)).map (·.2)
def putT (t : Tab) (m : Nat) (v : Int × List Nat) : Tab :=
  if t.any (fun e => decide (e.1 = m)) then t.map (fun e => if e.1 = m then (e.1, v) else e) else t ++ [(m, v)]
theorem lookT_mem {t : Tab} {m : Nat} {v : Int × List Nat} (h : lookT t m = some v) : (m, v) ∈ t := by
  unfold lookT at h
  cases e : t.find? fun e => decide (e.1 = m) with
  | none =>
    rw [e] at h
    cases h
  | some x =>
    rw [e] at h
    have h1 := List.mem_of_find?_eq_some e
    have h2 : x.1 = m := of_decide_eq_true (p := x.1 = m) (by have := List.find?_some (p := fun e : Nat × (Int × List Nat) => decide (e.1 = m)) e; exact this)
    have h3 : x.2 = v := Option.some.inj h
    rw [← h2, ← h3]
    exact h1
theorem lookT_none {t : Tab} {m : Nat} (h : lookT t m = none) : ∀ e ∈ t, e.1 ≠ m := by
  unfold lookT at h
  cases e : t.find? fun e => decide (e.1 = m) with
  | some x =>
    rw [e] at h
    cases h
  | none =>
    intro x hx hm
    have := List.find?_eq_none.mp e x hx
    simp [hm] at this
theorem lookT_any {t : Tab} {m : Nat} : (t.any fun e => decide (e.1 = m)) = (lookT t m).isSome := by
  cases h : lookT t m with
  | none =>
    have := lookT_none h
    exact List.any_eq_false.mpr fun e he => by simp [this e he]
  | some v => exact List.any_eq_true.mpr ⟨_, lookT_mem h, by simp⟩
theorem mem_putT {t : Tab} {m : Nat} {v : Int × List Nat} {e : Nat × (Int × List Nat)} (h : e ∈ putT t m v) : e = (m, v) ∨ e ∈ t := by
  unfold putT at h
  split at h
  · obtain ⟨x, hx, rfl⟩ := List.mem_map.mp h
    by_cases hm : x.1 = m
    · rw [if_pos hm, hm]
      exact .inl rfl
    · rw [if_neg hm]
      exact .inr hx
  · rcases List.mem_append.mp h with h | h
    · exact .inr h
    · exact .inl (List.mem_singleton.mp h)
theorem lookT_put {t : Tab} {m k : Nat} {v : Int × List Nat} : lookT (putT t m v) k = if k = m then some v else lookT t k := by
  have hmap : ∀ t : Tab, lookT (t.map (fun e => if e.1 = m then (e.1, v) else e)) k = if k = m then (lookT t k).map (fun _ => v) else lookT t k := by
    intro t
    induction t with
    | nil => simp [lookT]
    | cons e r ih =>
      unfold lookT at ih ⊢
      rw [List.map_cons, List.find?_cons, List.find?_cons]
      by_cases h1 : e.1 = m
      · rw [if_pos h1]
        by_cases h2 : e.1 = k
        · have : k = m := h2.symm.trans h1
          simp [h2, this]
        · have : k ≠ m := fun z => h2 (h1.trans z.symm)
          simp only [h2, decide_false, this, if_false] at ih ⊢
          exact ih
      · rw [if_neg h1]
        by_cases h2 : e.1 = k
        · have : k ≠ m := fun z => h1 (h2.trans z)
          simp [h2, this]
        · simp only [h2, decide_false] at ih ⊢
          exact ih
  unfold putT
  rw [lookT_any]
  cases h : lookT t m with
  | some x =>
    rw [if_pos (show (some x).isSome = true from rfl), hmap]
    by_cases e : k = m
    · rw [if_pos e, if_pos e, e, h]
      rfl
    · rw [if_neg e, if_neg e]
  | none =>
    rw [if_neg (by simp)]
    unfold lookT at h ⊢
    rw [List.find?_append]
    by_cases e : k = m
    · subst e
      rw [Option.map_eq_none_iff] at h
      simp [h]
    · rw [if_neg e]
      have : ¬ m = k := fun z => e z.symm
      simp [this]
theorem keys_put {t : Tab} {m : Nat} {v : Int × List Nat} (h : (t.map (·.1)).Nodup) : ((putT t m v).map (·.1)).Nodup := by
  unfold putT
  split
  · rw [List.map_map]
    have : (t.map ((fun x => x.1) ∘ fun e => if e.1 = m then (e.1, v) else e)) = t.map (·.1) := List.map_congr_left fun e _ => by
      show (if e.1 = m then (e.1, v) else e).1 = e.1
      split <;> rfl
    rw [this]
    exact h
  · rename_i hn
    rw [lookT_any] at hn
    have hn : lookT t m = none := by
      cases e : lookT t m with
      | none => rfl
      | some x => rw [e] at hn; exact absurd rfl hn
    rw [List.map_append, List.nodup_append]
    refine ⟨h, by simp, fun a ha b hb => ?_⟩
    obtain ⟨e, he, rfl⟩ := List.mem_map.mp ha
    have := lookT_none hn e he
    simp at hb
    rw [hb]
    exact this
/-- a person with that row takes one more room -/
def step1 (row : List Int) (e : Nat × (Int × List Nat)) (found : Tab) (room : Nat) : Tab :=
  if e.1.testBit room then found else
    match lookT found (e.1 ||| 2 ^ room) with
    | none => putT found (e.1 ||| 2 ^ room) (e.2.1 + row.getD room 0, e.2.2 ++ [room])
    | some x => if e.2.1 + row.getD room 0 > x.1 then putT found (e.1 ||| 2 ^ room) (e.2.1 + row.getD room 0, e.2.2 ++ [room]) else found
def steps (row : List Int) (e : Nat × (Int × List Nat)) (found : Tab) (k : Nat) : Tab := (List.range k).foldl (step1 row e) found
def moreT (row : List Int) (found : Tab) : Tab → Tab
  | [] => found
  | e :: r => moreT row (steps row e found row.length) r
def oneMore (t : Tab) (row : List Int) : Tab := moreT row [] t
def bestT (rows : List (List Int)) : Tab := rows.foldl oneMore [(0, (0, []))]
theorem steps_succ (row : List Int) (e : Nat × (Int × List Nat)) (found : Tab) (k : Nat) : steps row e found (k + 1) = step1 row e (steps row e found k) k := by
  unfold steps
  rw [List.range_succ, List.foldl_append]
  rfl
/-- at m a way worth a or more -/
def AtL (t : Tab) (m : Nat) (a : Int) : Prop := ∃ v, lookT t m = some v ∧ a ≤ v.1
theorem step1_keeps {row : List Int} {e : Nat × (Int × List Nat)} {t : Tab} {k m : Nat} {a : Int} (h : AtL t m a) : AtL (step1 row e t k) m a := by
  obtain ⟨v, h1, h2⟩ := h
  unfold step1
  split
  · exact ⟨v, h1, h2⟩
  split
  · rename_i hn
    refine ⟨v, ?_, h2⟩
    rw [lookT_put, if_neg fun z => ?_]
    · exact h1
    · rw [z, hn] at h1
      cases h1
  · rename_i x hx
    split
    · rename_i hgt
      by_cases e2 : m = (e.1 ||| 2 ^ k)
      · subst e2
        rw [h1] at hx
        obtain rfl := Option.some.inj hx
        exact ⟨_, by rw [lookT_put, if_pos rfl], by show a ≤ e.2.1 + row.getD k 0; omega⟩
      · exact ⟨v, by rw [lookT_put, if_neg e2]; exact h1, h2⟩
    · exact ⟨v, h1, h2⟩
theorem step1_at {row : List Int} {e : Nat × (Int × List Nat)} {t : Tab} {k : Nat} (hb : e.1.testBit k = false) : AtL (step1 row e t k) (e.1 ||| 2 ^ k) (e.2.1 + row.getD k 0) := by
  unfold step1
  rw [if_neg (by rw [hb]; decide)]
  split
  · exact ⟨_, by rw [lookT_put, if_pos rfl], Int.le_refl _⟩
  · rename_i x hx
    split
    · exact ⟨_, by rw [lookT_put, if_pos rfl], Int.le_refl _⟩
    · exact ⟨x, hx, by omega⟩
theorem steps_keeps {row : List Int} {e : Nat × (Int × List Nat)} {t : Tab} {m : Nat} {a : Int} (h : AtL t m a) : ∀ k, AtL (steps row e t k) m a
  | 0 => h
  | k + 1 => by
    rw [steps_succ]
    exact step1_keeps (steps_keeps h k)
theorem steps_at {row : List Int} {e : Nat × (Int × List Nat)} {t : Tab} {j : Nat} (hb : e.1.testBit j = false) : ∀ {k : Nat}, j < k → AtL (steps row e t k) (e.1 ||| 2 ^ j) (e.2.1 + row.getD j 0)
  | 0, h => by omega
  | k + 1, h => by
    rw [steps_succ]
    by_cases e : j = k
    · subst e
      exact step1_at hb
    · exact step1_keeps (steps_at hb (by omega))
theorem moreT_keeps {row : List Int} {m : Nat} {a : Int} : ∀ {t found : Tab}, AtL found m a → AtL (moreT row found t) m a
  | [], _, h => h
  | e :: r, _, h => moreT_keeps (t := r) (steps_keeps h _)
theorem moreT_at {row : List Int} {j : Nat} (hj : j < row.length) : ∀ {t found : Tab} {e : Nat × (Int × List Nat)}, e ∈ t → e.1.testBit j = false → AtL (moreT row found t) (e.1 ||| 2 ^ j) (e.2.1 + row.getD j 0)
  | x :: r, found, e, h, hb => by
    rcases List.mem_cons.mp h with rfl | h
    · exact moreT_keeps (t := r) (steps_at hb hj)
    · exact moreT_at hj (t := r) h hb
/-- what holds of all that is put -/
theorem step1_all {row : List Int} {e : Nat × (Int × List Nat)} {t : Tab} {k : Nat} {P : Nat × (Int × List Nat) → Prop} (h : ∀ x ∈ t, P x) (hp : e.1.testBit k = false → P (e.1 ||| 2 ^ k, (e.2.1 + row.getD k 0, e.2.2 ++ [k]))) : ∀ x ∈ step1 row e t k, P x := by
  unfold step1
  split
  · exact h
  rename_i hb
  have hb : e.1.testBit k = false := by
    cases z : e.1.testBit k with
    | false => rfl
    | true => exact absurd z hb
  split
  · intro x hx
    rcases mem_putT hx with rfl | hx
    · exact hp hb
    · exact h x hx
  · split
    · intro x hx
      rcases mem_putT hx with rfl | hx
      · exact hp hb
      · exact h x hx
    · exact h
theorem step1_keys {row : List Int} {e : Nat × (Int × List Nat)} {t : Tab} {k : Nat} (h : (t.map (·.1)).Nodup) : ((step1 row e t k).map (·.1)).Nodup := by
  unfold step1
  split
  · exact h
  split
  · exact keys_put h
  · split
    · exact keys_put h
    · exact h
theorem steps_all {row : List Int} {e : Nat × (Int × List Nat)} {t : Tab} {n : Nat} {P : Nat × (Int × List Nat) → Prop} (h : ∀ x ∈ t, P x) (hp : ∀ k, k < n → e.1.testBit k = false → P (e.1 ||| 2 ^ k, (e.2.1 + row.getD k 0, e.2.2 ++ [k]))) : ∀ k, k ≤ n → ∀ x ∈ steps row e t k, P x
  | 0, _ => h
  | k + 1, hk => by
    rw [steps_succ]
    exact step1_all (steps_all h hp k (by omega)) fun hb => hp k (by omega) hb
theorem steps_keys {row : List Int} {e : Nat × (Int × List Nat)} {t : Tab} (h : (t.map (·.1)).Nodup) : ∀ k, ((steps row e t k).map (·.1)).Nodup
  | 0 => h
  | k + 1 => by
    rw [steps_succ]
    exact step1_keys (steps_keys h k)
/-- a way of k people: the rooms that they take -/
structure Way (n k : Nat) (ρ : List Nat) : Prop where
  len : ρ.length = k
  nd : ρ.Nodup
  lt : ∀ x ∈ ρ, x < n
/-- what a way is worth -/
def valW (r : Nat → Nat → Int) (ρ : List Nat) : Int := sumN ρ.length fun i => r i (ρ.getD i 0)
theorem valW_snoc (r : Nat → Nat → Int) (ρ : List Nat) (x : Nat) : valW r (ρ ++ [x]) = valW r ρ + r ρ.length x := by
  unfold valW
  rw [List.length_append]
  show sumN ρ.length _ + _ = _
  congr 1
  · refine sumN_congr fun i hi => ?_
    congr 1
    simp [List.getD_eq_getElem?_getD, List.getElem?_append_left hi]
  · simp [List.getD_eq_getElem?_getD]
structure GoodE (r : Nat → Nat → Int) (n k : Nat) (e : Nat × (Int × List Nat)) : Prop where
  way : Way n k e.2.2
  val : e.2.1 = valW r e.2.2
  bits : ∀ j, e.1.testBit j = decide (j ∈ e.2.2)
theorem or_bits {m k : Nat} {ρ : List Nat} (h : ∀ j, m.testBit j = decide (j ∈ ρ)) (j : Nat) : (m ||| 2 ^ k).testBit j = decide (j ∈ ρ ++ [k]) := by
  rw [Nat.testBit_or, h, Nat.testBit_two_pow]
  by_cases e : k = j
  · simp [e]
  · have : ¬ j = k := fun z => e z.symm
    simp [e, this]
theorem GoodE.more {r : Nat → Nat → Int} {n k x : Nat} {e : Nat × (Int × List Nat)} {row : List Int} (g : GoodE r n k e) (hx : x < n) (hr : ∀ j, j < n → row.getD j 0 = r k j) (hb : e.1.testBit x = false) : GoodE r n (k + 1) (e.1 ||| 2 ^ x, (e.2.1 + row.getD x 0, e.2.2 ++ [x])) := by
  have hn : x ∉ e.2.2 := by
    rw [g.bits] at hb
    exact of_decide_eq_false hb
  refine ⟨⟨by rw [List.length_append, g.way.len]; rfl, ?_, fun y hy => ?_⟩, ?_, or_bits g.bits⟩
  · rw [List.nodup_append]
    refine ⟨g.way.nd, by simp, fun a ha b hb => ?_⟩
    rw [List.mem_singleton.mp hb]
    exact fun z => hn (z ▸ ha)
  · rcases List.mem_append.mp hy with hy | hy
    · exact g.way.lt y hy
    · rw [List.mem_singleton.mp hy]
      exact hx
  · show e.2.1 + row.getD x 0 = _
    rw [valW_snoc, g.val, g.way.len, hr x hx]
/-- a table of the first k people: all its ways are, and each way is outdone -/
structure TabOk (r : Nat → Nat → Int) (n k : Nat) (t : Tab) : Prop where
  good : ∀ e ∈ t, GoodE r n k e
  keys : (t.map (·.1)).Nodup
  full : ∀ ρ, Way n k ρ → ∃ m, (∀ j, m.testBit j = decide (j ∈ ρ)) ∧ AtL t m (valW r ρ)
theorem moreT_all {row : List Int} {P : Nat × (Int × List Nat) → Prop} : ∀ {t found : Tab}, (∀ x ∈ found, P x) → (∀ e ∈ t, ∀ k, k < row.length → e.1.testBit k = false → P (e.1 ||| 2 ^ k, (e.2.1 + row.getD k 0, e.2.2 ++ [k]))) → ∀ x ∈ moreT row found t, P x
  | [], _, h, _ => h
  | e :: r, _, h, hp => moreT_all (t := r) (steps_all (n := row.length) h (fun k hk hb => hp e List.mem_cons_self k hk hb) _ (Nat.le_refl _)) fun e2 he => hp e2 (List.mem_cons_of_mem _ he)
theorem moreT_keys {row : List Int} : ∀ {t found : Tab}, (found.map (·.1)).Nodup → ((moreT row found t).map (·.1)).Nodup
  | [], _, h => h
  | _ :: r, _, h => moreT_keys (t := r) (steps_keys h _)
theorem bits_eq {m m' : Nat} {ρ ρ' : List Nat} (h : ∀ j, m.testBit j = decide (j ∈ ρ)) (h' : ∀ j, m'.testBit j = decide (j ∈ ρ')) (e : ∀ j, j ∈ ρ ↔ j ∈ ρ') : m = m' := Nat.eq_of_testBit_eq fun j => by
  rw [h, h']
  exact decide_eq_decide.mpr (e j)
theorem TabOk.more {r : Nat → Nat → Int} {n k : Nat} {t : Tab} {row : List Int} (h : TabOk r n k t) (hl : row.length = n) (hr : ∀ j, j < n → row.getD j 0 = r k j) : TabOk r n (k + 1) (oneMore t row) := by
  refine ⟨moreT_all (fun x hx => by cases hx) fun e he x hx hb => (h.good e he).more (by omega) hr hb, moreT_keys (by simp), fun ρ w => ?_⟩
  obtain ⟨ρ0, x, rfl⟩ : ∃ ρ0 x, ρ = ρ0 ++ [x] := by
    refine ⟨ρ.dropLast, ρ.getLast fun z => ?_, (List.dropLast_concat_getLast _).symm⟩
    have := w.len
    rw [z] at this
    cases this
  have hl0 : ρ0.length = k := by
    have := w.len
    rw [List.length_append] at this
    have : ρ0.length + 1 = k + 1 := this
    omega
  have nd := List.nodup_append.mp w.nd
  have hx : x < n := w.lt x (List.mem_append.mpr (.inr (List.mem_singleton.mpr rfl)))
  have w0 : Way n k ρ0 := ⟨hl0, nd.1, fun y hy => w.lt y (List.mem_append.mpr (.inl hy))⟩
  have hxn : x ∉ ρ0 := fun m => nd.2.2 x m x (List.mem_singleton.mpr rfl) rfl
  obtain ⟨m, hm, v, hv, hle⟩ := h.full ρ0 w0
  have hmem := lookT_mem hv
  have hb : m.testBit x = false := by
    rw [hm]
    exact decide_eq_false hxn
  obtain ⟨v2, h2, h3⟩ := moreT_at (row := row) (found := []) (j := x) (by omega) hmem hb
  refine ⟨m ||| 2 ^ x, or_bits hm, v2, h2, ?_⟩
  rw [valW_snoc, hl0, ← hr x hx]
  have : v.1 + row.getD x 0 ≤ v2.1 := h3
  omega
theorem tab0 (r : Nat → Nat → Int) (n : Nat) : TabOk r n 0 [(0, (0, []))] := by
  refine ⟨fun e he => ?_, by simp, fun ρ w => ?_⟩
  · rw [List.mem_singleton.mp he]
    exact ⟨⟨rfl, List.nodup_nil, fun x hx => by cases hx⟩, rfl, fun j => by simp⟩
  · have : ρ = [] := List.length_eq_zero_iff.mp w.len
    subst this
    exact ⟨0, fun j => by simp, (0, []), rfl, Int.le_refl _⟩
def rAt (rows : List (List Int)) (i j : Nat) : Int := (rows.getD i []).getD j 0
theorem bestT_ok {rows : List (List Int)} {n : Nat} (hl : ∀ row ∈ rows, row.length = n) : ∀ k, k ≤ rows.length → TabOk (rAt rows) n k (bestT (rows.take k))
  | 0, _ => tab0 _ _
  | k + 1, hk => by
    have h1 : k < rows.length := by omega
    have e : bestT (rows.take (k + 1)) = oneMore (bestT (rows.take k)) rows[k] := by
      unfold bestT
      rw [List.take_add_one, List.getElem?_eq_getElem h1, List.foldl_append]
      rfl
    rw [e]
    refine (bestT_ok hl k (by omega)).more (hl _ (List.getElem_mem h1)) fun j _ => ?_
    simp [rAt, List.getD_eq_getElem?_getD, h1]
theorem TabOk.len {r : Nat → Nat → Int} {n k : Nat} {t : Tab} (h : TabOk r n k t) : t.length ≤ 2 ^ n := by
  have := nodup_len (n := 2 ^ n) h.keys fun x hx => by
    obtain ⟨e, he, rfl⟩ := List.mem_map.mp hx
    have g := h.good e he
    refine Nat.lt_pow_two_of_testBit _ fun i hi => ?_
    rw [g.bits]
    exact decide_eq_false fun m => by have := g.way.lt i m; omega
  rw [List.length_map] at this
  exact this
theorem key_lt {r : Nat → Nat → Int} {n k : Nat} {e : Nat × (Int × List Nat)} (g : GoodE r n k e) : e.1 < 2 ^ n := by
  refine Nat.lt_pow_two_of_testBit _ fun i hi => ?_
  rw [g.bits]
  exact decide_eq_false fun m => by have := g.way.lt i m; omega
theorem way_range (n : Nat) : Way n n (List.range n) := ⟨List.length_range, List.nodup_range, fun _ h => List.mem_range.mp h⟩
theorem full_bits {n m : Nat} {ρ : List Nat} (w : Way n n ρ) (h : ∀ j, m.testBit j = decide (j ∈ ρ)) : m = 2 ^ n - 1 := Nat.eq_of_testBit_eq fun j => by
  rw [h, Nat.testBit_two_pow_sub_one]
  refine decide_eq_decide.mpr ⟨w.lt j, fun hj => nodup_all w.nd w.lt w.len hj⟩
/-- the rooms that are told: no way is worth more -/
theorem best_at {rows : List (List Int)} {n : Nat} (hl : ∀ row ∈ rows, row.length = n) (hn : rows.length = n) :
    ∃ v, lookT (bestT rows) (2 ^ n - 1) = some v ∧ Way n n v.2 ∧ v.1 = valW (rAt rows) v.2 ∧ ∀ ρ, Way n n ρ → valW (rAt rows) ρ ≤ valW (rAt rows) v.2 := by
  have T := bestT_ok hl n (by omega)
  rw [← hn, List.take_length, hn] at T
  obtain ⟨m, hm, v, hv, _⟩ := T.full _ (way_range n)
  have em := full_bits (way_range n) hm
  subst em
  have g := T.good _ (lookT_mem hv)
  refine ⟨v, hv, g.way, g.val, fun ρ w => ?_⟩
  obtain ⟨m2, hm2, v2, hv2, hle⟩ := T.full ρ w
  have em := full_bits w hm2
  subst em
  rw [hv] at hv2
  obtain rfl := Option.some.inj hv2
  have : v.1 = valW (rAt rows) v.2 := g.val
  omega
/-! ### ways as functions, exchanged -/
structure Inj (n : Nat) (g : Nat → Nat) : Prop where
  lt : ∀ i, i < n → g i < n
  inj : ∀ i j, i < n → j < n → g i = g j → i = j
/-- no other way is worth more -/
def Opt (n : Nat) (r : Nat → Nat → Int) (f : Nat → Nat) : Prop := ∀ g, Inj n g → sumN n (fun i => r i (g i)) ≤ sumN n (fun i => r i (f i))
theorem inj_way {n : Nat} {g : Nat → Nat} (h : Inj n g) : Way n n ((List.range n).map g) := by
  refine ⟨by simp, ?_, fun x hx => ?_⟩
  · rw [List.Nodup, List.pairwise_map]
    exact (List.nodup_range (n := n)).imp_of_mem fun {a b} ha hb ne e => ne (h.inj a b (List.mem_range.mp ha) (List.mem_range.mp hb) e)
  · obtain ⟨i, hi, rfl⟩ := List.mem_map.mp hx
    exact h.lt i (List.mem_range.mp hi)
theorem way_inj {n : Nat} {ρ : List Nat} (w : Way n n ρ) : Inj n fun i => ρ.getD i 0 := by
  have e : ∀ i (h : i < ρ.length), ρ.getD i 0 = ρ[i] := fun i h => by simp [List.getD_eq_getElem?_getD, h]
  refine ⟨fun i hi => ?_, fun i j hi hj h => ?_⟩
  · have h : i < ρ.length := by rw [w.len]; exact hi
    show ρ.getD i 0 < n
    rw [e i h]
    exact w.lt _ (List.getElem_mem h)
  · have h1 : i < ρ.length := by rw [w.len]; exact hi
    have h2 : j < ρ.length := by rw [w.len]; exact hj
    have h : ρ.getD i 0 = ρ.getD j 0 := h
    rw [e i h1, e j h2] at h
    have P := List.pairwise_iff_getElem.mp w.nd
    by_cases e1 : i < j
    · exact absurd h (P i j h1 h2 e1)
    · by_cases e2 : j < i
      · exact absurd h.symm (P j i h2 h1 e2)
      · omega
theorem opt_of {n : Nat} {r : Nat → Nat → Int} {ρ : List Nat} (w : Way n n ρ) (h : ∀ ρ', Way n n ρ' → valW r ρ' ≤ valW r ρ) : Opt n r fun i => ρ.getD i 0 := fun g hg => by
  have := h _ (inj_way hg)
  unfold valW at this
  rw [w.len, List.length_map, List.length_range] at this
  rw [sumN_congr (g := fun i => r i (g i)) fun i hi => by
    show r i (((List.range n).map g).getD i 0) = r i (g i)
    simp [List.getD_eq_getElem?_getD, hi]] at this
  exact this
def swap (f : Nat → Nat) (a b : Nat) : Nat → Nat := fun i => if i = a then f b else if i = b then f a else f i
theorem swap_inj {n : Nat} {f : Nat → Nat} {a b : Nat} (h : Inj n f) (ha : a < n) (hb : b < n) : Inj n (swap f a b) := by
  refine ⟨fun i hi => ?_, fun i j hi hj e => ?_⟩
  · unfold swap
    split
    · exact h.lt b hb
    · split
      · exact h.lt a ha
      · exact h.lt i hi
  · unfold swap at e
    have H := h.inj
    by_cases i1 : i = a
    · rw [if_pos i1] at e
      by_cases j1 : j = a
      · omega
      · rw [if_neg j1] at e
        by_cases j2 : j = b
        · rw [if_pos j2] at e
          have := H b a hb ha e
          omega
        · rw [if_neg j2] at e
          have := H b j hb hj e
          omega
    · rw [if_neg i1] at e
      by_cases i2 : i = b
      · rw [if_pos i2] at e
        by_cases j1 : j = a
        · rw [if_pos j1] at e
          have := H a b ha hb e
          omega
        · rw [if_neg j1] at e
          by_cases j2 : j = b
          · omega
          · rw [if_neg j2] at e
            have := H a j ha hj e
            omega
      · rw [if_neg i2] at e
        by_cases j1 : j = a
        · rw [if_pos j1] at e
          have := H i b hi hb e
          omega
        · rw [if_neg j1] at e
          by_cases j2 : j = b
          · rw [if_pos j2] at e
            have := H i a hi ha e
            omega
          · rw [if_neg j2] at e
            exact H i j hi hj e
def valF (n : Nat) (r : Nat → Nat → Int) (f : Nat → Nat) : Int := sumN n fun i => r i (f i)
theorem val_swap {n : Nat} {r : Nat → Nat → Int} {f : Nat → Nat} {a b : Nat} (ha : a < n) (hb : b < n) (ne : a ≠ b) : valF n r (swap f a b) = valF n r f + (r a (f b) - r a (f a)) + (r b (f a) - r b (f b)) := by
  have e : ∀ i, i < n → r i (swap f a b i) = if i = a then r a (f b) else (if i = b then r b (f a) else r i (f i)) := fun i _ => by
    unfold swap
    by_cases h1 : i = a
    · rw [if_pos h1, if_pos h1, h1]
    · rw [if_neg h1, if_neg h1]
      by_cases h2 : i = b
      · rw [if_pos h2, if_pos h2, h2]
      · rw [if_neg h2, if_neg h2]
  unfold valF
  rw [sumN_congr e, sumN_upd ha, sumN_upd (f := fun i => r i (f i)) hb, if_neg ne]
  omega
/-- what a walk is worth; its end -/
def wk (d : Nat → Nat → Int) : Nat → List Nat → Int
  | _, [] => 0
  | x, y :: t => d x y + wk d y t
def endp : Nat → List Nat → Nat
  | x, [] => x
  | _, y :: t => endp y t
theorem wk_snoc (d : Nat → Nat → Int) (o : Nat) : ∀ (t : List Nat) (x : Nat), wk d x (t ++ [o]) = wk d x t + d (endp x t) o
  | [], x => by simp [wk, endp]
  | y :: t, x => by
    show d x y + wk d y (t ++ [o]) = d x y + wk d y t + d (endp y t) o
    rw [wk_snoc d o t y]
    omega
theorem endp_snoc (o : Nat) : ∀ (t : List Nat) (x : Nat), endp x (t ++ [o]) = o
  | [], _ => rfl
  | y :: t, _ => endp_snoc o t y
theorem wk_split (d : Nat → Nat → Int) (y : Nat) (c : List Nat) : ∀ (b : List Nat) (x : Nat), wk d x (b ++ y :: c) = wk d x (b ++ [y]) + wk d y c
  | [], x => by simp [wk]
  | z :: b, x => by
    show d x z + wk d z (b ++ y :: c) = d x z + wk d z (b ++ [y]) + wk d y c
    rw [wk_split d y c b z]
    omega
theorem endp_split (y : Nat) (c : List Nat) : ∀ (b : List Nat) (x : Nat), endp x (b ++ y :: c) = endp y c
  | [], _ => rfl
  | z :: b, _ => endp_split y c b z
theorem endp_mem : ∀ (t : List Nat) (x : Nat), endp x t ∈ x :: t
  | [], _ => List.mem_cons_self
  | y :: t, x => List.mem_cons_of_mem _ (endp_mem t y)
/-- what a person would win by another one's room -/
def dOf (r : Nat → Nat → Int) (f : Nat → Nat) (p o : Nat) : Int := r p (f o) - r p (f p)
def shift : Nat → List Nat → (Nat → Nat) → (Nat → Nat)
  | _, [], f => f
  | a, b :: t, f => shift b t (swap f a b)
theorem shift_inj {n : Nat} : ∀ {t : List Nat} {a : Nat} {f : Nat → Nat}, Inj n f → (∀ x ∈ a :: t, x < n) → Inj n (shift a t f)
  | [], _, _, h, _ => h
  | b :: t, a, f, h, hl => shift_inj (t := t) (swap_inj h (hl a List.mem_cons_self) (hl b (List.mem_cons_of_mem _ List.mem_cons_self))) fun x hx => hl x (List.mem_cons_of_mem _ hx)
theorem wk_congr {d d' : Nat → Nat → Int} : ∀ {t : List Nat} {x : Nat}, (∀ a ∈ x :: t, ∀ b ∈ t, d a b = d' a b) → wk d x t = wk d' x t
  | [], _, _ => rfl
  | y :: t, x, h => by
    show d x y + wk d y t = d' x y + wk d' y t
    rw [h x List.mem_cons_self y List.mem_cons_self, wk_congr (t := t) fun a ha b hb => h a (List.mem_cons_of_mem _ ha) b (List.mem_cons_of_mem _ hb)]
theorem val_shift {n : Nat} {r : Nat → Nat → Int} : ∀ {t : List Nat} {a : Nat} {f : Nat → Nat}, (a :: t).Nodup → (∀ x ∈ a :: t, x < n) →
    valF n r (shift a t f) = valF n r f + wk (dOf r f) a t + (r (endp a t) (f a) - r (endp a t) (f (endp a t)))
  | [], a, f, _, _ => by
    show valF n r f = valF n r f + 0 + (r a (f a) - r a (f a))
    omega
  | b :: t, a, f, nd, hl => by
    have ha := hl a List.mem_cons_self
    have hb := hl b (List.mem_cons_of_mem _ List.mem_cons_self)
    obtain ⟨na, nd'⟩ := List.nodup_cons.mp nd
    have ne : a ≠ b := fun z => na (z ▸ List.mem_cons_self)
    have ih := val_shift (n := n) (r := r) (t := t) (a := b) (f := swap f a b) nd' fun x hx => hl x (List.mem_cons_of_mem _ hx)
    have vs := val_swap (r := r) (f := f) ha hb ne
    show valF n r (shift b t (swap f a b)) = valF n r f + (dOf r f a b + wk (dOf r f) b t) + (r (endp b t) (f a) - r (endp b t) (f (endp b t)))
    rw [ih, vs]
    have sb : swap f a b b = f a := by
      unfold swap
      rw [if_neg fun z => ne z.symm, if_pos rfl]
    cases t with
    | nil =>
      show valF n r f + (r a (f b) - r a (f a)) + (r b (f a) - r b (f b)) + 0 + (r b (swap f a b b) - r b (swap f a b b)) = valF n r f + (r a (f b) - r a (f a) + 0) + (r b (f a) - r b (f b))
      omega
    | cons c t =>
      obtain ⟨nb, nd''⟩ := List.nodup_cons.mp nd'
      have other : ∀ x ∈ c :: t, swap f a b x = f x := fun x hx => by
        unfold swap
        rw [if_neg fun z => na (by rw [← z]; exact List.mem_cons_of_mem _ hx), if_neg fun z => nb (by rw [← z]; exact hx)]
      have ew : wk (dOf r (swap f a b)) c t = wk (dOf r f) c t := wk_congr fun x hx y hy => by
        unfold dOf
        rw [other x hx, other y (List.mem_cons_of_mem _ hy)]
      have hz := other _ (endp_mem t c)
      show valF n r f + (r a (f b) - r a (f a)) + (r b (f a) - r b (f b)) + (dOf r (swap f a b) b c + wk (dOf r (swap f a b)) c t) + (r (endp c t) (swap f a b b) - r (endp c t) (swap f a b (endp c t))) = valF n r f + (dOf r f a b + (dOf r f b c + wk (dOf r f) c t)) + (r (endp c t) (f a) - r (endp c t) (f (endp c t)))
      rw [ew, hz, sb]
      unfold dOf
      rw [other c List.mem_cons_self, sb]
      omega
/-- no walk round is worth anything -/
theorem round_le {n : Nat} {r : Nat → Nat → Int} {f : Nat → Nat} (hf : Inj n f) (ho : Opt n r f) {x : Nat} {b : List Nat} (nd : (x :: b).Nodup) (hl : ∀ y ∈ x :: b, y < n) : wk (dOf r f) x (b ++ [x]) ≤ 0 := by
  have h := ho _ (shift_inj hf hl)
  have e := val_shift (n := n) (r := r) (f := f) nd hl
  unfold valF at e
  rw [wk_snoc]
  unfold dOf at e ⊢
  omega
theorem split_first {x : Nat} : ∀ {t : List Nat}, x ∈ t → ∃ b c, t = b ++ x :: c ∧ x ∉ b
  | y :: t, h => by
    by_cases e : x = y
    · subst e
      exact ⟨[], t, rfl, fun z => nomatch z⟩
    · rcases List.mem_cons.mp h with h | h
      · exact absurd h e
      · obtain ⟨b, c, rfl, hb⟩ := split_first h
        refine ⟨y :: b, c, rfl, fun z => ?_⟩
        rcases List.mem_cons.mp z with z | z
        · exact e z
        · exact hb z
/-- a walk without anybody twice is worth as much -/
theorem walk_short {n : Nat} {r : Nat → Nat → Int} {f : Nat → Nat} (hf : Inj n f) (ho : Opt n r f) : ∀ (t : List Nat) (x : Nat), (∀ y ∈ x :: t, y < n) →
    ∃ t', (x :: t').Nodup ∧ (∀ y ∈ x :: t', y < n) ∧ endp x t' = endp x t ∧ wk (dOf r f) x t ≤ wk (dOf r f) x t'
  | [], x, hl => ⟨[], by simp, hl, rfl, Int.le_refl _⟩
  | y :: t, x, hl => by
    obtain ⟨t', nd, hl', he, hw⟩ := walk_short hf ho t y fun z hz => hl z (List.mem_cons_of_mem _ hz)
    have hx := hl x List.mem_cons_self
    by_cases m : x ∈ y :: t'
    · obtain ⟨b, c, e, nb⟩ := split_first m
      rw [e] at nd
      have nd2 := List.nodup_append.mp nd
      have hb : (x :: b).Nodup := List.nodup_cons.mpr ⟨nb, nd2.1⟩
      have hlb : ∀ z ∈ x :: b, z < n := fun z hz => by
        rcases List.mem_cons.mp hz with rfl | hz
        · exact hx
        · exact hl' z (by rw [e]; exact List.mem_append.mpr (.inl hz))
      have hr := round_le hf ho hb hlb
      refine ⟨c, nd2.2.1, fun z hz => hl' z (by rw [e]; exact List.mem_append.mpr (.inr hz)), ?_, ?_⟩
      · have h1 := endp_split x c b x
        rw [← e] at h1
        rw [← h1]
        exact he
      · have h1 := wk_split (dOf r f) x c b x
        rw [← e] at h1
        have h2 : wk (dOf r f) x (y :: t') = dOf r f x y + wk (dOf r f) y t' := rfl
        show dOf r f x y + wk (dOf r f) y t ≤ _
        omega
    · refine ⟨y :: t', List.nodup_cons.mpr ⟨m, nd⟩, fun z hz => ?_, he, ?_⟩
      · rcases List.mem_cons.mp hz with rfl | hz
        · exact hx
        · exact hl' z hz
      · show dOf r f x y + wk (dOf r f) y t ≤ dOf r f x y + wk (dOf r f) y t'
        omega
/-! ### prices -/
def relax (d : Nat → Nat → Int) (paid : List Int) (p o : Nat) : List Int := paid.set o (if paid.getD p 0 + d p o > paid.getD o 0 then paid.getD p 0 + d p o else paid.getD o 0)
def sweepO (d : Nat → Nat → Int) (p : Nat) (paid : List Int) : Nat → List Int
  | 0 => paid
  | k + 1 => relax d (sweepO d p paid k) p k
def sweepP (d : Nat → Nat → Int) (n : Nat) (paid : List Int) : Nat → List Int
  | 0 => paid
  | k + 1 => sweepO d k (sweepP d n paid k) n
def roundsM (d : Nat → Nat → Int) (n : Nat) : Nat → List Int
  | 0 => List.replicate n 0
  | k + 1 => sweepP d n (roundsM d n k) n
def leL (xs ys : List Int) : Prop := xs.length = ys.length ∧ ∀ i, xs.getD i 0 ≤ ys.getD i 0
theorem leL.refl (xs : List Int) : leL xs xs := ⟨rfl, fun _ => Int.le_refl _⟩
theorem leL.trans {xs ys zs : List Int} (h : leL xs ys) (k : leL ys zs) : leL xs zs := ⟨h.1.trans k.1, fun i => Int.le_trans (h.2 i) (k.2 i)⟩
theorem getD_set {xs : List Int} {o i : Nat} {z : Int} : (xs.set o z).getD i 0 = if o = i ∧ o < xs.length then z else xs.getD i 0 := by
  rw [List.getD_eq_getElem?_getD, List.getElem?_set, List.getD_eq_getElem?_getD]
  by_cases e : o = i
  · rw [if_pos e]
    by_cases h : o < xs.length
    · rw [if_pos h, if_pos ⟨e, h⟩]
      rfl
    · rw [if_neg h, if_neg fun z => h z.2, List.getElem?_eq_none (by omega)]
  · rw [if_neg e, if_neg fun z => e z.1]
theorem relax_le (d : Nat → Nat → Int) (paid : List Int) (p o : Nat) : leL paid (relax d paid p o) := by
  refine ⟨by unfold relax; rw [List.length_set], fun i => ?_⟩
  unfold relax
  rw [getD_set]
  split
  · rename_i h
    rw [← h.1]
    split <;> omega
  · exact Int.le_refl _
theorem relax_at {d : Nat → Nat → Int} {paid : List Int} {p o : Nat} (h : o < paid.length) : paid.getD p 0 + d p o ≤ (relax d paid p o).getD o 0 := by
  unfold relax
  rw [getD_set, if_pos ⟨rfl, h⟩]
  split <;> omega
theorem sweepO_le (d : Nat → Nat → Int) (p : Nat) (paid : List Int) : ∀ k, leL paid (sweepO d p paid k)
  | 0 => leL.refl _
  | k + 1 => (sweepO_le d p paid k).trans (relax_le _ _ _ _)
theorem sweepP_le (d : Nat → Nat → Int) (n : Nat) (paid : List Int) : ∀ k, leL paid (sweepP d n paid k)
  | 0 => leL.refl _
  | k + 1 => (sweepP_le d n paid k).trans (sweepO_le _ _ _ _)
theorem sweepO_at {d : Nat → Nat → Int} {p : Nat} {paid : List Int} {o : Nat} (ho : o < paid.length) : ∀ {k : Nat}, o < k → paid.getD p 0 + d p o ≤ (sweepO d p paid k).getD o 0
  | 0, h => by omega
  | k + 1, h => by
    show _ ≤ (relax d (sweepO d p paid k) p k).getD o 0
    by_cases e : o = k
    · subst e
      have h1 := sweepO_le d p paid o
      have h2 := relax_at (d := d) (paid := sweepO d p paid o) (p := p) (o := o) (by rw [← h1.1]; exact ho)
      have h3 := h1.2 p
      omega
    · have h1 := sweepO_at (d := d) (p := p) (paid := paid) ho (k := k) (by omega)
      have h2 := (relax_le d (sweepO d p paid k) p k).2 o
      omega
theorem sweepP_at {d : Nat → Nat → Int} {n : Nat} {paid : List Int} (hn : paid.length = n) {p o : Nat} (ho : o < n) : ∀ {k : Nat}, p < k → paid.getD p 0 + d p o ≤ (sweepP d n paid k).getD o 0
  | 0, h => by omega
  | k + 1, h => by
    show _ ≤ (sweepO d k (sweepP d n paid k) n).getD o 0
    have hle := sweepP_le d n paid k
    by_cases e : p = k
    · subst e
      have h2 := sweepO_at (d := d) (p := p) (paid := sweepP d n paid p) (o := o) (by rw [← hle.1, hn]; exact ho) (k := n) ho
      have h3 := hle.2 p
      omega
    · have h1 := sweepP_at hn (d := d) (p := p) ho (k := k) (by omega)
      have h2 := (sweepO_le d k (sweepP d n paid k) n).2 o
      omega
theorem rounds_len (d : Nat → Nat → Int) (n : Nat) : ∀ k, (roundsM d n k).length = n
  | 0 => by simp [roundsM]
  | k + 1 => by
    show (sweepP d n (roundsM d n k) n).length = n
    rw [← (sweepP_le d n (roundsM d n k) n).1]
    exact rounds_len d n k
theorem rounds_walk {d : Nat → Nat → Int} {n : Nat} : ∀ (k : Nat) (t : List Nat) (x : Nat), t.length ≤ k → (∀ y ∈ x :: t, y < n) → wk d x t ≤ (roundsM d n k).getD (endp x t) 0
  | 0, t, x, hk, hl => by
    have : t = [] := List.length_eq_zero_iff.mp (by omega)
    subst this
    have hx := hl x List.mem_cons_self
    simp [wk, endp, roundsM, List.getD_eq_getElem?_getD, hx]
  | k + 1, t, x, hk, hl => by
    have hle := sweepP_le d n (roundsM d n k) n
    by_cases h0 : t.length ≤ k
    · have h1 := rounds_walk (d := d) (n := n) k t x h0 hl
      have h2 := hle.2 (endp x t)
      show _ ≤ (sweepP d n (roundsM d n k) n).getD _ 0
      omega
    · obtain ⟨t0, o, rfl⟩ : ∃ t0 o, t = t0 ++ [o] := by
        refine ⟨t.dropLast, t.getLast fun z => ?_, (List.dropLast_concat_getLast _).symm⟩
        rw [z] at h0
        exact h0 (Nat.zero_le _)
      rw [List.length_append] at hk
      have hk : t0.length + 1 ≤ k + 1 := hk
      have hl0 : ∀ y ∈ x :: t0, y < n := fun y hy => hl y (by
        rcases List.mem_cons.mp hy with rfl | hy
        · exact List.mem_cons_self
        · exact List.mem_cons_of_mem _ (List.mem_append.mpr (.inl hy)))
      have ho : o < n := hl o (List.mem_cons_of_mem _ (List.mem_append.mpr (.inr List.mem_cons_self)))
      have h1 := rounds_walk (d := d) (n := n) k t0 x (by omega) hl0
      rw [wk_snoc, endp_snoc]
      have h2 := sweepP_at (d := d) (rounds_len d n k) (p := endp x t0) ho (k := n) (hl0 _ (endp_mem t0 x))
      show _ ≤ (sweepP d n (roundsM d n k) n).getD _ 0
      omega
/-- each price is what some walk is worth -/
def Walked (d : Nat → Nat → Int) (n : Nat) (paid : List Int) : Prop := paid.length = n ∧ ∀ o, o < n → ∃ x t, (∀ y ∈ x :: t, y < n) ∧ endp x t = o ∧ paid.getD o 0 = wk d x t
theorem relax_walked {d : Nat → Nat → Int} {n : Nat} {paid : List Int} {p o : Nat} (h : Walked d n paid) (hp : p < n) (ho : o < n) : Walked d n (relax d paid p o) := by
  refine ⟨by rw [← (relax_le d paid p o).1]; exact h.1, fun i hi => ?_⟩
  unfold relax
  rw [getD_set]
  by_cases e : o = i ∧ o < paid.length
  · rw [if_pos e, ← e.1]
    split
    · obtain ⟨x, t, h1, h2, h3⟩ := h.2 p hp
      refine ⟨x, t ++ [o], fun y hy => ?_, endp_snoc o t x, by rw [wk_snoc, h2, h3]⟩
      rcases List.mem_cons.mp hy with rfl | hy
      · exact h1 _ List.mem_cons_self
      · rcases List.mem_append.mp hy with hy | hy
        · exact h1 y (List.mem_cons_of_mem _ hy)
        · rw [List.mem_singleton.mp hy]
          exact ho
    · exact h.2 o ho
  · rw [if_neg e]
    exact h.2 i hi
theorem sweepO_walked {d : Nat → Nat → Int} {n : Nat} {paid : List Int} {p : Nat} (h : Walked d n paid) (hp : p < n) : ∀ k, k ≤ n → Walked d n (sweepO d p paid k)
  | 0, _ => h
  | k + 1, hk => relax_walked (sweepO_walked h hp k (by omega)) hp (by omega)
theorem sweepP_walked {d : Nat → Nat → Int} {n : Nat} {paid : List Int} (h : Walked d n paid) : ∀ k, k ≤ n → Walked d n (sweepP d n paid k)
  | 0, _ => h
  | k + 1, hk => sweepO_walked (sweepP_walked h k (by omega)) (by omega) n (Nat.le_refl _)
theorem rounds_walked (d : Nat → Nat → Int) (n : Nat) : ∀ k, Walked d n (roundsM d n k)
  | 0 => ⟨by simp [roundsM], fun o ho => ⟨o, [], fun y hy => by rw [List.mem_singleton.mp hy]; exact ho, rfl, by simp [roundsM, wk, List.getD_eq_getElem?_getD, ho]⟩⟩
  | k + 1 => sweepP_walked (rounds_walked d n k) n (Nat.le_refl _)
/-- behind n rounds nobody would change -/
theorem prices_ok {n : Nat} {r : Nat → Nat → Int} {f : Nat → Nat} (hf : Inj n f) (ho : Opt n r f) {p o : Nat} (hp : p < n) (h : o < n) :
    (roundsM (dOf r f) n n).getD p 0 + dOf r f p o ≤ (roundsM (dOf r f) n n).getD o 0 := by
  obtain ⟨x, t, h1, h2, h3⟩ := (rounds_walked (dOf r f) n n).2 p hp
  obtain ⟨t', nd, hl, he, hw⟩ := walk_short hf ho t x h1
  have hlen := nodup_len nd hl
  rw [List.length_cons] at hlen
  have h4 := rounds_walk (d := dOf r f) (n := n) n (t' ++ [o]) x (by rw [List.length_append]; exact hlen) fun y hy => by
    rcases List.mem_cons.mp hy with rfl | hy
    · exact hl _ List.mem_cons_self
    · rcases List.mem_append.mp hy with hy | hy
      · exact hl y (List.mem_cons_of_mem _ hy)
      · rw [List.mem_singleton.mp hy]
        exact h
  rw [wk_snoc, endp_snoc, he, h2] at h4
  omega
theorem rounds_nonneg (d : Nat → Nat → Int) (n k o : Nat) : 0 ≤ (roundsM d n k).getD o 0 := by
  induction k with
  | zero =>
    show 0 ≤ (List.replicate n (0 : Int)).getD o 0
    rw [List.getD_eq_getElem?_getD, List.getElem?_replicate]
    split <;> exact Int.le_refl _
  | succ k ih =>
    have := (sweepP_le d n (roundsM d n k) n).2 o
    show 0 ≤ (sweepP d n (roundsM d n k) n).getD o 0
    omega
/-! ### the deal in rooms -/
def roomsM (rows : List (List Int)) : List Nat := ((lookT (bestT rows) (2 ^ rows.length - 1)).getD (0, [])).2
/-- with empty rooms, as many as people -/
def padM (rows : List (List Int)) (m : Nat) : List (List Int) := rows.map fun r => r ++ List.replicate (rows.length - m) 0
def rmOf (rows : List (List Int)) (m : Nat) : List Nat := roomsM (padM rows m)
def paidM (rows : List (List Int)) (m : Nat) : List Int := roundsM (dOf (rAt (padM rows m)) fun i => (rmOf rows m).getD i 0) rows.length rows.length
def heapsR (rows : List (List Int)) (m : Nat) : List (List Int) := (rmOf rows m).map fun x => if x < m then [(x : Int)] else []
def payR (rows : List (List Int)) (m : Nat) : List Int := (paidM rows m).map fun z => z * rows.length - (paidM rows m).sum
theorem pad_len (rows : List (List Int)) (m : Nat) : (padM rows m).length = rows.length := by simp [padM]
theorem pad_row {rows : List (List Int)} {m : Nat} (hl : ∀ r ∈ rows, r.length = m) (hm : m ≤ rows.length) : ∀ r ∈ padM rows m, r.length = (padM rows m).length := fun r hr => by
  obtain ⟨r0, h0, rfl⟩ := List.mem_map.mp hr
  rw [pad_len, List.length_append, List.length_replicate, hl _ h0]
  omega
theorem pad_at {rows : List (List Int)} {m : Nat} (hl : ∀ r ∈ rows, r.length = m) {i j : Nat} (hi : i < rows.length) : rAt (padM rows m) i j = if j < m then (rows.getD i []).getD j 0 else 0 := by
  have e : (padM rows m).getD i [] = rows[i] ++ List.replicate (rows.length - m) 0 := by simp [padM, List.getD_eq_getElem?_getD, hi]
  have e2 : rows.getD i [] = rows[i] := by simp [List.getD_eq_getElem?_getD, hi]
  have hli := hl _ (List.getElem_mem hi)
  unfold rAt
  rw [e, e2]
  by_cases h : j < m
  · rw [if_pos h]
    simp [List.getD_eq_getElem?_getD, List.getElem?_append_left (show j < rows[i].length by omega)]
  · rw [if_neg h, List.getD_eq_getElem?_getD, List.getElem?_append_right (by omega), List.getElem?_replicate]
    split <;> rfl
structure RmOk (rows : List (List Int)) (m : Nat) : Prop where
  way : Way rows.length rows.length (rmOf rows m)
  best : ∀ ρ, Way rows.length rows.length ρ → valW (rAt (padM rows m)) ρ ≤ valW (rAt (padM rows m)) (rmOf rows m)
theorem rm_ok {rows : List (List Int)} {m : Nat} (hl : ∀ r ∈ rows, r.length = m) (hm : m ≤ rows.length) : RmOk rows m := by
  obtain ⟨v, hv, hw, _, hb⟩ := best_at (pad_row hl hm) rfl
  have e : rmOf rows m = v.2 := by
    unfold rmOf roomsM
    rw [hv]
    rfl
  rw [pad_len] at hw hb
  rw [← e] at hw hb
  exact ⟨hw, hb⟩
theorem paid_len (rows : List (List Int)) (m : Nat) : (paidM rows m).length = rows.length := rounds_len _ _ _
end Rm

/-! Rx: what the readings of rooms share. -/
namespace Rx
open PySem PySem.Spec PyProof.Rows L2 Evl Fs Rm
theorem u1 {n m : Nat} (h : n + 64 < m) : n + 1 < m := by omega
abbrev nv (ρ : List Nat) : List V := ρ.map fun n : Nat => V.int (n : Int)
/-- an entry of a table as it stands: an int key, a tuple of an int and a list of ints -/
def Ent (H : Hp) (kv : Key × V) (e : Nat × (Int × List Nat)) : Prop :=
  kv.1 = .inl (e.1 : Int) ∧ ∃ a l, kv.2 = .ref a ∧ H a = some (.tup [.int e.2.1, .ref l]) ∧ H l = some (.lst (nv e.2.2))
abbrev Tb (H : Hp) (kvs : List (Key × V)) (t : Tab) : Prop := Paired (Ent H) kvs t
theorem Tb.mono {H H' : Hp} {kvs : List (Key × V)} {t : Tab} (h : Tb H kvs t) (e : Ex H H') : Tb H' kvs t := Paired.mapP h fun _ _ ⟨h1, a, l, h2, h3, h4⟩ => ⟨h1, a, l, h2, e _ _ h3, e _ _ h4⟩
theorem key_dec (a b : Nat) : decide ((Sum.inl (a : Int) : Key) = Sum.inl (b : Int)) = decide (a = b) := by
  refine decide_eq_decide.mpr ⟨fun h => by have := Sum.inl.inj h; omega, fun h => by rw [h]⟩
theorem tb_val {H : Hp} {m : Nat} : ∀ {kvs : List (Key × V)} {t : Tab}, Tb H kvs t → (lookT t m = none → valV kvs (.inl (m : Int)) = none) ∧ ∀ v, lookT t m = some v → ∃ a l, valV kvs (.inl (m : Int)) = some (.ref a) ∧ H a = some (.tup [.int v.1, .ref l]) ∧ H l = some (.lst (nv v.2))
  | _, _, .nil => ⟨fun _ => rfl, fun v h => by cases h⟩
  | _, _, .cons (a := kv) (b := e) h r => by
    have ih := tb_val (m := m) r
    obtain ⟨h1, a, l, h2, h3, h4⟩ := h
    unfold lookT valV at ih ⊢
    rw [List.find?_cons, List.find?_cons, h1, key_dec]
    by_cases he : e.1 = m
    · rw [decide_eq_true he]
      refine ⟨fun z => (by cases z), fun v hv => ?_⟩
      obtain rfl : e.2 = v := Option.some.inj hv
      exact ⟨a, l, congrArg some h2, h3, h4⟩
    · rw [decide_eq_false he]
      exact ih
theorem tb_none {H : Hp} {m : Nat} {kvs : List (Key × V)} {t : Tab} (h : Tb H kvs t) (hv : lookT t m = none) : valV kvs (.inl (m : Int)) = none := (tb_val h).1 hv
theorem tb_map {H H' : Hp} {m : Nat} {v : Int × List Nat} {a l : Addr} (ha : H' a = some (.tup [.int v.1, .ref l])) (hl : H' l = some (.lst (nv v.2))) (e : Ex H H') : ∀ {kvs : List (Key × V)} {t : Tab}, Tb H kvs t →
    Tb H' (kvs.map fun kv => if kv.1 = .inl (m : Int) then (kv.1, .ref a) else kv) (t.map fun e => if e.1 = m then (e.1, v) else e)
  | _, _, .nil => .nil
  | _, _, .cons (a := kv) (b := x) h r => by
    refine .cons ?_ (tb_map ha hl e r)
    show Ent H' (if kv.1 = .inl (m : Int) then (kv.1, .ref a) else kv) (if x.1 = m then (x.1, v) else x)
    obtain ⟨h1, b, k, h2, h3, h4⟩ := h
    by_cases he : x.1 = m
    · rw [if_pos he, if_pos (by rw [h1, he])]
      exact ⟨h1, a, l, rfl, ha, hl⟩
    · rw [if_neg he, if_neg fun z => he (by rw [h1] at z; have := Sum.inl.inj z; omega)]
      exact ⟨h1, b, k, h2, e _ _ h3, e _ _ h4⟩
theorem paired_app {α β : Type} {F : α → β → Prop} {a : α} {b : β} (h : F a b) : ∀ {l₁ : List α} {l₂ : List β}, Paired F l₁ l₂ → Paired F (l₁ ++ [a]) (l₂ ++ [b])
  | _, _, .nil => .cons h .nil
  | _, _, .cons x r => .cons x (paired_app h r)
theorem tb_any {H : Hp} {m : Nat} : ∀ {kvs : List (Key × V)} {t : Tab}, Tb H kvs t → (kvs.any fun kv => decide (kv.1 = (.inl (m : Int)))) = t.any fun e => decide (e.1 = m)
  | _, _, .nil => rfl
  | _, _, .cons (a := kv) (b := x) h r => by
    rw [List.any_cons, List.any_cons, tb_any r, h.1, key_dec]
theorem tb_put {H H' : Hp} {m : Nat} {v : Int × List Nat} {a l : Addr} {kvs : List (Key × V)} {t : Tab} (h : Tb H kvs t) (ha : H' a = some (.tup [.int v.1, .ref l])) (hl : H' l = some (.lst (nv v.2))) (e : Ex H H') :
    Tb H' (putK kvs (.inl (m : Int)) (.ref a)) (putT t m v) := by
  unfold putK putT
  rw [tb_any h]
  split
  · exact tb_map ha hl e h
  · exact paired_app ⟨rfl, a, l, rfl, ha, hl⟩ (h.mono e)
theorem paired_at {α β : Type} {F : α → β → Prop} {a : α} {b : β} : ∀ {l₁ : List α} {l₂ : List β} {i : Nat}, Paired F l₁ l₂ → l₁[i]? = some a → l₂[i]? = some b → F a b
  | _, _, i, .nil, h, _ => by simp at h
  | _, _, 0, .cons x r, h1, h2 => by
    simp at h1 h2
    rw [← h1, ← h2]
    exact x
  | _, _, i + 1, .cons x r, h1, h2 => paired_at (i := i) r (by simpa using h1) (by simpa using h2)
section
variable {σ : L2.St} {H : Hp} {ty td : TE} {a : Addr} {m : Int} {kvs : List (Key × V)} {v : V}
theorem ev_dnin (hy : Ev ty σ H (.int m)) (hd : Ev td σ H (.ref a)) (h : H a = some (.dK kvs)) : Ev (tDNotIn ty td) σ H (.bl (!(valV kvs (.inl m)).isSome)) := fun H1 e1 Q q =>
  hy H1 e1 _ fun H2 e2 => hd H2 (e1.trans e2) _ fun H3 e3 => ⟨a, _, rfl, DGet.k (k := .inl m) (((e1.trans e2).trans e3) _ _ h), q H3 (e2.trans e3)⟩
theorem ev_dget (hd : Ev td σ H (.ref a)) (hy : Ev ty σ H (.int m)) (h : H a = some (.dK kvs)) (hv : valV kvs (.inl m) = some v) : Ev (tDGet td ty) σ H v := fun H1 e1 Q q =>
  hd H1 e1 _ fun H2 e2 => hy H2 (e1.trans e2) _ fun H3 e3 => by
    refine ⟨a, v, rfl, ?_, q H3 (e2.trans e3)⟩
    have := DGet.k (k := .inl m) (((e1.trans e2).trans e3) _ _ h)
    rw [hv] at this
    exact this
end
theorem shl_pow (k : Nat) : (1 : Int) * 2 ^ ((k : Int)).toNat = ((2 ^ k : Nat) : Int) := by
  rw [Int.toNat_natCast, Int.one_mul]
  simp
theorem and_bit (m k : Nat) : decide (V.int (Builtin.bitAnd (m : Int) ((2 ^ k : Nat) : Int)) = V.int 0) = !m.testBit k := by
  rw [bitAnd_pp (Int.natCast_nonneg _) (Int.natCast_nonneg _), Int.toNat_natCast, Int.toNat_natCast]
  cases h : m.testBit k with
  | false =>
    refine decide_eq_true ?_
    have : m &&& 2 ^ k = 0 := Nat.eq_of_testBit_eq fun j => by
      rw [Nat.testBit_and, Nat.testBit_two_pow, Nat.zero_testBit]
      by_cases e : k = j
      · subst e
        rw [h]
        rfl
      · simp [e]
    rw [this]
    rfl
  | true =>
    refine decide_eq_false fun z => ?_
    have z := V.int.inj z
    have : m &&& 2 ^ k = 0 := by omega
    have e : (m &&& 2 ^ k).testBit k = true := by
      rw [Nat.testBit_and, Nat.testBit_two_pow, h]
      simp
    rw [this, Nat.zero_testBit] at e
    cases e
theorem or_bit (m k : Nat) : Builtin.bitOr (m : Int) ((2 ^ k : Nat) : Int) = ((m ||| 2 ^ k : Nat) : Int) := by
  rw [Bits.bitOr_pp (Int.natCast_nonneg _) (Int.natCast_nonneg _), Int.toNat_natCast, Int.toNat_natCast]
/-- few entries, short ways -/
structure Small (t : Tab) : Prop where
  keys : (t.map (·.1)).Nodup
  lt : ∀ e ∈ t, e.1 < 2 ^ 9
  few : ∀ e ∈ t, e.2.2.length ≤ 20
theorem Small.len {t : Tab} (h : Small t) : t.length ≤ 512 := by
  have := nodup_len (n := 2 ^ 9) h.keys fun x hx => by
    obtain ⟨e, he, rfl⟩ := List.mem_map.mp hx
    exact h.lt e he
  rw [List.length_map] at this
  exact this
section
variable {K : PySem.W.Frag} {H : Hp} {d : Addr} {kvs : List (Key × V)}
theorem sq_mskD {a : Addr} {xs : List V} (hd : H d = some (.dK kvs)) (h : SqL K H a xs) : SqL K (msk H [d]) a xs := by
  rcases h with (h | ⟨o, h⟩) | h
  · exact sq_of (by rw [msk_at fun m => ne_of h hd (by intro z; cases z) (List.mem_singleton.mp m)]; exact h)
  · exact Or.inl (Or.inr ⟨o, by rw [msk_at fun m => ne_of h hd (by intro z; cases z) (List.mem_singleton.mp m)]; exact h⟩)
  · exact Or.inr h
theorem tb_mskD {kvs' : List (Key × V)} {t : Tab} (hd : H d = some (.dK kvs)) (h : Tb H kvs' t) : Tb (msk H [d]) kvs' t := Paired.mapP h fun _ _ ⟨h1, a, l, h2, h3, h4⟩ =>
  ⟨h1, a, l, h2, by rw [msk_at fun m => ne_of h3 hd (by intro z; cases z) (List.mem_singleton.mp m)]; exact h3, by rw [msk_at fun m => ne_of h4 hd (by intro z; cases z) (List.mem_singleton.mp m)]; exact h4⟩
end
theorem el_catV {σ : L2.St} {H : Hp} {ta tb : TE} {l : Addr} {xs ys : List V} (ha : Ev ta σ H (.ref l)) (hl : H l = some (.lst xs)) (hb : EvL tb σ H ys) (hz : xs.length + ys.length ≤ 100000) : EvL (tOp rCat ta tb) σ H (xs ++ ys) := fun H1 e Q q => ha H1 e _ fun H2 e2 => hb H2 (e.trans e2) _ fun p3 H3 hp3 e3 h3 =>
  ⟨l, p3, xs, ys, rfl, rfl, ((e.trans e2).trans e3) _ _ hl, h3, sz_of hz, fun r hr => q r _ (fresh_back (e2.trans e3) hr) ((e2.trans e3).trans (Ex.new hr)) upd_same⟩
theorem at_nats {ρ : List Nat} {k : Nat} (h : k < ρ.length) : atI (nv ρ) (k : Int) = some (.int ((ρ.getD k 0 : Nat) : Int)) := atI_nat (by
  rw [List.getElem?_map, List.getElem?_eq_getElem h]
  simp [List.getD_eq_getElem?_getD, h])
/-- rows[i][ρ[k]] -/
theorem ev_cell2 {K : PySem.W.Frag} {σ : L2.St} {H : Hp} {ta tb tc td : TE} {a b : Addr} {rows : List (List Int)} {ρ : List Nat} {i k : Nat} (hA : LL K H a rows) (hB : SqL K H b (nv ρ)) (hi : i < rows.length) (hk : k < ρ.length) (hx : ρ.getD k 0 < (rows.getD i []).length)
    (h1 : Ev ta σ H (.ref a)) (h2 : Ev tb σ H (.int (i : Int))) (h3 : Ev tc σ H (.ref b)) (h4 : Ev td σ H (.int (k : Int))) : Ev (tOp (rIxL K) (tOp (rIxL K) ta tb) (tOp (rIxL K) tc td)) σ H (.int (rAt rows i (ρ.getD k 0))) := by
  obtain ⟨q, hq, hs⟩ := ev_row (σ := σ) (ta := ta) (tb := tb) hA hi h1 h2
  exact ev_op hq (ev_op h3 h4 (rv_ixL hB (at_nats hk))) (rv_ixL hs (at_ints (i := ((ρ.getD k 0 : Nat) : Int)) (by omega) (by omega)))
theorem el_if {σ : L2.St} {H : Hp} {t : TT} {ta tb : TE} {b : Bool} {xs : List V} (h : EvT t σ H b) (h1 : b = true → EvL ta σ H xs) (h2 : b = false → EvL tb σ H xs) : EvL (tIf t ta tb) σ H xs := fun H1 e Q q => h H1 e _ fun H2 e2 => by
  cases b with
  | true => exact iteT (h1 rfl H2 (e.trans e2) _ fun p H3 hp e3 h3 => q p H3 (fresh_back e2 hp) (e2.trans e3) h3)
  | false => exact iteF (h2 rfl H2 (e.trans e2) _ fun p H3 hp e3 h3 => q p H3 (fresh_back e2 hp) (e2.trans e3) h3)
/-! ### the deal in rooms is one, and fair -/
theorem count_nodup {k : Nat} : ∀ {l : List Nat}, l.Nodup → k ∈ l → List.count (V.int (k : Int)) (l.map fun x : Nat => V.int (x : Int)) = 1
  | x :: l, nd, h => by
    obtain ⟨hx, nd⟩ := List.nodup_cons.mp nd
    rw [List.map_cons, List.count_cons]
    by_cases e : x = k
    · subst e
      have h0 : List.count (V.int (x : Int)) (l.map fun x : Nat => V.int (x : Int)) = 0 := List.count_eq_zero.mpr fun m => by
        obtain ⟨y, hy, e⟩ := List.mem_map.mp m
        have := V.int.inj e
        have : y = x := by omega
        exact hx (this ▸ hy)
      rw [h0, if_pos (beq_self_eq_true _)]
    · rw [if_neg fun z => e (by have := V.int.inj (eq_of_beq z); omega), count_nodup nd (by
        rcases List.mem_cons.mp h with h | h
        · exact absurd h.symm e
        · exact h)]
theorem heapsR_flat (rows : List (List Int)) (m : Nat) : (iv (heapsR rows m)).flatten = ((rmOf rows m).filter fun x => decide (x < m)).map fun x : Nat => V.int (x : Int) := by
  unfold heapsR
  generalize rmOf rows m = l
  induction l with
  | nil => rfl
  | cons x l ih =>
    show (((if x < m then [(x : Int)] else []).map V.int) :: _).flatten = _
    rw [List.flatten_cons, List.filter_cons]
    by_cases h : x < m
    · rw [if_pos h, if_pos (decide_eq_true h), List.map_cons]
      show V.int (x : Int) :: _ = V.int (x : Int) :: _
      exact congrArg _ ih
    · rw [if_neg h, if_neg (by rw [decide_eq_false h]; decide)]
      exact ih
theorem heapsR_len {rows : List (List Int)} {m : Nat} (ok : RmOk rows m) : (heapsR rows m).length = rows.length := by
  unfold heapsR
  rw [List.length_map, ok.way.len]
theorem payR_len (rows : List (List Int)) (m : Nat) : (payR rows m).length = rows.length := by
  unfold payR
  rw [List.length_map, paid_len]
theorem heapsR_one (rows : List (List Int)) (m : Nat) : ∀ h ∈ heapsR rows m, h.length ≤ 1 := fun h hh => by
  obtain ⟨x, _, rfl⟩ := List.mem_map.mp hh
  split
  · exact Nat.le_refl _
  · exact Nat.zero_le _
theorem heapsR_in (rows : List (List Int)) (m : Nat) : ∀ h ∈ heapsR rows m, Inside m h := fun h hh => by
  obtain ⟨x, _, rfl⟩ := List.mem_map.mp hh
  split
  · rename_i hx
    intro g hg
    rw [List.mem_singleton.mp hg]
    omega
  · intro g hg
    cases hg
theorem heapsR_few {rows : List (List Int)} {m : Nat} (ok : RmOk rows m) : (heapsR rows m).flatten.length ≤ rows.length := by
  have h := congrArg List.length (heapsR_flat rows m)
  rw [List.length_map, iv_flat, List.length_map] at h
  rw [h]
  have := List.length_filter_le (fun x => decide (x < m)) (rmOf rows m)
  rw [ok.way.len] at this
  exact this
theorem rooms_fit {rows : List (List Int)} {m : Nat} (hb : Bids rows m) (ok : RmOk rows m) : Fits rows m (heapsR rows m) (payR rows m) := ⟨heapsR_len ok, payR_len _ _, heapsR_in _ _, by have := heapsR_few ok; have := hb.l9; omega⟩
theorem rooms_ok {rows : List (List Int)} {m : Nat} (hm : m ≤ rows.length) (ok : RmOk rows m) : heapsB (iv (heapsR rows m)) rows.length m = true := by
  unfold heapsB
  rw [decide_eq_true (by rw [List.length_map, heapsR_len ok]), Bool.true_and, Bool.and_eq_true]
  constructor
  · refine List.all_eq_true.mpr fun y hy => ?_
    rw [iv_flat] at hy
    obtain ⟨g, hg, rfl⟩ := List.mem_map.mp hy
    obtain ⟨h, hh, hg⟩ := List.mem_flatten.mp hg
    exact decide_eq_true (heapsR_in rows m h hh g hg)
  · refine decide_eq_true (List.ext_getElem (by simp [seenM]) fun k h1 h2 => ?_)
    have hk : k < m := by simpa using h2
    simp only [seenM, List.getElem_map, List.getElem_range, List.getElem_replicate]
    rw [heapsR_flat, count_nodup (ok.way.nd.filter _) (List.mem_filter.mpr ⟨nodup_all ok.way.nd ok.way.lt ok.way.len (by omega), decide_eq_true hk⟩)]
    rfl
theorem payR_zero (rows : List (List Int)) (m : Nat) : (payR rows m).sum = 0 := by
  unfold payR
  rw [sum_pay, paid_len, Int.mul_comm]
  omega
theorem rooms_deal {rows : List (List Int)} {m : Nat} (hm : m ≤ rows.length) (ok : RmOk rows m) : dealB (iv (heapsR rows m)) (payR rows m) rows.length m = true := by
  unfold dealB
  rw [rooms_ok hm ok, payR_zero, payR_len, decide_eq_true rfl, decide_eq_true rfl]
  rfl
/-- what i would get of j's room -/
theorem worthR {rows : List (List Int)} {m i j : Nat} (hb : Bids rows m) (ok : RmOk rows m) (hi : i < rows.length) (hj : j < rows.length) : worthM (rows.getD i []) ((heapsR rows m).getD j []) = rAt (padM rows m) i ((rmOf rows m).getD j 0) := by
  have hj2 : j < (rmOf rows m).length := by rw [ok.way.len]; exact hj
  have e : (heapsR rows m).getD j [] = if (rmOf rows m).getD j 0 < m then [((rmOf rows m).getD j 0 : Int)] else [] := by
    simp [heapsR, List.getD_eq_getElem?_getD, hj2]
  rw [e, pad_at hb.len hi]
  split
  · show ([_] : List Int).sum = _
    simp [worthM]
  · rfl
theorem gainR {rows : List (List Int)} {m i j : Nat} (hb : Bids rows m) (ok : RmOk rows m) (hi : i < rows.length) (hj : j < rows.length) :
    gainM rows (heapsR rows m) (payR rows m) i j = (rAt (padM rows m) i ((rmOf rows m).getD j 0) - (paidM rows m).getD j 0) * rows.length + (paidM rows m).sum := by
  have hj2 : j < (paidM rows m).length := by rw [paid_len]; exact hj
  have e : (payR rows m).getD j 0 = (paidM rows m).getD j 0 * rows.length - (paidM rows m).sum := by
    simp [payR, List.getD_eq_getElem?_getD, hj2]
  unfold gainM
  rw [worthR hb ok hi hj, e, Int.sub_mul]
  omega
theorem paidR {rows : List (List Int)} {m i j : Nat} (ok : RmOk rows m) (hi : i < rows.length) (hj : j < rows.length) :
    rAt (padM rows m) i ((rmOf rows m).getD j 0) - (paidM rows m).getD j 0 ≤ rAt (padM rows m) i ((rmOf rows m).getD i 0) - (paidM rows m).getD i 0 := by
  have h : (paidM rows m).getD i 0 + (rAt (padM rows m) i ((rmOf rows m).getD j 0) - rAt (padM rows m) i ((rmOf rows m).getD i 0)) ≤ (paidM rows m).getD j 0 := prices_ok (r := rAt (padM rows m)) (way_inj ok.way) (opt_of ok.way ok.best) hi hj
  omega
theorem rooms_fair {rows : List (List Int)} {m : Nat} (hb : Bids rows m) (ok : RmOk rows m) : enviedB (gainM rows (heapsR rows m) (payR rows m)) rows.length = false := by
  refine enviedB_not fun i j hi hj => ?_
  rw [gainR hb ok hi hj, gainR hb ok hi hi]
  have := Int.mul_le_mul_of_nonneg_right (paidR ok hi hj) (show (0 : Int) ≤ rows.length by omega)
  omega
theorem tv_one {H : Hp} {a b : Addr} {r : List Int} (h : H a = some (.lst [V.ref b])) (h2 : H b = some (.lst (r.map V.int))) : TV H a (iv [r]) := by
  refine ⟨[b], h, rfl, fun i q y h3 h4 => ?_⟩
  cases i with
  | zero =>
    obtain rfl : b = q := Option.some.inj h3
    obtain rfl : r.map V.int = y := Option.some.inj h4
    exact h2
  | succ i => simp at h3
/-! ### a deal that is fair: nobody gains less than an equal part -/
theorem perm_sumR {l l' : List Int} (P : l.Perm l') : l.sum = l'.sum := by
  induction P with
  | nil => rfl
  | cons x _ ih => rw [List.sum_cons, List.sum_cons, ih]
  | swap x y l =>
    rw [List.sum_cons, List.sum_cons, List.sum_cons, List.sum_cons]
    omega
  | trans _ _ h1 h2 => rw [h1, h2]
theorem worth_flat (r : List Int) (hs : List (List Int)) : (hs.map (worthM r)).sum = worthM r hs.flatten := by
  induction hs with
  | nil => rfl
  | cons h t ih =>
    rw [List.map_cons, List.sum_cons, ih, List.flatten_cons]
    unfold worthM
    rw [List.map_append, List.sum_append]
theorem heaps_sum {r : List Int} {hs : List (List Int)} {n : Int} {m : Nat} (h : heapsB (iv hs) n m = true) (hl : r.length = m) : (hs.map (worthM r)).sum = r.sum := by
  unfold heapsB at h
  rw [Bool.and_eq_true, Bool.and_eq_true] at h
  obtain ⟨_, hin, hseen⟩ := h
  have hseen := of_decide_eq_true hseen
  have P : ((iv hs).flatten).Perm ((List.range m).map fun k : Nat => V.int (k : Int)) := by
    refine List.perm_iff_count.mpr fun x => ?_
    by_cases hx : ∃ k : Nat, k < m ∧ x = V.int (k : Int)
    · obtain ⟨k, hk, rfl⟩ := hx
      have h1 : (seenM (iv hs).flatten m)[k]? = some 1 := by
        rw [hseen, List.getElem?_replicate, if_pos hk]
      have h2 : (seenM (iv hs).flatten m)[k]? = some ((((iv hs).flatten.count (V.int (k : Int)) : Nat)) : Int) := by
        unfold seenM
        rw [List.getElem?_map, List.getElem?_range hk]
        rfl
      rw [h1] at h2
      have h3 := Option.some.inj h2
      rw [count_nodup List.nodup_range (List.mem_range.mpr hk)]
      omega
    · rw [List.count_eq_zero.mpr fun mm => ?_, List.count_eq_zero.mpr fun mm => ?_]
      · obtain ⟨k, hk, rfl⟩ := List.mem_map.mp mm
        exact hx ⟨k, List.mem_range.mp hk, rfl⟩
      · have := List.all_eq_true.mp hin x mm
        cases x with
        | int i =>
          have := of_decide_eq_true this
          exact hx ⟨i.toNat, by omega, by congr 1; omega⟩
        | _ => cases this
  have P2 := P.map fun x => r.getD (intOf x).toNat 0
  have e := perm_sumR P2
  rw [iv_flat, List.map_map, List.map_map] at e
  rw [worth_flat]
  have e1 : worthM r hs.flatten = (hs.flatten.map ((fun x => r.getD (intOf x).toNat 0) ∘ V.int)).sum := rfl
  rw [e1, e]
  have e2 : (List.range m).map ((fun x => r.getD (intOf x).toNat 0) ∘ fun k : Nat => V.int (k : Int)) = r := by
    refine List.ext_getElem (by simp [hl]) fun k h1 h2 => ?_
    rw [List.getElem_map, List.getElem_range]
    show r.getD ((k : Int)).toNat 0 = _
    rw [Int.toNat_natCast]
    simp [List.getD_eq_getElem?_getD, h2]
  rw [e2]
structure FairD (rows : List (List Int)) (m : Nat) (hs : List (List Int)) (ss : List Int) : Prop where
  fit : Fits rows m hs ss
  deal : dealB (iv hs) ss rows.length m = true
  fair : enviedB (gainM rows hs ss) rows.length = false
theorem FairD.le {rows : List (List Int)} {m : Nat} {hs : List (List Int)} {ss : List Int} (F : FairD rows m hs ss) {i j : Nat} (hi : i < rows.length) (hj : j < rows.length) : gainM rows hs ss i j ≤ gainM rows hs ss i i := by
  by_cases h : gainM rows hs ss i i < gainM rows hs ss i j
  · have := enviedB_of (g := gainM rows hs ss) hi hj h
    rw [F.fair] at this
    cases this
  · omega
theorem heaps_fairD {rows : List (List Int)} {m : Nat} (hb : Bids rows m) : FairD rows m (heapsM rows m) (payM rows (heapsM rows m)) := ⟨heaps_fit hb, heaps_deal hb.ne, heaps_fair⟩
theorem rooms_fairD {rows : List (List Int)} {m : Nat} (hb : Bids rows m) (hm : m ≤ rows.length) : FairD rows m (heapsR rows m) (payR rows m) := ⟨rooms_fit hb (rm_ok hb.len hm), rooms_deal hm (rm_ok hb.len hm), rooms_fair hb (rm_ok hb.len hm)⟩
theorem FairD.part {rows : List (List Int)} {m : Nat} {hs : List (List Int)} {ss : List Int} (hb : Bids rows m) (F : FairD rows m hs ss) {i : Nat} (hi : i < rows.length) : (rows.getD i []).sum ≤ gainM rows hs ss i i := by
  have hd := F.deal
  unfold dealB at hd
  rw [Bool.and_eq_true, Bool.and_eq_true] at hd
  have hz := of_decide_eq_true hd.2.2
  have hs1 := heaps_sum (r := rows.getD i []) hd.1 (hb.at_ hi)
  have hl := F.fit.hl
  have sl := F.fit.sl
  have h1 : sumN rows.length (fun j => gainM rows hs ss i j) ≤ sumN rows.length fun _ => gainM rows hs ss i i := sumN_le fun j hj => F.le hi hj
  rw [sumN_const] at h1
  have h2 : sumN rows.length (fun j => gainM rows hs ss i j) = (rows.getD i []).sum * rows.length - 0 := by
    unfold gainM
    rw [sumN_sub (f := fun j => worthM (rows.getD i []) (hs.getD j []) * rows.length) (g := fun j => ss.getD j 0), sumN_mul]
    have e1 : sumN rows.length (fun j => ss.getD j 0) = 0 := by rw [← sl, ← sumN_list, hz]
    have e2 : sumN rows.length (fun j => worthM (rows.getD i []) (hs.getD j [])) = (rows.getD i []).sum := by
      rw [← hs1, sumN_list, List.length_map, hl]
      refine sumN_congr fun j hj => ?_
      have hj2 : j < hs.length := by omega
      simp [List.getD_eq_getElem?_getD, hj2]
    rw [e1, e2]
  rw [h2, Int.sub_zero, Int.mul_comm] at h1
  exact Int.le_of_mul_le_mul_left h1 (by have := hb.ne; omega)
theorem FairD.same {rows : List (List Int)} {m : Nat} {hs : List (List Int)} {ss : List Int} (F : FairD rows m hs ss) {i j : Nat} (hi : i < rows.length) (hj : j < rows.length) (e : rows.getD i [] = rows.getD j []) : gainM rows hs ss i i = gainM rows hs ss j j := by
  have h1 := F.le hi hj
  have h2 := F.le hj hi
  have e1 : gainM rows hs ss i j = gainM rows hs ss j j := by unfold gainM; rw [e]
  have e2 : gainM rows hs ss j i = gainM rows hs ss i i := by unfold gainM; rw [e]
  omega
/-- xs[j] = a new list -/
theorem s_setLL {σ : L2.St} {H : Hp} {te ta tb : TE} {D : Ends} {l : Addr} {xs ys : List V} {j : Nat} (hl : H l = some (.lst xs)) (h : EvL te σ H ys) (ho : Ev ta σ H (.ref l)) (hi : Ev tb σ H (.int (j : Int))) (hj : j < xs.length) (k : ∀ q H1, H q = none → Ex H H1 → H1 q = some (.lst ys) → D.nx σ (upd H1 l (.lst (xs.set j (.ref q))))) :
    tAsg te (gSub ta tb rSetL) D σ H := h H (Ex.refl H) _ fun q H1 hq e1 h1 => ho H1 e1 _ fun H2 e2 => hi H2 (e1.trans e2) _ fun H3 e3 =>
  ⟨l, xs, (j : Int), j, rfl, rfl, ((e1.trans e2).trans e3) l _ hl, ixN_nat hj, k q H3 hq ((e1.trans e2).trans e3) ((e2.trans e3) _ _ h1)⟩
theorem tv_two {H : Hp} {a b c : Addr} {r t : List Int} (h : H a = some (.lst [V.ref b, V.ref c])) (h2 : H b = some (.lst (r.map V.int))) (h5 : H c = some (.lst (t.map V.int))) : TV H a (iv [r, t]) := by
  refine ⟨[b, c], h, rfl, fun i q y h3 h4 => ?_⟩
  cases i with
  | zero =>
    obtain rfl : b = q := Option.some.inj h3
    obtain rfl : r.map V.int = y := Option.some.inj h4
    exact h2
  | succ i =>
    cases i with
    | zero =>
      obtain rfl : c = q := Option.some.inj h3
      obtain rfl : t.map V.int = y := Option.some.inj h4
      exact h5
    | succ i => simp at h3
end Rx

/-! Tx: texts. -/
namespace Tx
open PySem PySem.Spec PyProof.Rows L2 Evl Fs TL PySem.StrLaws
def rJoin (K : PySem.W.Frag) : V → List V → Hp → VK → Prop := fun x xs H Q => ∃ a p, ∃ ys : List Str, x = .str a ∧ xs = [.ref p] ∧ (SqL K H p (ys.map V.str) ∨ SqT K H p (ys.map V.str)) ∧
    (ys.map (·.length)).sum + ys.length * a.length ≤ 16777216 ∧ Q (.str (Txt.join a ys)) H
theorem pe_joinK {X : Cx} {K : PySem.W.Frag} {o e : Expr} {to te : TE} {apos pos : Pos} (ho : PE X o to) (he : PE X e te) (hs : starEach [e] X.env = [(false, eval e X.env)] := by rfl) (hbase : attributeBase o "join" X.env (eval o X.env) = eval o X.env := by rfl) (hline : (apos.endLine == pos.line) = true := by rfl) (hK : X.K = K := by rfl) :
    PE X (.Call (.Attribute o "join" apos) [e] [] pos) (tM1 (rJoin K) to te) := by
  subst hK
  exact pe_join ho he hs hbase hline
section
variable {K : PySem.W.Frag} {σ : L2.St} {H : Hp} {te to ta tb : TE}
theorem ev_join {a : Str} {ys : List Str} (h : EvL te σ H (ys.map V.str)) (hz : (ys.map (·.length)).sum + ys.length * a.length ≤ 16777216) : Ev (tM1 (rJoin K) (tC (.str a)) te) σ H (.str (Txt.join a ys)) := fun H1 e Q q =>
  ⟨⟨a, rfl⟩, h H1 e _ fun p H2 hp e2 h2 => ⟨a, p, ys, rfl, rfl, .inl (sq_of h2), hz, q H2 e2⟩⟩
theorem ev_addS {x y : Str} (h1 : Ev ta σ H (.str x)) (h2 : Ev tb σ H (.str y)) (hz : x.length + y.length ≤ 100000) : Ev (tOp (fun x y H Q => ∃ i j, x = .str i ∧ y = .str j ∧ i.length + j.length ≤ sizeLine ∧ Q (.str (i ++ j)) H) ta tb) σ H (.str (x ++ y)) :=
  ev_op h1 h2 fun H1 _ Q q => ⟨x, y, rfl, rfl, sz_of hz, q H1 (Ex.refl H1)⟩
theorem ev_strI {i : Int} (h : Ev te σ H (.int i)) (hz : i.natAbs.log2 < 1920) : Ev (tCB (fun xs H Q => ∃ i, xs = [.int i] ∧ i.natAbs.log2 < 1920 ∧ Q (.str (toString i)) H) (tCons te tNil)) σ H (.str (toString i)) :=
  ev_cb (ea_cons h ea_nil) fun H1 _ Q q => ⟨i, rfl, hz, q H1 (Ex.refl H1)⟩
theorem ev_m0 {r : V → List V → Hp → VK → Prop} {a : Str} {v : V} (h : Ev to σ H (.str a)) (hr : ∀ H1 Q, Q v H1 → r (.str a) [] H1 Q) : Ev (tM0 r to) σ H v := fun H1 e Q q => h H1 e _ fun H2 e2 => ⟨⟨a, rfl⟩, hr _ _ (q H2 e2)⟩
theorem ev_m1 {r : V → List V → Hp → VK → Prop} {a b : Str} {v : V} (h : Ev to σ H (.str a)) (h2 : Ev te σ H (.str b)) (hr : ∀ H1 Q, Q v H1 → r (.str a) [.str b] H1 Q) : Ev (tM1 r to te) σ H v := fun H1 e Q q => h H1 e _ fun H2 e2 => ⟨⟨a, rfl⟩, h2 H2 (e.trans e2) _ fun H3 e3 => hr _ _ (q H3 (e2.trans e3))⟩
theorem ev_lenS {a : Str} (h : Ev te σ H (.str a)) (hz : a.length ≤ 100000) : Ev (tCB (fun xs H Q => ∃ z, xs = [.str z] ∧ z.length ≤ sizeLine ∧ Q (.int z.length) H) (tCons te tNil)) σ H (.int (a.length : Nat)) :=
  ev_cb (ea_cons h ea_nil) fun H1 _ Q q => ⟨a, rfl, sz_of hz, q H1 (Ex.refl H1)⟩
end
/-! ### bids as texts -/
/-- a number as it is written -/
def numS (b : Int) : Str := toString b
def rowS (r : List Int) : Str := Txt.join " " (r.map numS)
def shownS (rows : List (List Int)) : Str := Txt.join "" (rows.map fun r => rowS r ++ "\n")
def rowL (r : List Int) : List Nat := joinL [32] (r.map fun b => numL b.toNat)
def shownL (rows : List (List Int)) : List Nat := (rows.map fun r => rowL r ++ [10]).flatten
theorem tl_numS {b : Int} (h : 0 ≤ b) : tl (numS b) = numL b.toNat := by
  have e : b = ((b.toNat : Nat) : Int) := by omega
  have := tl_num b.toNat
  rw [← e] at this
  exact this
theorem tl_rowS {r : List Int} (h : ∀ b ∈ r, 0 ≤ b) : tl (rowS r) = rowL r := by
  unfold rowS rowL
  rw [join_eq, tl_join, List.map_map]
  have e : tl (" " : Str) = [32] := by decide
  rw [e]
  congr 1
  exact List.map_congr_left fun b hb => tl_numS (h b hb)
theorem joinL_nil : ∀ ps : List (List Nat), joinL [] ps = ps.flatten
  | [] => rfl
  | [p] => by simp [joinL]
  | p :: q :: r => by
    show p ++ ([] ++ joinL [] (q :: r)) = _
    rw [joinL_nil (q :: r), List.nil_append]
    simp
theorem tl_shownS {rows : List (List Int)} (h : ∀ r ∈ rows, ∀ b ∈ r, 0 ≤ b) : tl (shownS rows) = shownL rows := by
  unfold shownS shownL
  rw [join_eq, tl_join, List.map_map]
  have e : tl ("" : Str) = [] := by decide
  rw [e, joinL_nil]
  congr 1
  refine List.map_congr_left fun r hr => ?_
  show tl (rowS r ++ "\n") = _
  rw [tl_append, tl_rowS (h r hr)]
  rfl
theorem len_numS {b : Int} (h0 : 0 ≤ b) (h1 : b ≤ 1000000000000) : (numS b).length ≤ 13 := by
  rw [len_tl, tl_numS h0]
  exact numL_len (by decide) (by omega)
theorem joinL_len (s : Nat) {k : Nat} : ∀ ps : List (List Nat), (∀ p ∈ ps, p.length ≤ k) → (joinL [s] ps).length ≤ ps.length * (k + 1)
  | [], _ => by simp [joinL]
  | [p], h => by
    have := h p List.mem_cons_self
    show p.length ≤ 1 * (k + 1)
    omega
  | p :: q :: r, h => by
    have h1 := h p List.mem_cons_self
    have ih := joinL_len s (k := k) (q :: r) fun x hx => h x (List.mem_cons_of_mem _ hx)
    show (p ++ ([s] ++ joinL [s] (q :: r))).length ≤ (r.length + 1 + 1) * (k + 1)
    rw [List.length_append, List.length_append]
    have e : (r.length + 1 + 1) * (k + 1) = (r.length + 1) * (k + 1) + (k + 1) := Nat.succ_mul _ _
    have ih : (joinL [s] (q :: r)).length ≤ (r.length + 1) * (k + 1) := ih
    have : ([s] : List Nat).length = 1 := rfl
    omega
theorem len_rowS {rows : List (List Int)} {m : Nat} (hb : Bids rows m) {r : List Int} (hr : r ∈ rows) : (rowS r).length ≤ 560 := by
  rw [len_tl, tl_rowS fun b h => (hb.ok r hr b h).1]
  have := joinL_len 32 (k := 13) (r.map fun b => numL b.toNat) fun p hp => by
    obtain ⟨b, hbm, rfl⟩ := List.mem_map.mp hp
    have := hb.ok r hr b hbm
    exact numL_len (by decide) (by omega)
  rw [List.length_map, hb.len r hr] at this
  have := hb.m40
  unfold rowL
  have e : m * (13 + 1) ≤ 40 * 14 := Nat.mul_le_mul hb.m40 (Nat.le_refl _)
  omega
theorem sum_bound {k : Nat} : ∀ l : List Nat, (∀ x ∈ l, x ≤ k) → l.sum ≤ l.length * k
  | [], _ => by simp
  | x :: l, h => by
    have h1 := h x List.mem_cons_self
    have h2 := sum_bound l fun y hy => h y (List.mem_cons_of_mem _ hy)
    rw [List.sum_cons, List.length_cons, Nat.succ_mul]
    omega
theorem log_ok {b : Int} (h0 : 0 ≤ b) (h1 : b ≤ 1000000000000) : b.natAbs.log2 < 1920 := by
  by_cases z : b.natAbs = 0
  · rw [z]
    decide
  · rw [Nat.log2_lt z]
    exact Nat.lt_of_le_of_lt (show b.natAbs ≤ 1000000000000 by omega) (by decide +kernel)
/-- "".join([" ".join([str(bid) for bid in row]) + "\\n" for row in bids]) -/
theorem ev_shown {K : PySem.W.Frag} {σ : L2.St} {H : Hp} {a : Addr} {rows : List (List Int)} {m : Nat} (hA : LL K H a rows) (hb : Bids rows m) (h0 : ∀ x y z, σ = [x, y, z] → x = some (.ref a)) (hl : σ.length = 3) :
    Ev (tM1 (rJoin K) (tC (.str "")) (tLc (iList K (tVar 0)) (gName 1) tYes (tOp (fun x y H Q => ∃ i j, x = .str i ∧ y = .str j ∧ i.length + j.length ≤ sizeLine ∧ Q (.str (i ++ j)) H) (tM1 (rJoin K) (tC (.str " ")) (tLc (iList K (tVar 1)) (gName 2) tYes (tCB (fun xs H Q => ∃ i, xs = [.int i] ∧ i.natAbs.log2 < 1920 ∧ Q (.str (toString i)) H) (tCons (tVar 2) tNil)) [2])) (tC (.str "\n"))) [1])) σ H (.str (shownS rows)) := by
  have hl9 := hb.l9
  have h40 := hb.m40
  match σ, hl with
  | [x, y, z], _ =>
    obtain rfl := h0 x y z rfl
    refine ev_join (ys := rows.map fun r => rowS r ++ "\n") ?_ ?_
    · rw [List.map_map]
      refine el_rows (rows := rows) (fun r => .str (rowS r ++ "\n")) (ev_var rfl) hA (by omega) (fun _ => rfl) fun i p H1 hi hs e1 => ?_
      have hrm : rows.getD i [] ∈ rows := by
        have e : rows.getD i [] = rows[i] := by simp [List.getD_eq_getElem?_getD, hi]
        rw [e]
        exact List.getElem_mem hi
      have hok := hb.ok _ hrm
      have hlen := hb.len _ hrm
      have hlr := len_rowS hb hrm
      generalize rows.getD i [] = r at hs hok hlen hlr
      refine ev_addS (ev_join (ys := r.map numS) ?_ ?_) ev_c (by have : ("\n" : Str).length = 1 := rfl; omega)
      · rw [List.map_map]
        refine el_all (xs := r) (enc := V.int) (fun b => .str (numS b)) (ev_var rfl) hs (by omega) (fun _ => rfl) fun b hbm H2 e2 => ev_strI (ev_var rfl) (log_ok (hok b hbm).1 (hok b hbm).2)
      · have := sum_bound (k := 13) ((r.map numS).map (·.length)) fun x hx => by
          obtain ⟨w, hw, rfl⟩ := List.mem_map.mp hx
          obtain ⟨b, hbm, rfl⟩ := List.mem_map.mp hw
          exact len_numS (hok b hbm).1 (hok b hbm).2
        rw [List.length_map, List.length_map] at this
        rw [List.length_map]
        have e1 : (" " : Str).length = 1 := rfl
        rw [e1]
        omega
    · have := sum_bound (k := 561) ((rows.map fun r => rowS r ++ "\n").map (·.length)) fun x hx => by
        obtain ⟨w, hw, rfl⟩ := List.mem_map.mp hx
        obtain ⟨r, hr, rfl⟩ := List.mem_map.mp hw
        have := len_rowS hb hr
        rw [len_tl, tl_append, List.length_append, ← len_tl]
        show (rowS r).length + 1 ≤ 561
        omega
      rw [List.length_map, List.length_map] at this
      have e1 : ("" : Str).length = 0 := rfl
      rw [e1]
      omega
/-! ### words that are numbers -/
def writtenB (l : List Nat) : Bool := ((decide (l ≠ []) && l.all fun c => decide (48 ≤ c ∧ c ≤ 57)) && decide (l.length ≤ 13)) && (decide (l = [48]) || !decide (l.head? = some 48))
theorem dig_ascii : ∀ c : Nat, c < 128 → Unicode.isDigit c = decide (48 ≤ c ∧ c ≤ 57) := by decide +kernel
theorem dig_txt (w : Str) : (Txt.isascii w && Txt.isdigit w) = (decide (tl w ≠ []) && (tl w).all fun c => decide (48 ≤ c ∧ c ≤ 57)) := by
  have h1 : Txt.isascii w = (tl w).all fun c => decide (c < 128) := by
    show w.cps.all _ = w.cps.toList.all _
    rw [Array.all_toList]
  have h2 : Txt.isdigit w = (decide (w.length > 0) && (tl w).all Unicode.isDigit) := by
    show (decide (w.length > 0) && w.cps.all _) = (_ && w.cps.toList.all _)
    rw [Array.all_toList]
  have h3 : decide (w.length > 0) = decide (tl w ≠ []) := by
    refine decide_eq_decide.mpr ?_
    rw [len_tl]
    exact List.length_pos_iff
  rw [h1, h2, h3]
  generalize tl w = l
  by_cases e : l = []
  · simp [e]
  · rw [decide_eq_true e, Bool.true_and, Bool.true_and, Bool.eq_iff_iff]
    rw [Bool.and_eq_true, List.all_eq_true, List.all_eq_true, List.all_eq_true]
    constructor
    · intro ⟨a, b⟩ c hc
      rw [← dig_ascii c (of_decide_eq_true (a c hc))]
      exact b c hc
    · intro h
      have lt : ∀ c ∈ l, c < 128 := fun c hc => by
        have := of_decide_eq_true (h c hc)
        omega
      exact ⟨fun c hc => decide_eq_true (lt c hc), fun c hc => by rw [dig_ascii c (lt c hc)]; exact h c hc⟩
theorem starts1 (w : Str) (c : Nat) : Txt.startswith w ⟨#[c]⟩ = decide ((tl w).head? = some c) := by
  have key : At w ⟨#[c]⟩ w.length 0 ↔ pre [c] ((tl w).drop 0) = true := at_iff (y := ⟨#[c]⟩) (by show [c] ≠ []; simp) 0
  have e1 : Txt.startswith w ⟨#[c]⟩ = true ↔ At w ⟨#[c]⟩ w.length 0 := by
    show (decide _ && _) = true ↔ (_ ∧ _)
    rw [Bool.and_eq_true, decide_eq_true_iff]
  rw [List.drop_zero] at key
  rw [Bool.eq_iff_iff, e1, key, decide_eq_true_iff]
  unfold pre
  cases tl w with
  | nil => simp
  | cons x r => simp
theorem ends1 (w : Str) (c : Nat) : Txt.endswith w ⟨#[c]⟩ = decide ((tl w).getLast? = some c) := by
  have e1 : Txt.endswith w ⟨#[c]⟩ = (decide (1 ≤ w.length) && Builtin.Str.subAt w ⟨#[c]⟩ (w.length - 1)) := by
    show (decide (0 + 1 ≤ w.length) && _) = _
    rfl
  rw [e1]
  by_cases h0 : tl w = []
  · have : w.length = 0 := by rw [len_tl, h0]; rfl
    rw [this, h0]
    rfl
  · have hl : 1 ≤ w.length := by
      rw [len_tl]
      exact List.length_pos_iff.mpr h0
    have key : At w ⟨#[c]⟩ w.length (w.length - 1) ↔ pre [c] ((tl w).drop (w.length - 1)) = true := at_iff (y := ⟨#[c]⟩) (by show [c] ≠ []; simp) _
    have e2 : At w ⟨#[c]⟩ w.length (w.length - 1) ↔ Builtin.Str.subAt w ⟨#[c]⟩ (w.length - 1) = true := ⟨fun h => h.2, fun h => ⟨by show w.length - 1 + 1 ≤ w.length; omega, h⟩⟩
    rw [decide_eq_true hl, Bool.true_and, Bool.eq_iff_iff, ← e2, key, decide_eq_true_iff]
    obtain ⟨l, x, hx⟩ : ∃ l x, tl w = l ++ [x] := ⟨_, _, (List.dropLast_concat_getLast h0).symm⟩
    have hn : w.length - 1 = l.length := by rw [len_tl, hx, List.length_append]; rfl
    rw [hn, hx, List.drop_left, List.getLast?_append]
    unfold pre
    simp
/-- what a line says -/
def lineNs (l : List Nat) : Option (List Int) := if l = [] then some [] else if (spl [32] 0 [] l).all writtenB = true then some ((spl [32] 0 [] l).map fun p => ((NumText.digitsVal p : Nat) : Int)) else none
theorem numL_head : ∀ n : Nat, 1 ≤ n → (numL n).head? ≠ some 48 := by
  intro n
  induction n using Nat.strongRecOn with
  | _ n ih =>
    intro h1
    by_cases h : n < 10
    · rw [numL_lt h]
      intro z
      have : 48 + n = 48 := Option.some.inj z
      omega
    · rw [numL_step (by omega), List.head?_append]
      have h2 := ih (n / 10) (by omega) (by omega)
      have h3 := numL_ne (n / 10)
      cases e : numL (n / 10) with
      | nil => exact absurd e h3
      | cons x r =>
        rw [e] at h2
        exact h2
theorem numL_written {n : Nat} (h : n ≤ 1000000000000) : writtenB (numL n) = true := by
  unfold writtenB
  rw [decide_eq_true (numL_ne n), Bool.true_and, decide_eq_true (numL_len (n := n) (k := 13) (by decide) (by omega)), Bool.and_true, Bool.and_eq_true]
  refine ⟨List.all_eq_true.mpr fun c hc => decide_eq_true (numL_digits n c hc), ?_⟩
  by_cases h0 : n = 0
  · subst h0
    decide +kernel
  · rw [decide_eq_false (numL_head n (by omega))]
    exact Bool.or_true _
theorem rowL_nil {r : List Int} (h : rowL r = []) : r = [] := by
  cases r with
  | nil => rfl
  | cons b t =>
    exfalso
    unfold rowL at h
    rw [List.map_cons] at h
    cases t with
    | nil => exact numL_ne _ h
    | cons c t =>
      have h : numL b.toNat ++ _ = [] := h
      exact numL_ne _ (List.append_eq_nil_iff.mp h).1
theorem nums_rowL {r : List Int} (hb : ∀ b ∈ r, 0 ≤ b ∧ b ≤ 1000000000000) : lineNs (rowL r) = some r := by
  unfold lineNs
  by_cases h : rowL r = []
  · rw [if_pos h, rowL_nil h]
  · rw [if_neg h]
    have hne : r.map (fun b => numL b.toNat) ≠ [] := fun z => h (by unfold rowL; rw [z]; rfl)
    have hs : spl [32] 0 [] (rowL r) = r.map fun b => numL b.toNat := spl_join hne fun p hp => by
      obtain ⟨b, _, rfl⟩ := List.mem_map.mp hp
      exact numL_free (by omega)
    rw [hs, if_pos (List.all_eq_true.mpr fun p hp => by
      obtain ⟨b, hbm, rfl⟩ := List.mem_map.mp hp
      exact numL_written (by have := hb b hbm; omega)), List.map_map]
    congr 1
    refine (List.map_congr_left fun b hbm => ?_).trans (List.map_id _)
    show ((NumText.digitsVal (numL b.toNat) : Nat) : Int) = b
    rw [numL_val]
    have := hb b hbm
    omega
theorem rowL_free {r : List Int} : 10 ∉ rowL r := by
  unfold rowL
  have : ∀ ps : List (List Nat), (∀ p ∈ ps, 10 ∉ p) → 10 ∉ joinL [32] ps := by
    intro ps
    induction ps with
    | nil => intro _ h; cases h
    | cons p ps ih =>
      intro h
      cases ps with
      | nil => exact h p List.mem_cons_self
      | cons q r =>
        intro m
        have m : 10 ∈ p ++ ([32] ++ joinL [32] (q :: r)) := m
        rcases List.mem_append.mp m with m | m
        · exact h p List.mem_cons_self m
        · rcases List.mem_append.mp m with m | m
          · have := List.mem_singleton.mp m
            omega
          · exact ih (fun x hx => h x (List.mem_cons_of_mem _ hx)) m
  refine this _ fun p hp => ?_
  obtain ⟨b, _, rfl⟩ := List.mem_map.mp hp
  exact numL_free (by omega)
theorem lines_shownL : ∀ rows : List (List Int), spl [10] 0 [] (shownL rows) = rows.map rowL ++ [[]]
  | [] => spl_nil _ _ _
  | r :: rows => by
    have h := spl_part1 (s := 10) (S := []) (acc := []) (p := rowL r) (rest := shownL rows) rowL_free
    have e : shownL (r :: rows) = rowL r ++ ([10] ++ shownL rows) := by
      unfold shownL
      rw [List.map_cons, List.flatten_cons, List.append_assoc]
    rw [e, List.map_cons]
    show spl [10] 0 [] (rowL r ++ ([10] ++ shownL rows)) = _
    rw [h, List.nil_append, lines_shownL rows]
    rfl
theorem last_shownL {rows : List (List Int)} (h : rows ≠ []) : (shownL rows).getLast? = some 10 := by
  obtain ⟨l, x, hx⟩ : ∃ l x, rows = l ++ [x] := ⟨_, _, (List.dropLast_concat_getLast h).symm⟩
  rw [hx]
  unfold shownL
  rw [List.map_append, List.flatten_append]
  show (_ ++ ([rowL x ++ [10]].flatten)).getLast? = _
  simp
section
variable {K : PySem.W.Frag} {σ : L2.St} {H : Hp} {te to ta tb : TE}
theorem el_slN {xs : List V} {lo hi : Option Int} {tlo thi : TO} (h : EvL te σ H xs) (h1 : EvO tlo σ H lo) (h2 : EvO thi σ H hi) : EvL (tSl (rSlL K) te tlo thi) σ H (cutV xs lo hi) := fun H1 e Q q => h H1 e _ fun a H2 ha e2 h0 =>
  el_sl (te := tC (.ref a)) (lo := lo) (hi := hi) ev_c (fun H3 e3 => h1 H3 ((e.trans e2).trans e3)) (fun H3 e3 => h2 H3 ((e.trans e2).trans e3)) (sq_of h0) H2 (Ex.refl _) _ fun p H3 hp e3 h3 => q p H3 (fresh_back e2 hp) (e2.trans e3) h3
theorem cut_last (xs : List V) : cutV xs none (some (-1)) = xs.dropLast := by
  unfold cutV
  rw [HT.sIx_none, List.drop_zero, List.dropLast_eq_take]
  congr 1
  have e : HT.sIx xs.length xs.length (some (-1)) = ((-1 : Int) + (xs.length : Int)).toNat := rfl
  rw [e]
  omega
end
theorem EvO.mono' {to : TO} {σ : L2.St} {H H' : Hp} {o : Option Int} (h : EvO to σ H o) (e : Ex H H') : EvO to σ H' o := fun H1 e1 Q q => h H1 (e.trans e1) Q q
theorem ev_slS {σ : L2.St} {H : Hp} {te : TE} {tlo thi : TO} {z : Str} {lo hi : Option Int} (h : Ev te σ H (.str z)) (h1 : EvO tlo σ H lo) (h2 : EvO thi σ H hi) (hz : z.length ≤ 100000) : Ev (tSl rSlS te tlo thi) σ H (.str (cutS z lo hi)) := fun H1 e Q q =>
  h H1 e _ fun H2 e2 => h1 H2 (e.trans e2) _ fun H3 e3 => h2 H3 ((e.trans e2).trans e3) _ fun H4 e4 => ⟨z, rfl, sz_of hz, q H4 ((e2.trans e3).trans e4)⟩
theorem len_app1 (l : Str) (c : Nat) : (l ++ ⟨#[c]⟩ : Str).length = l.length + 1 := by
  rw [len_tl, tl_append, List.length_append, ← len_tl]
  rfl
theorem len_app (l u : Str) : (l ++ u : Str).length = l.length + u.length := by
  rw [len_tl, tl_append, List.length_append, ← len_tl, ← len_tl]
theorem split_len {w y : Str} (hy : tl y = [32] ∨ tl y = [10]) : (Txt.split w y).length ≤ (tl w).length + 1 := by
  have key : ∀ (s : Nat) (l acc : List Nat), (spl [s] 0 acc l).length ≤ l.length + 1 := by
    intro s l
    induction l with
    | nil => intro acc; rw [spl_nil]; exact Nat.le_refl _
    | cons c r ih =>
      intro acc
      cases h : pre [s] (c :: r) with
      | true =>
        rw [spl_hit h]
        have := ih []
        show (spl [s] 0 [] r).length + 1 ≤ _
        rw [List.length_cons]
        omega
      | false =>
        rw [spl_miss h]
        have := ih (acc ++ [c])
        rw [List.length_cons]
        omega
  have hk : y.cps.all (· < 256) = true := by
    show _ = _
    rw [← Array.all_toList]
    rcases hy with h | h
    · have h : y.cps.toList = [32] := h
      rw [h]
      rfl
    · have h : y.cps.toList = [10] := h
      rw [h]
      rfl
  have := congrArg List.length (split_spl w y (by rcases hy with h | h <;> rw [h] <;> simp) (kind_ok hk))
  rw [List.length_map] at this
  rw [this]
  rcases hy with h | h <;> rw [h] <;> exact key _ _ _
theorem split_tl {w : Str} : (Txt.split w " ").map tl = spl [32] 0 [] (tl w) := split_spl w " " (by show ([32] : List Nat) ≠ []; simp) (kind_ok (by decide +kernel))
theorem split_nl {w : Str} : (Txt.split w "\n").map tl = spl [10] 0 [] (tl w) := split_spl w "\n" (by show ([10] : List Nat) ≠ []; simp) (kind_ok (by decide +kernel))
theorem spl_short (s : Nat) : ∀ (l acc : List Nat) (p : List Nat), p ∈ spl [s] 0 acc l → p.length ≤ acc.length + l.length
  | [], acc, p, h => by
    rw [spl_nil] at h
    rw [List.mem_singleton.mp h]
    exact Nat.le_add_right _ _
  | c :: r, acc, p, h => by
    cases e : pre [s] (c :: r) with
    | true =>
      rw [spl_hit e] at h
      rcases List.mem_cons.mp h with rfl | h
      · exact Nat.le_add_right _ _
      · have := spl_short s r [] p h
        rw [List.length_cons]
        have : p.length ≤ 0 + r.length := this
        omega
    | false =>
      rw [spl_miss e] at h
      have := spl_short s r (acc ++ [c]) p h
      rw [List.length_append] at this
      rw [List.length_cons]
      have : p.length ≤ acc.length + 1 + r.length := this
      omega
theorem word_int {w : Str} (h : writtenB (tl w) = true) : intText? w = some ((NumText.digitsVal (tl w) : Nat) : Int) ∧ w.length ≤ 640 := by
  unfold writtenB at h
  rw [Bool.and_eq_true, Bool.and_eq_true, Bool.and_eq_true] at h
  obtain ⟨⟨⟨h1, h2⟩, h3⟩, _⟩ := h
  have h3 := of_decide_eq_true h3
  have hl : w.length ≤ 13 := by rw [len_tl]; exact h3
  exact ⟨intText_digits (fun c hc => of_decide_eq_true (List.all_eq_true.mp h2 c hc)) (of_decide_eq_true h1) (by omega), by omega⟩
/-- words of a line, to be looked at -/
theorem ev_written {K : PySem.W.Frag} {σ : L2.St} {H : Hp} {a : Addr} {ws : List Str} {r : Sp} (hr : ∀ (w : Str) H1 (Q : VK), w.length ≤ 50000 → RetV (.bl (writtenB (tl w))) H1 Q → ∀ E, r [.str w] H1 Q E) (h0 : ∃ x z, σ = [x, some (.ref a), z]) (hA : SqL K H a (ws.map V.str)) (hz : ws.length ≤ 40000) (hw : ∀ w ∈ ws, w.length ≤ 50000) :
    Ev (tCB (rAll K) (tCons (tLc (iList K (tVar 1)) (gName 2) tYes (tCall r [] E0 (tCons (tVar 2) tNil)) [2]) tNil)) σ H (.bl ((ws.map tl).all writtenB)) := fun H1 e1 Q q => by
  obtain ⟨x, z, rfl⟩ := h0
  refine g_cb1 (el_all (K := K) (xs := ws) (enc := V.str) (fun w => .bl (writtenB (tl w))) (ev_var rfl) (ex_l e1 hA) hz (fun _ => rfl) (fun w hm H2 e2 => ev_call (ea_cons (ev_var rfl) ea_nil) fun H3 e3 Q q E => hr w H3 Q (hw w hm) (fun H4 e4 => q H4 e4) E) H1 (Ex.refl _) _ fun p H2 hp e2 h2 => ?_)
  refine ⟨p, ws.map fun w => writtenB (tl w), rfl, ?_, ?_⟩
  · rw [List.map_map]
    exact sq_of h2
  · have e : ((ws.map fun w => writtenB (tl w)).all id) = ((ws.map tl).all writtenB) := by
      rw [List.all_map, List.all_map]
      rfl
    rw [e]
    exact q H2 e2
theorem el_ints {K : PySem.W.Frag} {σ : L2.St} {H : Hp} {a : Addr} {ws : List Str} (h0 : ∃ x z, σ = [x, some (.ref a), z]) (hA : SqL K H a (ws.map V.str)) (hz : ws.length ≤ 40000) (hw : ∀ w ∈ ws, writtenB (tl w) = true) :
    EvL (tLc (iList K (tVar 1)) (gName 2) tYes (tCB (fun xs H Q => ∃ a n, xs = [.str a] ∧ intText? a = some n ∧ a.length ≤ 640 ∧ Q (.int n) H) (tCons (tVar 2) tNil)) [2]) σ H (((ws.map tl).map fun p => ((NumText.digitsVal p : Nat) : Int)).map V.int) := by
  obtain ⟨x, z, rfl⟩ := h0
  rw [List.map_map, List.map_map]
  refine el_all (K := K) (xs := ws) (enc := V.str) (fun w => .int ((NumText.digitsVal (tl w) : Nat) : Int)) (ev_var rfl) hA hz (fun _ => rfl) (fun w hm H2 e2 => ev_cb (ea_cons (ev_var rfl) ea_nil) fun H3 e3 Q q => ⟨w, _, rfl, (word_int (hw w hm)).1, (word_int (hw w hm)).2, q H3 (Ex.refl _)⟩)
end Tx

/-! Cr: name = [f(x) for x in ..] where f may raise. -/
namespace Cr
open PySem PySem.Spec PyProof.Rows L2 Evl Fs Xs Tx TL
section
variable {X : Cx} {pins : List (Addr × Obj)} {σ : L2.St} {H : Hp} {s : Shared}
theorem reXe {xe : Value → Shared → Prop} (I : Inv X pins σ H s) : Inv { X with xe := xe } pins σ H s :=
  ⟨⟨I.ok.mod, I.ok.kind, I.ok.glob, I.ok.blt, I.ok.above, I.ok.inj, I.ok.has, I.ok.cab, I.ok.hd, I.ok.frames, I.ok.stk, I.ok.exf, I.ok.bs, I.ok.bsz, I.ok.noex, I.ok.exfs, I.ok.funs, I.ok.frf⟩,
    I.os, I.bare, I.base, I.loc, I.cell, I.free, I.freeC, I.pin, I.hok, I.len⟩
/-- a comprehension's block in which a raise goes on in the def around -/
abbrev blkR (X : Cx) (s : Shared) (H : Hp) (scope : Scope) (cenv : Env) (fp : List Addr) (xe : Value → Shared → Prop) : Cx := { X.blk s H scope cenv fp with xe := xe }
theorem held_same {B h h' : Heap} {l : List Env} {e C L : Addr} {Z : Obj → Prop} {m m' : Str → Option Value} (hC : B.get? C = none) (hn : h.Ns C m) (hn' : h'.Ns C m') (sb : Heap.SameBut C h h') (x : HandSPX.HeldZ B l e Z L h) : HandSPX.HeldZ B l e Z L h' := by
  obtain ⟨st, ne, fr, oe, vs, T, oT, ts, he, hz, hd, h1, hbT, hTe, hT, hdT, h3⟩ := x
  have hne : ∀ {b : Addr} {o : Obj} {ws : Array Value}, h.get? b = some o → o.data = .fields ws → b ≠ C := fun e1 e2 z => by
    obtain ⟨oC, es, ep, hoC, hdC, _⟩ := hn
    subst z
    rw [e1] at hoC
    cases hoC
    rw [e2] at hdC
    cases hdC
  exact ⟨fun b o e1 => (sb.2 b fun z => by rw [z, hC] at e1; cases e1).trans (st b o e1), ne, Heap.FunFrames.sameBut sb hn' fr, oe, vs, T, oT, ts, (sb.2 _ (hne he hd)).trans he, hz, hd, h1, hbT, hTe, (sb.2 _ (hne hT hdT)).trans hT, hdT, h3⟩
/-- what is raised in the block goes on in the def -/
theorem block_passes {s3 : Shared} {H3 : Hp} {scope : Scope} {ce : Env} {fp : List Addr} {E : XK} (hs : X.stack = X.env :: X.outer) (hf : X.env.frame = some X.env.locals) (hcf : ce.frame = X.env.frame) (tk : Takes X (fun cls d _ H => E cls d H))
    (I3 : Inv X pins σ H3 s3) (hfp : ∀ b ∈ fp, FpOk X pins H3 b) (hC : s3.heap.objs.size ≤ ce.locals) :
    ∀ σ', PassesAt (L2.CX X.prog X.w) (blkR X s3 H3 scope ce fp (notedBy (model X.prog X.w) X.A ce (CompFails (model X.prog X.w) X.A X.xe ce))) σ' E := by
  intro σ' pins' H5 s5 u s6 Ib c
  obtain ⟨a, B, H', cls, d, rfl, fl, hok, ub, na, os, ag, hE⟩ := c
  generalize hL : ce.locals = C at hC
  have hCf : C ∉ frs X.stack := fun hm => by
    obtain ⟨_, o, ho, _⟩ := I3.stack.mem hm
    exact absurd (Nat.lt_of_lt_of_le (Heap.lt_size ho) hC) (Nat.lt_irrefl _)
  have n5 : H5 C = none := by
    have z : H5 ce.locals = none := Ib.free
    rwa [hL] at z
  obtain ⟨m, ⟨oC, es, ep, hoC, hdC, hrC⟩, _⟩ := Ib.loc
  have hoC : s5.heap.get? C = some oC := by rw [← hL]; exact hoC
  have bC : B.get? C = some oC := ub.keep C oC hoC n5 hCf
  have n' : H' C = none := ub.free C oC hoC n5
  have neC : ∀ {b : Addr} {o : Obj}, s3.heap.get? b = some o → b ≠ C := fun e z => by
    subst z
    exact absurd (Nat.lt_of_lt_of_le (Heap.lt_size e) hC) (Nat.lt_irrefl _)
  have gB : ∀ b o, B.get? b = some o → b ≠ C → (PySem.W.hideAll B [C]).get? b = some o := fun b o e ne => PySem.W.hideAll_get _ e fun hm => ne (List.mem_singleton.mp hm)
  have oB : ∀ b o, (PySem.W.hideAll B [C]).get? b = some o → B.get? b = some o := fun b o e => PySem.W.of_hideAll _ e
  have cB : (PySem.W.hideAll B [C]).get? C = none := PySem.W.hideAll_none _ List.mem_cons_self
  have nB : ∀ b, B.get? b = none → (PySem.W.hideAll B [C]).get? b = none := fun b e => by
    cases q : (PySem.W.hideAll B [C]).get? b with
    | none => rfl
    | some o => rw [oB b o q] at e; cases e
  generalize PySem.W.hideAll B [C] = B' at gB oB cB nB
  have hfr : X.A.frames = some (X.env :: X.outer) := by rw [I3.ok.frames, hs]
  have fl' : HandSPX.FlyingZ B' (X.env :: X.outer) a (Zc cls d) s6.heap := by
    rw [← hs]
    obtain ⟨f1, f2, f3, oe, vs, T, oT, ts, he, hz, hd, h1, hbT, hTe, hT, hdT, h3⟩ := fl
    exact ⟨fun b o e => f1 b o (oB b o e), nB a f2, funFrames_none f3 fun b hb => nB b (f3.mem hb).1, oe, vs, T, oT, ts, he, hz, hd, h1, nB T hbT, hTe, hT, hdT, h3⟩
  have hokB : HOk X.prog X.w H' B' := fun b ob e => (hok b ob e).stay (fun c w hc q => gB c w q fun z => by
    subst z
    rcases hc with hc | hc
    · rw [← hc, n'] at e; cases e
    · rw [n'] at hc; cases hc) (fun _ q => q) fun _ _ q => q
  show wpAny _ X.A (noteFrame (.ref a) ce) _ _ s6
  rw [noteFrame_env _ hcf]
  refine HandSPX.looks_onZ Zc.steady hfr hf fl' fun h1 held1 up1 => ?_
  have s6C : s6.heap.get? C = some oC := fl.1 C oC bC
  have ndC : ∀ vs, oC.data ≠ .fields vs := fun vs z => by rw [hdC] at z; cases z
  obtain ⟨slC, h1C⟩ := up1 C oC s6C ndC
  have ns1 : h1.Ns C m := ⟨_, es, ep, h1C, hdC, hrC⟩
  refine ⟨m, by rw [hL]; exact ns1, fun h2 m2 ns2 sb => ?_⟩
  rw [hL] at ns2 sb
  have held2 := held_same cB ns1 ns2 sb held1
  obtain ⟨oe, vs, T, oT, ts, he, hz, hd, hv1, r⟩ := held2.2.2.2
  unfold PySem.passOn
  refine wpAny_bind (wpAny_field he hd hv1 ?_)
  rw [if_neg (show ¬ ((Value.ref T == Value.none) = true) from by simp)]
  rw [hcf, hf]
  refine wpAny_bind (HandSPX.setFlight_onZ held2 fun h3 held3 up3 => ?_)
  refine wpAny_throw ?_
  refine tk _ _ ?_
  -- the state without the exception
  obtain ⟨G, g1, g2⟩ := restrict h3 fun b => (B'.get? b).isSome || decide (b ∈ frs X.stack)
  have st3 : B'.StaysIn h3 := held3.1
  have gB' : ∀ b o, B'.get? b = some o → G.get? b = some o := fun b o e => by
    rw [g1 b (by simp [e])]
    exact st3 b o e
  have gF : ∀ b, b ∈ frs X.stack → G.get? b = h3.get? b := fun b hb => g1 b (by simp [hb])
  have og : ∀ b o, G.get? b = some o → h3.get? b = some o ∧ ((B'.get? b).isSome = true ∨ b ∈ frs X.stack) := fun b o e => by
    cases q : ((B'.get? b).isSome || decide (b ∈ frs X.stack)) with
    | false => rw [g2 b q] at e; cases e
    | true =>
      rw [g1 b q] at e
      exact ⟨e, by simpa [Bool.or_eq_true] using q⟩
  have base : Un (frs X.stack) fp H3 H5 s3.heap s5.heap := Ib.base
  have hslot : ∀ b o, s3.heap.get? b = some o → H3 b = none → b ∈ frs X.stack → b ∉ C :: fp → ∃ sl, G.get? b = some { o with slots := sl } := fun b o e n hb hx => by
    obtain ⟨_, o', e', hnf⟩ := I3.stack.mem hb
    rw [e] at e'; cases e'
    obtain ⟨sl, e1⟩ := base.slot b o e n hb fun z => hx (List.mem_cons_of_mem _ z)
    obtain ⟨sl2, e2⟩ := ub.slot b _ e1 hb
    obtain ⟨sl3, e3⟩ := up1 b _ e2 hnf
    have e4 := (sb.2 b (neC e)).trans e3
    obtain ⟨sl4, e5⟩ := up3 b _ e4 hnf
    exact ⟨sl4, by rw [gF b hb]; exact e5⟩
  refine ⟨a, B', { s3 with heap := G, gens := s6.gens, drawn := s6.drawn, toks := s6.toks }, pins, σ, H', cls, d, rfl, ?_, fun b o e hb => ?_, Heap.UpToSlots.of_keeps fun b o e => (og b o e).1, .inr (.inr (by rw [hs]; exact held3)), na, ?_, ag, hE⟩
  · refine I3.call (ch := C :: fp) ⟨fun b o e n hb hx => ?_, hslot, fun b o e n hx => ?_, fun b o e hx => ?_, fun b xs e => ub.tups b xs (base.tups b xs e), fun b o xs e => ub.frzs b o xs (base.frzs b o xs e), fun b ps e => ?_⟩ (hokB.kept gB') ag fun b hb => ?_
    · have hx' : b ∉ fp := fun z => hx (List.mem_cons_of_mem _ z)
      exact gB' b o (gB b o (ub.keep b o (base.keep b o e n hb hx') (base.free b o e n hx') hb) (neC e))
    · have hx' : b ∉ fp := fun z => hx (List.mem_cons_of_mem _ z)
      obtain ⟨o', e'⟩ := base.there b o e hx'
      exact ub.free b o' e' (base.free b o e n hx')
    · have hx' : b ∉ fp := fun z => hx (List.mem_cons_of_mem _ z)
      by_cases hb : b ∈ frs X.stack
      · obtain ⟨sl, q⟩ := hslot b o e (I3.stkFree b hb) hb hx
        exact ⟨_, q⟩
      · obtain ⟨o', e'⟩ := base.there b o e hx'
        obtain ⟨o2, e2⟩ := ub.there b o' e' hb
        exact ⟨o2, gB' b o2 (gB b o2 e2 (neC e))⟩
    · obtain ⟨m1, e1⟩ := base.tbls b ps e
      obtain ⟨m2, e2⟩ := ub.tbls b _ e1
      exact ⟨m1 ++ m2, by rw [e2, Array.append_assoc]⟩
    · rcases List.mem_cons.mp hb with rfl | hb
      · obtain ⟨f0, f1, f2, f3, f4, f5⟩ := I3.fpOk (H' := H') hC n'
        exact ⟨f3, f1, f4, f5⟩
      · obtain ⟨f0, f1, f2, f3, f4, f5⟩ := hfp b hb
        exact ⟨f3, f1, f4, f5⟩
  · obtain ⟨e', h⟩ := og b o e
    rcases h with h | h
    · obtain ⟨o', q⟩ := Option.isSome_iff_exists.mp h
      have z := st3 b o' q
      rw [e'] at z; cases z
      exact q
    · exact absurd h hb
  · show s6.os = s3.os
    rw [os]
    exact Ib.os
/-- name = [..] on one line, its element may raise -/
theorem ps_setLcG {CX : CXT} {E : XK} {i : Nat} {y : Str} {py : Pos} {elt tg iter : Expr} {ifs : List Expr} {scope : Scope} {own : List (Str × Nat)} {pos spos : Pos} {wi : TI} {g : TG} {tt : TT} {te : TE}
    (hpas : ∀ (pins : List (Addr × Obj)) (σ : L2.St) (s3 : Shared) (H3 : Hp) (ce : Env) (fp : List Addr), ce.frame = X.env.frame → Inv X pins σ H3 s3 → (∀ b ∈ fp, FpOk X pins H3 b) → s3.heap.objs.size ≤ ce.locals →
      ∀ σ', PassesAt CX (blkR X s3 H3 scope ce fp (notedBy (model X.prog X.w) X.A ce (CompFails (model X.prog X.w) X.A X.xe ce))) σ' E) (hc : X.calm = true) (hN : X.N.Nodup) (hy : X.N[i]? = some y) (hyl : X.env.scope.names.lookup y = some .local)
    (hsw : swapsWith (.ListComp elt [⟨tg, iter, ifs, 0⟩] scope pos) (some (.Name y py)) spos.line X.env = pure true) (hi : PI X tg iter wi) (ok : BlkOk X.N X.env.scope scope own)
    (hg : ∀ (s : Shared) (H : Hp) (C : Addr) (cl : List (Str × Addr)) (fp : List Addr) (xe : Value → Shared → Prop), PG (blkR X s H scope (compEnvC scope cl C X.env) fp xe) tg g)
    (ht : ∀ (s : Shared) (H : Hp) (C : Addr) (cl : List (Str × Addr)) (fp : List Addr) (xe : Value → Shared → Prop), PTs (blkR X s H scope (compEnvC scope cl C X.env) fp xe) ifs tt)
    (he : ∀ (s : Shared) (H : Hp) (C : Addr) (cl : List (Str × Addr)) (fp : List Addr) (xe : Value → Shared → Prop), (∀ σ, PassesAt CX (blkR X s H scope (compEnvC scope cl C X.env) fp xe) σ E) → PE (blkR X s H scope (compEnvC scope cl C X.env) fp xe) elt te)
    (hfs : ∀ x, foldedSetIterable iter X.env x = pure x := by intro _; rfl) :
    PS X (.Assign [.Name y py] (.ListComp elt [⟨tg, iter, ifs, 0⟩] scope pos) spos) (tAsg (tLc wi g tt te (own.map (·.2))) (gName i)) := by
  refine ⟨fun pins s σ H D I h => ?_⟩
  have h : tLc wi g tt te (own.map (·.2)) σ H (fun x H1 => gName i x σ H1 D.nx) := h
  rw [exec_Assign_Name_used _ _ _ _ hsw]
  refine wpAny_bind (wpAny_standAt (wpAny_bind ?_))
  show wpAny _ X.A (do let _ ← comprehension (.ListComp elt [⟨tg, iter, ifs, 0⟩] scope pos) scope X.env (firstIterPos [⟨tg, iter, ifs, 0⟩] pos) (newList []) false (eval iter X.env) (some (assign (.Name y py) X.env))) _ _ s
  refine wpAny_bind (thn (Q := fun _ s' => SP X pins D .next s') ?_ fun _ s' hq => wpAny_pure (wpAny_pure hq))
  have hfree : ∀ z ∈ scope.names, z.2 = .free → ∃ c, X.env.cells.lookup z.1 = some c := fun z hz e => I.ok.has _ ((ok.free z hz e).elim .inl .inr)
  refine comprehension_at (use := some (assign (.Name y py) X.env)) rfl hfs (closure_ok hfree) ok.kind (fun z hz e => by rw [ok.uniq z hz, e]) (thn (hi.run pins s σ H _ I h) fun xv s1 hx => thn hx fun itv s2 h2 => ?_)
  obtain ⟨it, fp, tn, J, H2, rfl, I2, T, st2, f2, q⟩ := h2
  refine wpAny_newObj_type (newEnv_comp ?_) (by show 0 ≤ sizeLine; decide)
  generalize hD : s2.heap.objs.size = L
  have hLn : H2 L = none := I2.hok.fresh (Nat.le_of_eq hD)
  obtain ⟨W, ⟨m0, w0⟩, turn⟩ := q L hLn
  have ex3 : ∀ b o, s2.heap.get? b = some o → (s2.heap.push { cls := .type "list", data := .seq ([] : List Value).toArray }).get? b = some o := fun b o e => Heap.get?_push_of_some _ e
  have I3 : Inv X pins σ (upd H2 L (.lst [])) { s2 with heap := s2.heap.push { cls := .type "list", data := .seq ([] : List Value).toArray } } :=
    I2.laid (t' := s2.toks) ex3 (Nat.le_of_eq hD) ⟨Nat.zero_le _, [], 0, .nil, by rw [← hD]; exact Heap.get?_push_size _ rfl⟩
  have f3 : ∀ b ∈ fp, FpOk X pins (upd H2 L (.lst [])) b ∧ b < (s2.heap.push { cls := .type "list", data := .seq ([] : List Value).toArray }).objs.size := fun b hb => by
    obtain ⟨o, e, _⟩ := T.obj _ _ st2 b hb
    have hlt := Heap.lt_size e
    exact ⟨⟨by rw [upd_ne (by rw [← hD]; exact Nat.ne_of_lt hlt)]; exact (f2 b hb).1, (f2 b hb).2⟩, by rw [Heap.size_push]; exact Nat.lt_succ_of_lt hlt⟩
  have st3 := T.keep _ _ _ st2 fun b _ o e => ex3 b o e
  generalize hs3 : ({ s2 with heap := s2.heap.push { cls := .type "list", data := .seq ([] : List Value).toArray } } : Shared) = s3 at I3
  have hh3 : s2.heap.push { cls := .type "list", data := .seq ([] : List Value).toArray } = s3.heap := by rw [← hs3]
  rw [hh3] at f3 st3
  have I4 := block_start I3 ok hN f3
  have nfp : ∀ b ∈ fp, (upd H2 L (.lst [])) b = none := fun b hb => (f3 b hb).1.1
  generalize hcl : cellsFrom (s3.heap.objs.size + 1) scope.names (cloFrom X.env.cells scope.names []) = cl at I4
  have hend : codeAny (model X.prog X.w) X.A (.compStart (.ListComp elt [⟨tg, iter, ifs, 0⟩] scope pos) 0 (.ref it) (.ref L) (compEnvC scope cl s3.heap.objs.size X.env))
      (compEnds (model X.prog X.w) X.A X.xe (some (assign (.Name y py) X.env)) (fun _ s' => SP X pins D .next s') (.ref L) (compEnvC scope cl s3.heap.objs.size X.env)) { s3 with heap := pushCells (s3.heap.push { cls := .type "dict", data := .dict #[] }) scope.names } := by
    generalize hce : compEnvC scope cl s3.heap.objs.size X.env = ce at I4
    have cL : ce.locals = s3.heap.objs.size := by subst hce; rfl
    have cF : ce.frame = X.env.frame := by subst hce; rfl
    generalize hH3 : upd H2 L (.lst []) = H3 at I3 I4 w0 nfp f3
    generalize hs4 : ({ s3 with heap := pushCells (s3.heap.push { cls := .type "dict", data := .dict #[] }) scope.names } : Shared) = s4 at I4 ⊢
    have st4 : tn 0 s4.heap := T.keep _ _ _ st3 fun b _ o e => by rw [← hs4]; exact pushCells_keeps _ _ _ _ (Heap.get?_push_of_some _ e)
    have pas := hpas pins σ s3 H3 ce fp cF I3 (fun b hb => (f3 b hb).1) (Nat.le_of_eq cL.symm)
    have pg := hg s3 H3 s3.heap.objs.size cl fp (notedBy (model X.prog X.w) X.A ce (CompFails (model X.prog X.w) X.A X.xe ce))
    have pt := ht s3 H3 s3.heap.objs.size cl fp (notedBy (model X.prog X.w) X.A ce (CompFails (model X.prog X.w) X.A X.xe ce))
    have pe := he s3 H3 s3.heap.objs.size cl fp (notedBy (model X.prog X.w) X.A ce (CompFails (model X.prog X.w) X.A X.xe ce))
    rw [hce] at pg pt pe
    have pe := pe pas
    have I4 : Inv (blkR X s3 H3 scope ce fp (notedBy (model X.prog X.w) X.A ce (CompFails (model X.prog X.w) X.A X.xe ce))) [] (wipe σ (own.map (·.2))) H3 s4 := reXe I4
    generalize hXr : blkR X s3 H3 scope ce fp (notedBy (model X.prog X.w) X.A ce (CompFails (model X.prog X.w) X.A X.xe ce)) = Xr at pg pt pe I4
    have r1 : Xr.prog = X.prog := by rw [← hXr]
    have stat : ∀ {σ' : L2.St} {H' : Hp} {s' : Shared}, Inv Xr [] σ' H' s' → (∀ b ∈ fp, H' b = none) → ∀ b ∈ fp, FpOk Xr [] H' b := by
      subst hXr
      exact fun {σ' H' s'} I' hn b hb => ⟨hn b hb, (I'.ok.exf b hb).1, I'.ok.exfs b hb, .inl hb, fun x c e => (I'.ok.exf b hb).2 x c e, fun p hp => by cases hp⟩
    have loop : codeAny (model X.prog X.w) X.A (.compLoop (.ListComp elt [⟨tg, iter, ifs, 0⟩] scope pos) 0 (.ref it) (.ref L) ce)
        (compEnds (model X.prog X.w) X.A X.xe (some (assign (.Name y py) X.env)) (fun _ s' => SP X pins D .next s') (.ref L) ce) s4 := by
      refine compLoop_any (fun n s' => ∃ i H', Inv Xr [] (wipe σ (own.map (·.2))) H' s' ∧ tn i s'.heap ∧ (∀ b ∈ fp, H' b = none) ∧ W i n H') ?_ m0 ⟨0, H3, I4, st4, nfp, w0⟩
      rintro n s5 ⟨j, H5, I5, st5, n5, w5⟩
      rcases turn j n H5 w5 with ⟨stop, qq⟩ | ⟨go, Nx, hNx, step⟩
      · have td := T.done Xr (by rw [← hXr]) (by rw [← hXr]) (by rw [← hXr]) (by rw [← hXr]; exact hc) j [] s5 _ H5 (fun _ _ => False) I5 (stat I5 n5) st5 stop
        subst hXr
        refine thnF td fun r s6 ⟨hr, I6⟩ => ?_
        subst hr
        have I7 : Inv X pins σ H5 s6 := I3.call' (ch := fp) I6.os I6.base I6.hok I6.bare fun b hb => ⟨(f3 b hb).1.2.2.2.1, (f3 b hb).1.2.1, (f3 b hb).1.2.2.2.2.1, (f3 b hb).1.2.2.2.2.2⟩
        have nC : H5 ce.locals = none := I6.free
        obtain ⟨m, hn, _⟩ := I6.loc
        have hn : s6.heap.Ns ce.locals m := hn
        obtain ⟨f0, f1, f2', f3', f4, f5⟩ := I3.fpOk (Nat.le_of_eq cL.symm) nC
        show wpAny _ _ (assign (.Name y py) X.env (.ref L)) _ _ _
        refine wpAny_assign_Name (store_ok2 (v := V.ref L) I7 hN hy (.inl hyl) rfl (fun s2 J2 ⟨b, sb, hb⟩ => ?_) (.inr hyl))
        have hCb : ce.locals ≠ b := by
          rcases hb with z | z
          · rw [z]; exact f1
          · exact fun e => f4 y b z e.symm
        exact ⟨m, hn.sameBut sb hCb, fun h3 sb3 => ⟨_, H5, J2.turned (t' := s2.toks) (fun b o hb e => (sb3.2 b hb).trans e) f0 f1 f3' f4 f5, qq⟩⟩
      · have ti := T.item Xr (by rw [← hXr]) (by rw [← hXr]) (by rw [← hXr]) (by rw [← hXr]; exact hc) j [] s5 _ H5 (fun _ _ => False) I5 (stat I5 n5) st5 go
        subst hXr
        refine thnF ti fun r s6 ⟨u, hr, h6⟩ => ?_
        subst hr
        refine thnF h6 fun _ s7 ⟨x, H7, I7, r7, y7, st7, n7⟩ => ?_
        have I7' := I7.pinned (stat I7 n7) (T.obj _ _ st7)
        refine thn (pg.run _ s7 _ H7 x u _ I7' r7 (step x H7 y7)) fun _ s8 ⟨σ8, H8, I8, hw8, q8⟩ => ?_
        refine thn (pt.run _ s8 σ8 H8 _ I8 q8) fun b s9 ⟨H9, I9, q9⟩ => ?_
        have fin : ∀ {s' : Shared} {H' : Hp}, Inv (blkR X s3 H3 scope ce fp (notedBy (model X.prog X.w) X.A ce (CompFails (model X.prog X.w) X.A X.xe ce))) ([] ++ pinsAt fp s7.heap) σ8 H' s' → Nx H' →
            ∃ m, m < n ∧ ∃ i H', Inv (blkR X s3 H3 scope ce fp (notedBy (model X.prog X.w) X.A ce (CompFails (model X.prog X.w) X.A X.xe ce))) [] (wipe σ (own.map (·.2))) H' s' ∧ tn i s'.heap ∧ (∀ b ∈ fp, H' b = none) ∧ W i m H' := fun {s' H'} I' nx => by
          obtain ⟨m', hm, w'⟩ := hNx H' nx
          have pin' : ∀ b ∈ fp, ∀ o, s7.heap.get? b = some o → s'.heap.get? b = some o ∧ H' b = none := fun b hb o e =>
            let z := I'.pin (b, o) (List.mem_append_right _ (List.mem_append_right _ (mem_pinsAt hb e)))
            ⟨z.1, z.2.1⟩
          have hl : (wipe σ (own.map (·.2))).length = σ8.length := by rw [← hw8, wipe_length]
          refine ⟨m', hm, j + 1, H', (I'.unpinned (pins := [])).weak hl (fun k v e => ?_), T.keep _ _ _ st7 fun b hb o e => (pin' b hb o e).1, fun b hb => ?_, w'⟩
          · rw [← hw8] at e
            exact (wipe_some e).1
          · obtain ⟨o, e, _⟩ := T.obj _ _ st7 b hb
            exact (pin' b hb o e).2
        cases b with
        | false =>
          simp only [Bool.false_eq_true, if_false] at q9 ⊢
          exact fin I9 q9
        | true =>
          simp only [if_true] at q9 ⊢
          refine thn (pe.run _ s9 σ8 H9 _ I9 q9) fun z s10 ⟨yv, H10, I10, r10, acc, hD10, hz10, nx⟩ => ?_
          exact app_ok (X := blkR X s3 H3 scope ce fp (notedBy (model X.prog X.w) X.A ce (CompFails (model X.prog X.w) X.A X.xe ce))) I10 hD10 hz10 r10 fun s11 I11 => fin I11 nx
    exact codeAny_compStart_list loop (T.self X.A 0 _ _ _ st4 loop)
  exact hend
/-- name = [..] on one line, its element may raise -/
theorem ps_setLcX {E : XK} {i : Nat} {y : Str} {py : Pos} {elt tg iter : Expr} {ifs : List Expr} {scope : Scope} {own : List (Str × Nat)} {pos spos : Pos} {wi : TI} {g : TG} {tt : TT} {te : TE}
    (hs : X.stack = X.env :: X.outer) (hf : X.env.frame = some X.env.locals) (tk : Takes X (fun cls d _ H => E cls d H)) (hc : X.calm = true) (hN : X.N.Nodup) (hy : X.N[i]? = some y) (hyl : X.env.scope.names.lookup y = some .local)
    (hsw : swapsWith (.ListComp elt [⟨tg, iter, ifs, 0⟩] scope pos) (some (.Name y py)) spos.line X.env = pure true) (hi : PI X tg iter wi) (ok : BlkOk X.N X.env.scope scope own)
    (hg : ∀ (s : Shared) (H : Hp) (C : Addr) (cl : List (Str × Addr)) (fp : List Addr) (xe : Value → Shared → Prop), PG (blkR X s H scope (compEnvC scope cl C X.env) fp xe) tg g)
    (ht : ∀ (s : Shared) (H : Hp) (C : Addr) (cl : List (Str × Addr)) (fp : List Addr) (xe : Value → Shared → Prop), PTs (blkR X s H scope (compEnvC scope cl C X.env) fp xe) ifs tt)
    (he : ∀ (s : Shared) (H : Hp) (C : Addr) (cl : List (Str × Addr)) (fp : List Addr) (xe : Value → Shared → Prop), (∀ σ, PassesAt (L2.CX X.prog X.w) (blkR X s H scope (compEnvC scope cl C X.env) fp xe) σ E) → PE (blkR X s H scope (compEnvC scope cl C X.env) fp xe) elt te)
    (hfs : ∀ x, foldedSetIterable iter X.env x = pure x := by intro _; rfl) :
    PS X (.Assign [.Name y py] (.ListComp elt [⟨tg, iter, ifs, 0⟩] scope pos) spos) (tAsg (tLc wi g tt te (own.map (·.2))) (gName i)) :=
  ps_setLcG (CX := L2.CX X.prog X.w) (E := E) (fun pins σ s3 H3 ce fp h1 h2 h3 h4 => block_passes hs hf h1 tk h2 h3 h4) hc hN hy hyl hsw hi ok hg ht he hfs
end
section
variable {K : PySem.W.Frag} {H : Hp} {a : Addr}
/-- [te for x in xs], each te a new list, or a raise -/
theorem en_opt {α : Type} {σ : L2.St} {te tl : TE} {j : Nat} {vs : List Nat} {xs : List α} {enc : α → V} {os : List (Option (List V))} (h : Ev tl σ H (.ref a)) (hx : SqL K H a (xs.map enc)) (hz : xs.length ≤ 40000) (hl : os.length = xs.length)
    (hw : ∀ x, wipe ((wipe σ vs).set j (some x)) vs = wipe σ vs)
    (he : ∀ (i : Nat) (x : α) (y : List V) H1, xs[i]? = some x → os[i]? = some (some y) → Ex H H1 → EvL te ((wipe σ vs).set j (some (enc x))) H1 y)
    (hn : ∀ (i : Nat) (x : α) H1, xs[i]? = some x → os[i]? = some none → Ex H H1 → ∀ Q : VK, te ((wipe σ vs).set j (some (enc x))) H1 Q)
    {Q : VK} (q : ∀ ys : List (List V), os = ys.map some → ∀ p ps H2, LNew H H2 p ps ys → Ex H H2 → Q (.ref p) H2) : tLc (iList K tl) (gName j) tYes te vs σ H Q := by
  refine h H (Ex.refl H) _ fun H1 e1 => ⟨a, rfl, ⟨_, ex_l e1 hx⟩, fun D hD => ?_⟩
  refine lc_list (K := K) (a := a) (xs := xs.map enc) (fun i H' => ∃ (ys : List (List V)) (ps : List Addr), os.take i = ys.map some ∧ Ex H1 H' ∧ LNew H1 H' D ps ys) ⟨[], [], by simp, Ex.new hD, hD, upd_same, by simp, by simp, fun i q y h1 => by simp at h1⟩
    (fun i H' _ p => ex_l (e1.trans p.choose_spec.choose_spec.2.1) hx) (fun i x H' hi p => ?_) (fun H' p => ?_)
  · obtain ⟨ys, ps, et, ex, L⟩ := p
    rw [List.getElem?_map] at hi
    cases ei : xs[i]? with
    | none =>
      rw [ei] at hi
      cases hi
    | some y =>
      rw [ei] at hi
      obtain rfl : enc y = x := Option.some.inj hi
      have hil : i < xs.length := (List.getElem?_eq_some_iff.mp ei).1
      have hio : i < os.length := by omega
      have eo : os[i]? = some os[i] := List.getElem?_eq_getElem hio
      have e12 : os.take (i + 1) = os.take i ++ [os[i]] := by
        rw [List.take_add_one, eo]
        rfl
      have lys : ys.length = i := by
        have := congrArg List.length et
        rw [List.length_take, List.length_map] at this
        omega
      refine ⟨hw _, iteT (B := ∃ (ys : List (List V)) (ps : List Addr), os.take (i + 1) = ys.map some ∧ Ex H1 H' ∧ LNew H1 H' D ps ys) ?_⟩
      cases eoi : os[i] with
      | none =>
        rw [eoi] at eo
        exact hn i y H' ei eo (e1.trans ex) _
      | some z =>
        rw [eoi] at eo e12
        refine he i y z H' ei eo (e1.trans ex) H' (Ex.refl H') _ fun p H2 hp e2 h2 => ⟨ps.map V.ref, e2 _ _ L.top, sz_lt ?_, ys ++ [z], ps ++ [p], by rw [e12, et, List.map_append]; rfl, Ex.mut (ex.trans e2) hD, L.push ex e2 hp h2⟩
        have := L.len
        rw [List.length_map]
        omega
  · obtain ⟨ys, ps, et, ex, L⟩ := p
    have e3 : os.take (xs.map enc).length = os := by rw [List.length_map, ← hl, List.take_length]
    rw [e3] at et
    exact q ys et D ps H' (L.back e1) (e1.trans ex)
theorem q_asgO {α : Type} {σ : L2.St} {te tl : TE} {i j : Nat} {vs : List Nat} {tz : TS} {D : Ends} {xs : List α} {enc : α → V} {os : List (Option (List V))} (h : Ev tl σ H (.ref a)) (hx : SqL K H a (xs.map enc)) (hz : xs.length ≤ 40000) (hl : os.length = xs.length)
    (hw : ∀ x, wipe ((wipe σ vs).set j (some x)) vs = wipe σ vs)
    (he : ∀ (i : Nat) (x : α) (y : List V) H1, xs[i]? = some x → os[i]? = some (some y) → Ex H H1 → EvL te ((wipe σ vs).set j (some (enc x))) H1 y)
    (hn : ∀ (i : Nat) (x : α) H1, xs[i]? = some x → os[i]? = some none → Ex H H1 → ∀ Q : VK, te ((wipe σ vs).set j (some (enc x))) H1 Q)
    (q : ∀ ys : List (List V), os = ys.map some → ∀ p ps H2, LNew H H2 p ps ys → Ex H H2 → tz D (σ.set i (some (.ref p))) H2) : tSeq (tAsg (tLc (iList K tl) (gName j) tYes te vs) (gName i)) tz D σ H :=
  en_opt (Q := fun x H2 => tz D (σ.set i (some x)) H2) h hx hz hl hw he hn q
/-- a call that may raise, in an element -/
theorem el_callS {sp : Sp} {E : L2.St → XK} {σ : L2.St} {vs xs : List V} {ta : TA} (h : EvA ta σ H vs) (hs : ∀ H1, Ex H H1 → ∀ Q : VK, RetL xs H1 Q → sp vs H1 Q (E σ)) : EvL (tCallS sp E ta) σ H xs := fun H1 e Q q =>
  h H1 e _ fun H2 e2 => hs H2 (e.trans e2) Q fun p H3 hp e3 h3 => q p H3 (fresh_back e2 hp) (e2.trans e3) h3
end
theorem units65 {k : Nat} {A : Around} (r : Room k A) : A.units + 65 < cLine := by
  have := r.un
  omega
theorem inDK {X : Cx} {K : PySem.W.Frag} (hu : X.A.units + 65 < cLine) (hK : X.K = K := by rfl) : OpR X (compareOp .In) (rInD K) := by
  subst hK
  exact op_inD hu
/-! ### what a text says -/
def allSome {α : Type} : List (Option α) → Option (List α)
  | [] => some []
  | none :: _ => none
  | some x :: t => (allSome t).map (x :: ·)
theorem allSome_map {α : Type} : ∀ xs : List α, allSome (xs.map some) = some xs
  | [] => rfl
  | x :: t => by
    show (allSome (t.map some)).map (x :: ·) = _
    rw [allSome_map t]
    rfl
theorem allSome_of {α : Type} : ∀ {os : List (Option α)} {xs : List α}, allSome os = some xs → os = xs.map some
  | [], xs, h => by
    obtain rfl := Option.some.inj h
    rfl
  | none :: _, xs, h => by cases h
  | some x :: t, xs, h => by
    have h : (allSome t).map (x :: ·) = some xs := h
    cases e : allSome t with
    | none => rw [e] at h; cases h
    | some ys =>
      rw [e] at h
      obtain rfl := Option.some.inj h
      rw [allSome_of e]
      rfl
theorem allSome_none {α : Type} : ∀ {os : List (Option α)} {i : Nat}, os[i]? = some none → allSome os = none
  | [], i, h => by simp at h
  | none :: _, _, _ => rfl
  | some x :: t, 0, h => by simp at h
  | some x :: t, i + 1, h => by
    show (allSome t).map (x :: ·) = none
    rw [allSome_none (i := i) h]
    rfl
def endB (l : List Nat) : Bool := decide (l = []) || decide (l.getLast? = some 10)
def linesT (l : List Nat) : List (List Nat) := (spl [10] 0 [] l).dropLast
def rowsO (l : List Nat) : Option (List (List Int)) := if endB l = true then allSome ((linesT l).map lineNs) else none
def dueT (l : List Nat) : Nat := match rowsO l with
  | none => 8
  | some rows => dueB (iv rows)
theorem dueT_8 {l : List Nat} (h : rowsO l = none) : dueT l = 8 := by
  unfold dueT
  rw [h]
theorem dueT_some {l : List Nat} {rows : List (List Int)} (h : rowsO l = some rows) : dueT l = dueB (iv rows) := by
  unfold dueT
  rw [h]
section
variable {K : PySem.W.Frag} {H : Hp} {σ : L2.St} {D : Ends} {tu tz : TS} {te : TE} {z : Str} {j : Nat}
/-- a text, sign by sign: p is behind -/
theorem s_forS (h : Ev te σ H (.str z)) (Pv : List Nat → L2.St → Hp → Prop) (h0 : ∀ H1, Ex H H1 → Pv [] σ H1)
    (hs : ∀ p c r σ' H', tl z = p ++ c :: r → Pv p σ' H' → tu { D with nx := Pv (p ++ [c]), ct := Pv (p ++ [c]), bk := D.nx } (σ'.set j (some (.str ⟨#[c]⟩))) H') (hd : ∀ σ' H', Pv (tl z) σ' H' → D.nx σ' H') : tFor (iStr te) (gName j) tu D σ H :=
  h H (Ex.refl H) _ fun H1 e => ⟨z, rfl, for_it walk_str (fun i σ H => Pv ((tl z).take i) σ H) (by rw [List.take_zero]; exact h0 H1 e) (fun _ _ _ _ _ => trivial) (fun i x σ' H' H2 hi p y => by
    obtain ⟨eh, c, hc, rfl⟩ := y
    rw [eh]
    have hc : (tl z)[i]? = some c := by
      rw [← hc]
      exact Array.getElem?_toList
    have hil : i < (tl z).length := (List.getElem?_eq_some_iff.mp hc).1
    have e1 : (tl z).take (i + 1) = (tl z).take i ++ [c] := by
      rw [List.take_add_one, hc]
      rfl
    have e2 : tl z = (tl z).take i ++ c :: (tl z).drop (i + 1) := by
      have h1 := List.take_append_drop i (tl z)
      rw [List.drop_eq_getElem_cons hil] at h1
      have : (tl z)[i] = c := by
        rw [List.getElem?_eq_getElem hil] at hc
        exact Option.some.inj hc
      rw [this] at h1
      exact h1.symm
    have := hs _ c _ σ' H' e2 p
    rw [← e1] at this
    exact this) (fun σ' H' p => hd σ' H' (by
    have e3 : (tl z).take z.cps.size = tl z := by
      rw [← Array.length_toList]
      exact List.take_length
    rwa [e3] at p))⟩
theorem q_forS (h : Ev te σ H (.str z)) (Pv : List Nat → L2.St → Hp → Prop) (h0 : ∀ H1, Ex H H1 → Pv [] σ H1)
    (hs : ∀ p c r σ' H', tl z = p ++ c :: r → Pv p σ' H' → tu { D with nx := Pv (p ++ [c]), ct := Pv (p ++ [c]), bk := tz D } (σ'.set j (some (.str ⟨#[c]⟩))) H') (hd : ∀ σ' H', Pv (tl z) σ' H' → tz D σ' H') : tSeq (tFor (iStr te) (gName j) tu) tz D σ H :=
  s_forS (D := { D with nx := tz D }) h Pv h0 hs hd
/-- what is put behind a list, told by P -/
theorem s_appP {l : Addr} {xs : List V} {ta te : TE} {P : V → Hp → Prop} (hl : H l = some (.lst xs)) (ha : Ev ta σ H (.ref l)) (hz : xs.length < 100000) (h : ∀ H1, Ex H H1 → ∀ Q : VK, (∀ v H2, Ex H H2 → P v H2 → Q v H2) → te σ H1 Q)
    (k : ∀ v H2, Ex H H2 → P v H2 → D.nx σ (upd H2 l (.lst (xs ++ [v])))) : tDrop (tBM K "list" rAppend ta (tCons te tNil)) D σ H := ha H (Ex.refl H) _ fun H1 e1 =>
  ⟨Or.inl ⟨rfl, xs, sq_of (e1 l _ hl)⟩, h H1 e1 _ fun v H2 e2 p => ⟨l, xs, v, rfl, rfl, e2 l _ hl, sz_lt hz, k v H2 e2 p⟩⟩
theorem q_appP {l : Addr} {xs : List V} {ta te : TE} {P : V → Hp → Prop} (hl : H l = some (.lst xs)) (ha : Ev ta σ H (.ref l)) (hz : xs.length < 100000) (h : ∀ H1, Ex H H1 → ∀ Q : VK, (∀ v H2, Ex H H2 → P v H2 → Q v H2) → te σ H1 Q)
    (k : ∀ v H2, Ex H H2 → P v H2 → tz D σ (upd H2 l (.lst (xs ++ [v])))) : tSeq (tDrop (tBM K "list" rAppend ta (tCons te tNil))) tz D σ H := s_appP (D := { D with nx := tz D }) hl ha hz h k
theorem rv_notS {c : Nat} : RV (fun x y H Q => ∃ (c : Nat) (z : Str), x = .str ⟨#[c]⟩ ∧ y = .str z ∧ Q (.bl (!decide (c ∈ z.cps.toList))) H) (.str ⟨#[c]⟩) (.str z) H (.bl (!decide (c ∈ tl z))) := fun H1 _ Q q => ⟨c, z, rfl, rfl, q H1 (Ex.refl _)⟩
end
theorem written_iff {l : List Nat} : writtenB l = true ↔ l ≠ [] ∧ l.length ≤ 13 ∧ (∀ c ∈ l, 48 ≤ c ∧ c ≤ 57) ∧ (l = [48] ∨ l.head? ≠ some 48) := by
  unfold writtenB
  simp only [Bool.and_eq_true, Bool.or_eq_true, Bool.not_eq_true', decide_eq_true_eq, decide_eq_false_iff_not, List.all_eq_true]
  exact ⟨fun ⟨⟨⟨a, b⟩, c⟩, d⟩ => ⟨a, c, b, d⟩, fun ⟨a, c, b, d⟩ => ⟨⟨⟨a, b⟩, c⟩, d⟩⟩
theorem digits_in : ∀ c : Nat, c ∈ tl "0123456789" ↔ 48 ≤ c ∧ c ≤ 57 := by
  intro c
  have e : tl "0123456789" = [48, 49, 50, 51, 52, 53, 54, 55, 56, 57] := by decide +kernel
  rw [e]
  simp only [List.mem_cons, List.not_mem_nil, or_false]
  omega
theorem digit_at : ∀ d : Nat, d < 10 → Builtin.Str.occurrences "0123456789" ⟨#[48 + d]⟩ 0 ("0123456789" : Str).length 1 = [d] := by decide +kernel
theorem digits_snoc (p : List Nat) (c : Nat) : NumText.digitsVal (p ++ [c]) = NumText.digitsVal p * 10 + (c - 48) := by
  unfold NumText.digitsVal
  rw [List.foldl_append]
  rfl
/-! ### cuts by one sign -/
theorem pre1 (s c : Nat) (r : List Nat) : pre [s] (c :: r) = decide (c = s) := by
  by_cases h : c = s
  · subst h
    rw [decide_eq_true rfl]
    exact pre_self [c] r
  · rw [decide_eq_false h]
    exact pre_of_head [] r h
theorem spl_ne (s : Nat) : ∀ (l acc : List Nat), spl [s] 0 acc l ≠ []
  | [], acc => by rw [spl_nil]; simp
  | c :: r, acc => by
    by_cases h : c = s
    · rw [spl_hit (by rw [pre1, decide_eq_true h])]
      simp
    · rw [spl_miss (by rw [pre1, decide_eq_false h])]
      exact spl_ne s r _
theorem spl_mid (s : Nat) (r : List Nat) : ∀ (p acc : List Nat), spl [s] 0 acc (p ++ s :: r) = spl [s] 0 acc p ++ spl [s] 0 [] r
  | [], acc => by
    rw [List.nil_append, spl_hit (by rw [pre1, decide_eq_true rfl]), spl_nil]
    rfl
  | c :: p, acc => by
    by_cases h : c = s
    · rw [List.cons_append, spl_hit (by rw [pre1, decide_eq_true h]), spl_hit (by rw [pre1, decide_eq_true h])]
      show acc :: spl [s] 0 [] (p ++ s :: r) = _
      rw [spl_mid s r p []]
      rfl
    · rw [List.cons_append, spl_miss (by rw [pre1, decide_eq_false h]), spl_miss (by rw [pre1, decide_eq_false h])]
      exact spl_mid s r p _
theorem spl_end (s : Nat) (p : List Nat) : spl [s] 0 [] (p ++ [s]) = spl [s] 0 [] p ++ [[]] := by
  rw [spl_mid, spl_nil]
theorem spl_put {s c : Nat} (h : c ≠ s) : ∀ (p acc : List Nat) (ls : List (List Nat)) (l : List Nat), spl [s] 0 acc p = ls ++ [l] → spl [s] 0 acc (p ++ [c]) = ls ++ [l ++ [c]]
  | [], acc, ls, l, e => by
    rw [spl_nil] at e
    have e2 : [] ++ [acc] = ls ++ [l] := e
    obtain ⟨rfl, e3⟩ := List.append_inj' e2 rfl
    obtain rfl := (List.cons.inj e3).1
    rw [List.nil_append, spl_miss (by rw [pre1, decide_eq_false h]), spl_nil]
    rfl
  | d :: p, acc, ls, l, e => by
    by_cases hd : d = s
    · rw [spl_hit (by rw [pre1, decide_eq_true hd])] at e
      have e : acc :: spl [s] 0 [] p = ls ++ [l] := e
      rw [List.cons_append, spl_hit (by rw [pre1, decide_eq_true hd])]
      show acc :: spl [s] 0 [] (p ++ [c]) = _
      cases ls with
      | nil => exact absurd (List.cons.inj e).2 (spl_ne s p [])
      | cons m ms =>
        obtain ⟨e1, e2⟩ := List.cons.inj e
        rw [spl_put h p [] ms l e2, e1]
        rfl
    · rw [spl_miss (by rw [pre1, decide_eq_false hd])] at e
      rw [List.cons_append, spl_miss (by rw [pre1, decide_eq_false hd])]
      exact spl_put h p _ ls l e
/-- what stands behind the last cut -/
theorem spl_last (s : Nat) : ∀ (p : List Nat) (ls : List (List Nat)) (l : List Nat), spl [s] 0 [] p = ls ++ [l] → (l = [] ↔ p = [] ∨ p.getLast? = some s) := by
  intro p
  rcases List.eq_nil_or_concat p with rfl | ⟨q, c, rfl⟩
  · intro ls l e
    rw [spl_nil] at e
    have e2 : [] ++ [([] : List Nat)] = ls ++ [l] := e
    obtain ⟨rfl, e3⟩ := List.append_inj' e2 rfl
    obtain rfl := (List.cons.inj e3).1
    simp
  · intro ls l e
    rw [List.concat_eq_append] at e ⊢
    by_cases h : c = s
    · subst h
      rw [spl_end] at e
      obtain ⟨_, e3⟩ := List.append_inj' e rfl
      obtain rfl := (List.cons.inj e3).1
      simp
    · obtain ⟨ms, m, em⟩ : ∃ ms m, spl [s] 0 [] q = ms ++ [m] := by
        rcases List.eq_nil_or_concat (spl [s] 0 [] q) with z | ⟨ms, m, z⟩
        · exact absurd z (spl_ne s q [])
        · exact ⟨ms, m, by rw [z, List.concat_eq_append]⟩
      rw [spl_put h q [] ms m em] at e
      obtain ⟨_, e3⟩ := List.append_inj' e rfl
      obtain rfl := (List.cons.inj e3).1
      simp [h]
def optsT (l : List Nat) : List (Option (List Int)) := if endB l = true then (linesT l).map lineNs else [none]
theorem rowsO_opts (l : List Nat) : rowsO l = allSome (optsT l) := by
  unfold rowsO optsT
  by_cases h : endB l = true
  · rw [if_pos h, if_pos h]
  · rw [if_neg h, if_neg h]
    rfl
theorem lineNs_nn {l : List Nat} {ns : List Int} (h : lineNs l = some ns) : ∀ b ∈ ns, 0 ≤ b := by
  unfold lineNs at h
  by_cases h0 : l = []
  · rw [if_pos h0] at h
    obtain rfl := Option.some.inj h
    intro b hb
    cases hb
  · rw [if_neg h0] at h
    by_cases h1 : (spl [32] 0 [] l).all writtenB = true
    · rw [if_pos h1] at h
      obtain rfl := Option.some.inj h
      intro b hb
      obtain ⟨p, _, rfl⟩ := List.mem_map.mp hb
      exact Int.natCast_nonneg _
    · rw [if_neg h1] at h
      cases h
theorem opts_nn {l : List Nat} : ∀ o ∈ optsT l, ∀ ns, o = some ns → ∀ b ∈ ns, (0 : Int) ≤ b := by
  intro o ho ns e
  unfold optsT at ho
  by_cases h : endB l = true
  · rw [if_pos h] at ho
    obtain ⟨p, _, rfl⟩ := List.mem_map.mp ho
    exact lineNs_nn e
  · rw [if_neg h] at ho
    rw [List.mem_singleton.mp ho] at e
    cases e
/-! ### a list of rows, some of which are none -/
structure RowsX (H : Hp) (p : Addr) (vs : List V) (os : List (Option (List Int))) : Prop where
  top : H p = some (.lst vs)
  len : vs.length = os.length
  non : ∀ i : Nat, os[i]? = some none → vs[i]? = some .non
  row : ∀ (i : Nat) (ns : List Int), os[i]? = some (some ns) → ∃ q, vs[i]? = some (.ref q) ∧ q ≠ p ∧ H q = some (.lst (ns.map V.int))
theorem RowsX.mono {H H' : Hp} {p : Addr} {vs : List V} {os : List (Option (List Int))} (h : RowsX H p vs os) (e : Ex H H') : RowsX H' p vs os :=
  ⟨e _ _ h.top, h.len, h.non, fun i ns hi => by obtain ⟨q, h1, h2, h3⟩ := h.row i ns hi; exact ⟨q, h1, h2, e _ _ h3⟩⟩
theorem RowsX.pushN {H : Hp} {p : Addr} {vs : List V} {os : List (Option (List Int))} (h : RowsX H p vs os) : RowsX (upd H p (.lst (vs ++ [.non]))) p (vs ++ [.non]) (os ++ [none]) := by
  refine ⟨upd_same, by simp [h.len], fun i hi => ?_, fun i ns hi => ?_⟩
  · by_cases z : i < os.length
    · rw [List.getElem?_append_left z] at hi
      have z2 : i < vs.length := by have := h.len; omega
      rw [List.getElem?_append_left z2]
      exact h.non i hi
    · have : i < (os ++ [none]).length := (List.getElem?_eq_some_iff.mp hi).1
      rw [List.length_append] at this
      have z2 : i = vs.length := by
        have h1 := h.len
        have h2 : [(none : Option (List Int))].length = 1 := rfl
        omega
      rw [z2]
      simp
  · by_cases z : i < os.length
    · rw [List.getElem?_append_left z] at hi
      have z2 : i < vs.length := by have := h.len; omega
      obtain ⟨q, h1, h2, h3⟩ := h.row i ns hi
      exact ⟨q, by rw [List.getElem?_append_left z2]; exact h1, h2, by rw [upd_ne h2]; exact h3⟩
    · rw [List.getElem?_append_right (by omega)] at hi
      have : i < (os ++ [none]).length := by
        rw [List.length_append]
        have := (List.getElem?_eq_some_iff.mp hi).1
        simp at this
        simp
        omega
      rw [List.length_append] at this
      have z2 : i - os.length = 0 := by simp at this; omega
      rw [z2] at hi
      cases hi
theorem RowsX.pushR {H : Hp} {p q : Addr} {vs : List V} {os : List (Option (List Int))} {ns : List Int} (h : RowsX H p vs os) (hq : q ≠ p) (hr : H q = some (.lst (ns.map V.int))) : RowsX (upd H p (.lst (vs ++ [.ref q]))) p (vs ++ [.ref q]) (os ++ [some ns]) := by
  refine ⟨upd_same, by simp [h.len], fun i hi => ?_, fun i ms hi => ?_⟩
  · by_cases z : i < os.length
    · rw [List.getElem?_append_left z] at hi
      have z2 : i < vs.length := by have := h.len; omega
      rw [List.getElem?_append_left z2]
      exact h.non i hi
    · rw [List.getElem?_append_right (by omega)] at hi
      have z2 : i - os.length = 0 := by
        have := (List.getElem?_eq_some_iff.mp hi).1
        simp at this
        omega
      rw [z2] at hi
      cases hi
  · by_cases z : i < os.length
    · rw [List.getElem?_append_left z] at hi
      have z2 : i < vs.length := by have := h.len; omega
      obtain ⟨q2, h1, h2, h3⟩ := h.row i ms hi
      exact ⟨q2, by rw [List.getElem?_append_left z2]; exact h1, h2, by rw [upd_ne h2]; exact h3⟩
    · rw [List.getElem?_append_right (by omega)] at hi
      have z2 : i - os.length = 0 := by
        have := (List.getElem?_eq_some_iff.mp hi).1
        simp at this
        omega
      rw [z2] at hi
      obtain rfl : ns = ms := Option.some.inj (Option.some.inj hi)
      have z3 : i = vs.length := by have := h.len; omega
      exact ⟨q, by rw [z3]; simp, hq, by rw [upd_ne hq]; exact hr⟩
/-- [te for x in xs], of each no more than P is known -/
theorem lc_some {K : PySem.W.Frag} {H : Hp} {α : Type} {σ : L2.St} {te tl : TE} {j : Nat} {vs : List Nat} {xs : List α} {enc : α → V} {P : V → Prop} (h : EvL tl σ H (xs.map enc)) (hz : xs.length ≤ 40000)
    (hw : ∀ x, wipe ((wipe σ vs).set j (some x)) vs = wipe σ vs)
    (he : ∀ (x : α) H1, x ∈ xs → Ex H H1 → ∀ Q : VK, (∀ v H2, P v → Ex H1 H2 → Q v H2) → te ((wipe σ vs).set j (some (enc x))) H1 Q)
    {Q : VK} (q : ∀ ys p H2, ys.length = xs.length → (∀ y ∈ ys, P y) → H p = none → Ex H H2 → H2 p = some (.lst ys) → Q (.ref p) H2) : tLc (iList K tl) (gName j) tYes te vs σ H Q := by
  refine h H (Ex.refl H) _ fun a H1 ha e1 h1 => ⟨a, rfl, ⟨_, sq_of h1⟩, fun D hD => ?_⟩
  refine lc_list (K := K) (a := a) (xs := xs.map enc) (fun i H' => ∃ ys : List V, ys.length = i ∧ (∀ y ∈ ys, P y) ∧ Ex H1 H' ∧ H' D = some (.lst ys)) ⟨[], rfl, (fun y hy => nomatch hy), Ex.new hD, upd_same⟩
    (fun i H' _ p => ex_l p.choose_spec.2.2.1 (sq_of h1)) (fun i x H' hi p => ?_) (fun H' p => ?_)
  · obtain ⟨ys, hl, hp, ex, hT⟩ := p
    rw [List.getElem?_map] at hi
    cases ei : xs[i]? with
    | none =>
      rw [ei] at hi
      cases hi
    | some y =>
      rw [ei] at hi
      obtain rfl : enc y = x := Option.some.inj hi
      have hil : i < xs.length := (List.getElem?_eq_some_iff.mp ei).1
      refine ⟨hw _, iteT (B := ∃ ys : List V, ys.length = i + 1 ∧ (∀ y ∈ ys, P y) ∧ Ex H1 H' ∧ H' D = some (.lst ys)) ?_⟩
      refine he y H' (List.mem_of_getElem? ei) (e1.trans ex) _ fun v H2 hv e2 => ⟨ys, e2 _ _ hT, sz_lt (by omega), ys ++ [v], by rw [List.length_append, hl]; rfl, fun z hz => ?_, Ex.mut (ex.trans e2) hD, upd_same⟩
      rcases List.mem_append.mp hz with hz | hz
      · exact hp z hz
      · rw [List.mem_singleton.mp hz]
        exact hv
  · obtain ⟨ys, hl, hp, ex, hT⟩ := p
    rw [List.length_map] at hl
    exact q ys D H' hl hp (fresh_back e1 hD) (e1.trans ex) hT
theorem cutV_map (ns : List Int) (lo hi : Option Int) : ∃ zs : List Int, cutV (ns.map V.int) lo hi = zs.map V.int ∧ zs.length ≤ ns.length ∧ ∀ z ∈ zs, z ∈ ns := by
  refine ⟨(ns.drop (HT.sIx ns.length 0 lo)).take (HT.sIx ns.length ns.length hi - HT.sIx ns.length 0 lo), ?_, ?_, fun z hz => ?_⟩
  · unfold cutV
    rw [List.length_map, List.map_take, List.map_drop]
  · rw [List.length_take, List.length_drop]
    omega
  · exact List.mem_of_mem_drop (List.mem_of_mem_take hz)
theorem strs_of {ys : List V} {k : Nat} (h : ∀ y ∈ ys, ∃ w : Str, y = .str w ∧ w.length ≤ k) : ∃ ws : List Str, ys = ws.map V.str ∧ ∀ w ∈ ws, w.length ≤ k := by
  induction ys with
  | nil => exact ⟨[], rfl, fun w hw => nomatch hw⟩
  | cons y t ih =>
    obtain ⟨ws, e, hw⟩ := ih fun z hz => h z (List.mem_cons_of_mem _ hz)
    obtain ⟨w, rfl, hwl⟩ := h y List.mem_cons_self
    refine ⟨w :: ws, by rw [e]; rfl, fun z hz => ?_⟩
    rcases List.mem_cons.mp hz with rfl | hz
    · exact hwl
    · exact hw z hz
end Cr

/-! Ob: the table, an object with methods. -/
namespace Ob
open PySem PySem.Spec PyProof.Rows L2 Evl Fs Xs Rx Cr
/-- a method, as its class holds it -/
def DnM (K : PySem.W.Frag) (C : Addr) (m q : Str) (st : Stmt) (ps : List Str) : Prop := ∃ f fd, Fun K m q st f fd ∧ Meth K C m f ∧ Binds K fd ps []
/-- a method that keeps its promise -/
def OkM (P : Program) (w : World) (K : PySem.W.Frag) (mg : Str → Option Value) (base : Heap) (CX : CXT) (k : Nat) (C : Addr) (m : Str) (ps : List Str) (sp : Sp) : Prop :=
  ∃ f fd, FnOk P w K mg base CX k f fd ps sp ∧ Meth K C m f ∧ Binds K fd ps []
section
variable {P : Program} {w : World} {K : PySem.W.Frag} {mg : Str → Option Value} {base : Heap} {C : Addr}
theorem okM_of {m q : Str} {st : Stmt} {N ps : List Str} {k : Nat} {sp : Sp} (D : DnM K C m q st ps) (S : FnScope N ps (defScope st)) (len : ∀ vs H Q E, sp vs H Q E → vs.length = ps.length)
    (hbody : ∀ (f : Addr) (cdv : Value) (A : Around) (outer : List Env) (s : Shared) (H : Hp) (vs : List V) (Q : VK) (E : XK), Room k (A.deeper (envOfC q (defScope st) s.heap.objs.size f cdv)) → sp vs H Q E →
      ∃ t, PSs (cxOf CX0 P w K mg base N q (defScope st) f cdv A outer s H E).nox (defBody st) t ∧ t { nx := fun _ H' => Q .non H', rt := Q } (start N vs) H) : OkM P w K mg base CX0 (k + 1) C m ps sp := by
  obtain ⟨f, fd, F, g, b⟩ := D
  exact ⟨f, fd, F.ok S len fun cdv A outer s H vs Q E hr h => hbody f cdv A outer s H vs Q E hr h, g, b⟩
theorem okMX_of {m q : Str} {st : Stmt} {N ps : List Str} {k : Nat} {sp : Sp} (D : DnM K C m q st ps) (S : FnScope N ps (defScope st)) (len : ∀ vs H Q E, sp vs H Q E → vs.length = ps.length)
    (hbody : ∀ (f : Addr) (cdv : Value) (A : Around) (outer : List Env) (s : Shared) (H : Hp) (vs : List V) (Q : VK) (E : XK), Room k (A.deeper (envOfC q (defScope st) s.heap.objs.size f cdv)) → sp vs H Q E →
      ∃ t, PSs (cxOf (L2.CX P w) P w K mg base N q (defScope st) f cdv A outer s H E) (defBody st) t ∧ t { nx := fun _ H' => Q .non H', rt := Q } (start N vs) H) : OkM P w K mg base (L2.CX P w) (k + 1) C m ps sp := by
  obtain ⟨f, fd, F, g, b⟩ := D
  exact ⟨f, fd, F.okX S len fun cdv A outer s H vs Q E hr h => hbody f cdv A outer s H vs Q E hr h, g, b⟩
end
/-- what the class is -/
structure TabC (K : PySem.W.Frag) (mg : Str → Option Value) (C : Addr) : Prop where
  cl : Cls K C
  nr : NoAttr K C "_rows"
  ng : NoAttr K C "_goods"
  nb : NoAttr K C "_before"
  g : mg "Table" = some (.ref C)
  ms : PySem.W.makesIn K C = true
  kp : PySem.W.keepIn K (.ref C) = true
section
variable {X : Cx} {CX : CXT} {k : Nat} {C : Addr} {m : Str} {ps : List Str} {sp : Sp} {E : XK} {e o : Expr} {es : List Expr} {ta : TE} {t : TA} {p pos apos : Pos}
theorem pe_okM {pl : Sem Bool} (h : OkM X.prog X.w X.K X.mg X.base CX k C m ps sp) (T : TabC X.K X.mg C) (hr : Room k X.A) (he : PE X o ta) (hx : Passes CX X E) (ha : PA X (e :: es) t)
    (hst : starEach (e :: es) X.env = (false, eval e X.env) :: starEach es X.env := by rfl) (hpl : (backTo pos (starEach es X.env)).any (·.1) = false := by rfl)
    (ht : eval (.Call (.Attribute o m apos) (e :: es) [] pos) X.env = (do
      let ov ← eval o X.env
      standAt apos.atName
      let (f, first) ← holding [ov] (getMethod ov m pl)
      callWith pos f first (backTo pos (starEach (e :: es) X.env)) (backToKw pos (keywordEach [] X.env))) := by rfl) :
    PE X (.Call (.Attribute o m apos) (e :: es) [] pos) (tMeth C m sp [] E ta t) := by
  obtain ⟨f, fd, F, M, b⟩ := h
  exact pe_meth (pl := pl) he T.cl M F hr b .nil hx ha hst hpl ht
theorem pe_okM0 {pl : Sem Bool} (h : OkM X.prog X.w X.K X.mg X.base CX k C m ps sp) (T : TabC X.K X.mg C) (hr : Room k X.A) (he : PE X o ta) (hx : Passes CX X E)
    (ht : eval (.Call (.Attribute o m apos) [] [] pos) X.env = (do
      let ov ← eval o X.env
      standAt apos.atName
      let (f, first) ← holding [ov] (getMethod ov m pl)
      callWith pos f first (backTo pos (starEach [] X.env)) (backToKw pos (keywordEach [] X.env))) := by rfl) :
    PE X (.Call (.Attribute o m apos) [] [] pos) (tMeth C m sp [] E ta tNil) := by
  obtain ⟨f, fd, F, M, b⟩ := h
  exact pe_meth0 (pl := pl) he T.cl M F hr b .nil hx ht
theorem pe_mkT (h : OkM X.prog X.w X.K X.mg X.base CX k C "__init__" ps sp) (T : TabC X.K X.mg C) (hr : Room (k + 1) X.A) (hg : Gl X "Table") (hx : Passes CX X E) : PE X (.Call (.Name "Table" p) [] [] pos) (tMake C sp [] E tNil) := by
  obtain ⟨f, fd, F, M, b⟩ := h
  exact pe_make0 ⟨T.ms, M.at_, M.fn, T.kp⟩ F hr hg T.g b .nil hx (by decide)
end
/-- o.f, as one of several targets -/
def gFld (K : PySem.W.Frag) (ta : TE) (f : Str) : TG := fun v σ H Q => ta σ H fun x H2 => ∃ a C dx fs, x = .ref a ∧ H2 a = some (.ins C dx fs) ∧ Cls K C ∧ NoAttr K C f ∧ fs.length < 1000 ∧ Q σ (upd H2 a (.ins C dx (putF f v fs)))
theorem pg_fld {X : Cx} {o : Expr} {ta : TE} {f : Str} {pos : Pos} {K : PySem.W.Frag} (ha : PE X o ta) (hK : X.K = K := by rfl) : PG X (.Attribute o f pos) (gFld K ta f) := by
  subst hK
  refine ⟨fun pins s σ H v u Q I r h => ?_⟩
  refine PySem.W.kas_attr (thn (ha.run pins s σ H _ I h) fun ov s2 ⟨x, H2, I2, rx, a, C, dx, fs, ex, ea, c, n, l, q2⟩ => ?_)
  subst ex
  obtain rfl : ov = Value.ref a := rx
  exact setattr_ok I2 ea c n l r fun s3 I3 => ⟨σ, _, I3, q2⟩
/-! ### the table's fields -/
def fldT (r b : Addr) (g : Int) : List (Str × V) := [("_rows", .ref r), ("_goods", .int g), ("_before", .ref b)]
theorem n_rg : ¬ (("_rows" : Str) = "_goods") := by decide +kernel
theorem n_rb : ¬ (("_rows" : Str) = "_before") := by decide +kernel
theorem n_gb : ¬ (("_goods" : Str) = "_before") := by decide +kernel
theorem fldT_put (r b : Addr) (g : Int) : putF "_before" (.ref b) (putF "_goods" (.int g) (putF "_rows" (.ref r) [])) = fldT r b g := by
  have e1 : putF "_goods" (.int g) (putF "_rows" (.ref r) []) = ([("_rows", V.ref r), ("_goods", V.int g)] : List (Str × V)) := by
    show (if ("_rows" : Str) = "_goods" then _ else _) = _
    rw [if_neg n_rg]
    rfl
  rw [e1]
  show (if ("_rows" : Str) = "_before" then _ else (("_rows" : Str), V.ref r) :: (if ("_goods" : Str) = "_before" then _ else _)) = _
  rw [if_neg n_rb, if_neg n_gb]
  rfl
theorem fldT_r (r b : Addr) (g : Int) : (fldT r b g).lookup ("_rows" : Str) = some (.ref r) := by rw [← fldT_put, lookup_putF, if_neg n_rb, lookup_putF, if_neg n_rg, lookup_putF, if_pos rfl]
theorem fldT_g (r b : Addr) (g : Int) : (fldT r b g).lookup ("_goods" : Str) = some (.int g) := by rw [← fldT_put, lookup_putF, if_neg n_gb, lookup_putF, if_pos rfl]
theorem fldT_b (r b : Addr) (g : Int) : (fldT r b g).lookup ("_before" : Str) = some (.ref b) := by rw [← fldT_put, lookup_putF, if_pos rfl]
theorem fldT_no (r b : Addr) (g : Int) {m : Str} (h1 : ¬ m = "_rows") (h2 : ¬ m = "_goods") (h3 : ¬ m = "_before") : (fldT r b g).lookup m = none := by
  rw [← fldT_put, lookup_putF, if_neg h3, lookup_putF, if_neg h2, lookup_putF, if_neg h1]
  rfl
theorem fldT_setr (r r' b : Addr) (g : Int) : putF "_rows" (.ref r') (fldT r b g) = fldT r' b g := by
  show (if ("_rows" : Str) = "_rows" then _ else _) = _
  rw [if_pos rfl]
  rfl
theorem fldT_setg (r b : Addr) (g g' : Int) : putF "_goods" (.int g') (fldT r b g) = fldT r b g' := by
  show (if ("_rows" : Str) = "_goods" then _ else (("_rows" : Str), V.ref r) :: (if ("_goods" : Str) = "_goods" then _ else _)) = _
  rw [if_neg n_rg, if_pos rfl]
  rfl
/-- what is kept of earlier states: rows and goods -/
def PastAt (H : Hp) (ts : List Addr) (past : List (List (List Int) × Nat)) : Prop :=
  ts.length = past.length ∧ ∀ (i : Nat) (t : Addr) (x : List (List Int) × Nat), ts[i]? = some t → past[i]? = some x → ∃ r, H t = some (.tup [.ref r, .int (x.2 : Int)]) ∧ TV H r (iv x.1)
theorem PastAt.mono {H H' : Hp} {ts : List Addr} {past : List (List (List Int) × Nat)} (h : PastAt H ts past) (e : Ex H H') : PastAt H' ts past :=
  ⟨h.1, fun i t x h1 h2 => by obtain ⟨r, h3, h4⟩ := h.2 i t x h1 h2; exact ⟨r, e _ _ h3, h4.mono e⟩⟩
theorem Ex.msk {H H' : Hp} {l : List Addr} (e : Ex H H') : Ex (msk H l) (msk H' l) := fun a o h => by
  obtain ⟨h1, h2⟩ := msk_of h
  rw [msk_at h2]
  exact e a o h1
theorem ex_mm {H H' : Hp} {l m : List Addr} (e : Ex (Fs.msk H l) H') (s : ∀ a ∈ l, a ∈ m) : Ex (Fs.msk H m) (Fs.msk H' m) := fun a o h => by
  obtain ⟨h1, h2⟩ := msk_of h
  rw [msk_at h2]
  exact e a o (by rw [msk_at fun z => h2 (s a z)]; exact h1)
theorem ex_ms {H : Hp} {l m : List Addr} (s : ∀ a ∈ l, a ∈ m) : Ex (Fs.msk H m) (Fs.msk H l) := fun a o h => by
  obtain ⟨h1, h2⟩ := msk_of h
  rw [msk_at fun z => h2 (s a z)]
  exact h1
theorem msk_le {H : Hp} {l : List Addr} : Ex (Fs.msk H l) H := fun a o h => (msk_of h).1
theorem ne_in {H : Hp} {l : List Addr} {c : Addr} (k : ∀ a ∈ l, H a ≠ none) (h : H c = none) : c ∉ l := fun m => k c m h
/-- a table at p, its list of earlier states at b; nothing of it stands in ms, which is known -/
structure TabAt (C : Addr) (ms : List Addr) (H : Hp) (p b : Addr) (rows : List (List Int)) (g : Nat) (past : List (List (List Int) × Nat)) : Prop where
  ob : ∃ dx r, H p = some (.ins C dx (fldT r b g)) ∧ TV (msk H (p :: b :: ms)) r (iv rows)
  be : ∃ ts : List Addr, H b = some (.lst (ts.map V.ref)) ∧ PastAt (msk H (p :: b :: ms)) ts past
  kn : ∀ c ∈ ms, H c ≠ none
theorem ex_kn {H H' : Hp} {c : Addr} (e : Ex H H') (h : H c ≠ none) : H' c ≠ none := by
  cases z : H c with
  | none => exact absurd z h
  | some o => rw [e _ _ z]; intro y; cases y
theorem TabAt.mono {C : Addr} {ms : List Addr} {H H' : Hp} {p b : Addr} {rows : List (List Int)} {g : Nat} {past : List (List (List Int) × Nat)} (h : TabAt C ms H p b rows g past) (e : Ex H H') : TabAt C ms H' p b rows g past := by
  obtain ⟨⟨dx, r, h1, h2⟩, ⟨ts, h3, h4⟩, h5⟩ := h
  exact ⟨⟨dx, r, e _ _ h1, h2.mono (Ex.msk e)⟩, ⟨ts, e _ _ h3, h4.mono (Ex.msk e)⟩, fun c m => ex_kn e (h5 c m)⟩
theorem TabAt.kn2 {C : Addr} {ms : List Addr} {H : Hp} {p b : Addr} {rows : List (List Int)} {g : Nat} {past : List (List (List Int) × Nat)} (h : TabAt C ms H p b rows g past) : ∀ c ∈ p :: b :: ms, H c ≠ none := by
  obtain ⟨⟨dx, r, h1, h2⟩, ⟨ts, h3, h4⟩, h5⟩ := h
  intro c m z
  rcases List.mem_cons.mp m with rfl | m
  · rw [h1] at z; cases z
  · rcases List.mem_cons.mp m with rfl | m
    · rw [h3] at z; cases z
    · exact h5 c m z
section
variable {K : PySem.W.Frag} {mg : Str → Option Value} {C : Addr} {σ : L2.St} {H : Hp} {ta tv : TE} {tz : TS} {D : Ends} {p dx : Addr} {fs : List (Str × V)} {v : V} {f m : Str} {t : TA} {sp : Sp} {E : XK} {Q : VK}
theorem ev_fld (h : Ev ta σ H (.ref p)) (hp : H p = some (.ins C dx fs)) (c : Cls K C) (n : NoAttr K C f) (l : fs.lookup f = some v) : Ev (tFld K ta f) σ H v := fun H1 e Q q =>
  h H1 e _ fun H2 e2 => ⟨p, C, dx, fs, v, rfl, (e.trans e2) _ _ hp, c, n, l, q H2 e2⟩
theorem s_fld (hv : Ev tv σ H v) (h : Ev ta σ H (.ref p)) (hp : H p = some (.ins C dx fs)) (c : Cls K C) (n : NoAttr K C f) (hl : fs.length < 1000) (k : ∀ H1, Ex H H1 → D.nx σ (upd H1 p (.ins C dx (putF f v fs)))) : sFld K ta tv f D σ H :=
  hv H (Ex.refl H) _ fun H1 e1 => h H1 e1 _ fun H2 e2 => ⟨p, C, dx, fs, rfl, (e1.trans e2) _ _ hp, c, n, hl, k H2 (e1.trans e2)⟩
theorem q_fld (hv : Ev tv σ H v) (h : Ev ta σ H (.ref p)) (hp : H p = some (.ins C dx fs)) (c : Cls K C) (n : NoAttr K C f) (hl : fs.length < 1000) (k : ∀ H1, Ex H H1 → tz D σ (upd H1 p (.ins C dx (putF f v fs)))) : tSeq (sFld K ta tv f) tz D σ H :=
  s_fld (D := { D with nx := tz D }) hv h hp c n hl k
/-- a field that takes a new list -/
theorem s_fldL {xs : List V} (hv : EvL tv σ H xs) (h : ∀ H1, Ex H H1 → Ev ta σ H1 (.ref p)) (hp : H p = some (.ins C dx fs)) (c : Cls K C) (n : NoAttr K C f) (hl : fs.length < 1000)
    (k : ∀ a H1, H a = none → Ex H H1 → H1 a = some (.lst xs) → D.nx σ (upd H1 p (.ins C dx (putF f (.ref a) fs)))) : sFld K ta tv f D σ H :=
  hv H (Ex.refl H) _ fun a H1 ha e1 h1 => h H1 e1 H1 (Ex.refl _) _ fun H2 e2 => ⟨p, C, dx, fs, rfl, (e1.trans e2) _ _ hp, c, n, hl, k a H2 ha (e1.trans e2) (e2 _ _ h1)⟩
theorem q_fldL {xs : List V} (hv : EvL tv σ H xs) (h : ∀ H1, Ex H H1 → Ev ta σ H1 (.ref p)) (hp : H p = some (.ins C dx fs)) (c : Cls K C) (n : NoAttr K C f) (hl : fs.length < 1000)
    (k : ∀ a H1, H a = none → Ex H H1 → H1 a = some (.lst xs) → tz D σ (upd H1 p (.ins C dx (putF f (.ref a) fs)))) : tSeq (sFld K ta tv f) tz D σ H := s_fldL (D := { D with nx := tz D }) hv h hp c n hl k
/-- a method is called -/
theorem g_meth (h : Ev ta σ H (.ref p)) (hp : H p = some (.ins C dx fs)) (l : fs.lookup m = none) (k : ∀ H1, Ex H H1 → t σ H1 fun vs H2 => sp (.ref p :: (vs ++ [])) H2 Q E) : tMeth C m sp [] E ta t σ H Q :=
  h H (Ex.refl H) _ fun H1 e1 => ⟨p, dx, fs, rfl, e1 _ _ hp, l, k H1 e1⟩
end
theorem q_asgG {σ : L2.St} {H : Hp} {te : TE} {g : TG} {tz : TS} {D : Ends} (h : te σ H fun x H1 => g x σ H1 (tz D)) : tSeq (tAsg te g) tz D σ H := h
def sp_Table___init__ (K : PySem.W.Frag) (C : Addr) : Sp := sp1 fun x H Q => ∃ p dx, x = .ref p ∧ H p = some (.ins C dx []) ∧ ∀ b H', H b = none → (∀ ms : List Addr, (∀ c ∈ ms, H c ≠ none) → p ∉ ms → TabAt C ms H' p b [] 0 []) → Ex (Fs.msk H [p]) H' → Q .non H'
def sp_Table__change (K : PySem.W.Frag) (C : Addr) : Sp := sp3 fun x y z H Q => ∃ (ms : List Addr) (p b r : Addr) (rows rows2 : List (List Int)) (g g2 : Nat) (past : List (List (List Int) × Nat)), x = .ref p ∧ y = .ref r ∧ z = .int (g2 : Int) ∧ TabAt C ms H p b rows g past ∧ TV (Fs.msk H (p :: b :: ms)) r (iv rows2) ∧ past.length < 90000 ∧
  ∀ H', Ex (Fs.msk H [p, b]) H' → TabAt C ms H' p b rows2 g2 (past ++ [(rows, g)]) → Q .non H'
theorem TabAt.ne {C : Addr} {ms : List Addr} {H : Hp} {p b : Addr} {rows : List (List Int)} {g : Nat} {past : List (List (List Int) × Nat)} (h : TabAt C ms H p b rows g past) : p ≠ b := by
  obtain ⟨⟨dx, r, h1, _⟩, ⟨ts, h3, _⟩, _⟩ := h
  intro z
  rw [z, h3] at h1
  cases h1
theorem two_in {p b : Addr} {ms : List Addr} : ∀ a ∈ [p, b], a ∈ p :: b :: ms := fun a m => by
  rcases List.mem_cons.mp m with rfl | m
  · exact List.mem_cons_self
  · rw [List.mem_singleton.mp m]
    exact List.mem_cons_of_mem _ List.mem_cons_self
/-- behind a deed all is known that was -/
theorem TabAt.kn3 {C : Addr} {ms : List Addr} {H H' : Hp} {p b : Addr} {rows : List (List Int)} {g : Nat} {past : List (List (List Int) × Nat)} (h : TabAt C ms H p b rows g past) (hp : H' p ≠ none) (hb : H' b ≠ none) (e : Ex (Fs.msk H [p, b]) H') : ∀ c ∈ ms, H' c ≠ none := fun c m => by
  by_cases z1 : c = p
  · rw [z1]; exact hp
  by_cases z2 : c = b
  · rw [z2]; exact hb
  · refine ex_kn e ?_
    rw [msk_at (by simp only [List.mem_cons, List.not_mem_nil, or_false]; exact fun y => y.elim z1 z2)]
    exact h.kn c m
/-! ### lists of rows, by their addresses -/
def TVp (M : Hp) (ps : List Addr) (ys : List (List V)) : Prop := ps.length = ys.length ∧ ∀ (i : Nat) (q : Addr) (y : List V), ps[i]? = some q → ys[i]? = some y → M q = some (.lst y)
theorem tv_p {M : Hp} {a : Addr} {ys : List (List V)} (h : TV M a ys) : ∃ ps, M a = some (.lst (ps.map V.ref)) ∧ TVp M ps ys := by
  obtain ⟨ps, h1, h2, h3⟩ := h
  exact ⟨ps, h1, h2, h3⟩
theorem tv_of {M : Hp} {a : Addr} {ps : List Addr} {ys : List (List V)} (h : M a = some (.lst (ps.map V.ref))) (t : TVp M ps ys) : TV M a ys := ⟨ps, h, t.1, t.2⟩
theorem TVp.mono {M M' : Hp} {ps : List Addr} {ys : List (List V)} (t : TVp M ps ys) (e : Ex M M') : TVp M' ps ys := ⟨t.1, fun i q y h1 h2 => e _ _ (t.2 i q y h1 h2)⟩
theorem TVp.take {M : Hp} {ps : List Addr} {ys : List (List V)} (t : TVp M ps ys) (k : Nat) : TVp M (ps.take k) (ys.take k) := by
  refine ⟨by rw [List.length_take, List.length_take, t.1], fun i q y h1 h2 => ?_⟩
  have hi : i < k := by
    have := (List.getElem?_eq_some_iff.mp h1).1
    rw [List.length_take] at this
    omega
  rw [List.getElem?_take_of_lt hi] at h1 h2
  exact t.2 i q y h1 h2
theorem TVp.drop {M : Hp} {ps : List Addr} {ys : List (List V)} (t : TVp M ps ys) (k : Nat) : TVp M (ps.drop k) (ys.drop k) := by
  refine ⟨by rw [List.length_drop, List.length_drop, t.1], fun i q y h1 h2 => ?_⟩
  rw [List.getElem?_drop] at h1 h2
  exact t.2 _ q y h1 h2
theorem TVp.app {M : Hp} {ps qs : List Addr} {ys zs : List (List V)} (t : TVp M ps ys) (u : TVp M qs zs) : TVp M (ps ++ qs) (ys ++ zs) := by
  refine ⟨by rw [List.length_append, List.length_append, t.1, u.1], fun i q y h1 h2 => ?_⟩
  by_cases hi : i < ps.length
  · rw [List.getElem?_append_left hi] at h1
    rw [List.getElem?_append_left (by rw [← t.1]; exact hi)] at h2
    exact t.2 i q y h1 h2
  · rw [List.getElem?_append_right (by omega)] at h1
    rw [List.getElem?_append_right (by rw [← t.1]; omega), ← t.1] at h2
    exact u.2 _ q y h1 h2
theorem TVp.one {M : Hp} {q : Addr} {y : List V} (h : M q = some (.lst y)) : TVp M [q] [y] := by
  refine ⟨rfl, fun i r z h1 h2 => ?_⟩
  cases i with
  | zero =>
    obtain rfl : q = r := Option.some.inj h1
    obtain rfl : y = z := Option.some.inj h2
    exact h
  | succ i => simp at h1
theorem cut_to (xs : List V) (k : Nat) : cutV xs none (some (k : Int)) = xs.take k := by
  unfold cutV
  have e0 : HT.sIx xs.length 0 none = 0 := rfl
  rw [e0, HT.sIx_nat, List.drop_zero, Nat.sub_zero]
  by_cases h : k ≤ xs.length
  · rw [Nat.min_eq_left h]
  · rw [Nat.min_eq_right (by omega), List.take_of_length_le (Nat.le_refl _), List.take_of_length_le (by omega)]
theorem cut_from (xs : List V) (k : Nat) : cutV xs (some (k : Int)) none = xs.drop k := by
  unfold cutV
  have e0 : HT.sIx xs.length xs.length none = xs.length := rfl
  rw [e0, HT.sIx_nat]
  by_cases h : k ≤ xs.length
  · rw [Nat.min_eq_left h, List.take_of_length_le (by rw [List.length_drop]; omega)]
  · rw [Nat.min_eq_right (by omega), Nat.sub_self, List.take_zero, List.drop_of_length_le (by omega)]
section
variable {K : PySem.W.Frag} {σ : L2.St} {H : Hp} {ta tb te tl th : TE} {l : Addr} {xs ys : List V} {Q : VK}
theorem el_slT {k : Nat} (h : Ev te σ H (.ref l)) (hs : SqL K H l xs) (hk : Ev th σ H (.int (k : Int))) : EvL (tSl (rSlL K) te tNoPart (tPart th)) σ H (xs.take k) := by
  rw [← cut_to]
  exact el_sl h eo_none (eo_some hk) hs
theorem el_slF {k : Nat} (h : Ev te σ H (.ref l)) (hs : SqL K H l xs) (hk : Ev th σ H (.int (k : Int))) : EvL (tSl (rSlL K) te (tPart th) tNoPart) σ H (xs.drop k) := by
  rw [← cut_from]
  exact el_sl h (eo_some hk) eo_none hs
/-- l + [a new list] -/
theorem g_catN (ha : Ev ta σ H (.ref l)) (hl : H l = some (.lst xs)) (hb : EvL te σ H ys) (hz : xs.length ≤ 90000)
    (q : ∀ n r H2, H n = none → H r = none → Ex H H2 → H2 r = some (.lst ys) → H2 n = some (.lst (xs ++ [.ref r])) → Q (.ref n) H2) : tOp rCat ta (tLst (tCons te tNil)) σ H Q := by
  refine ha H (Ex.refl H) _ fun H1 e1 => hb H1 e1 _ fun r H2 hr e2 h2 => ⟨by show 1 ≤ sizeLine; rw [sizeLine_eq]; omega, fun d hd => ?_⟩
  have ed : Ex H2 (upd H2 d (.lst [.ref r])) := Ex.new hd
  refine ⟨l, d, xs, [.ref r], rfl, rfl, ((e1.trans e2).trans ed) _ _ hl, upd_same, sz_of (by show _ + 1 ≤ _; omega), fun n hn => ?_⟩
  have en := Ex.new (o := .lst (xs ++ [.ref r])) hn
  exact q n r _ (fresh_back ((e1.trans e2).trans ed) hn) (fresh_back e1 hr) (((e1.trans e2).trans ed).trans en) ((ed.trans en) _ _ h2) upd_same
/-- [te for x, y in zip(xs, ys)], each te a new list -/
theorem en_zip {α β : Type} {xs : List α} {ys : List β} {ea : α → V} {eb : β → V} {zs : List (List V)} {a b : Addr} {t : TA} {j1 j2 : Nat} {vs : List Nat} (h : EvA t σ H [.ref a, .ref b]) (hx : SqL K H a (xs.map ea)) (hy : SqL K H b (ys.map eb)) (hl : xs.length = ys.length) (hz : xs.length ≤ 40000) (hzs : zs.length = xs.length)
    (hw : ∀ x y, wipe (((wipe σ vs).set j1 (some x)).set j2 (some y)) vs = wipe σ vs)
    (he : ∀ (i : Nat) (x : α) (y : β) (z : List V) H1, xs[i]? = some x → ys[i]? = some y → zs[i]? = some z → Ex H H1 → EvL te (((wipe σ vs).set j1 (some (ea x))).set j2 (some (eb y))) H1 z) :
    EvN (tLc (iZip K t) (gTup K 2 (gCons (gName j1) (gCons (gName j2) gNil))) tYes te vs) σ H zs := by
  intro H0 e0 Q q
  refine h H0 e0 _ fun H1 e1 => ⟨a, b, xs.map ea, ys.map eb, rfl, ex_l (e0.trans e1) hx, ex_l (e0.trans e1) hy, fun D hD => ?_⟩
  refine ⟨fun i m H' => m = xs.length - i ∧ i ≤ xs.length ∧ ∃ ps : List Addr, Ex H1 H' ∧ LNew H1 H' D ps (zs.take i), ⟨xs.length, rfl, Nat.zero_le _, [], Ex.new hD, hD, upd_same, by simp, by simp, fun i q y h1 => by simp at h1⟩, ?_⟩
  rintro i m H' ⟨rfl, hi, ps, ex, L⟩
  have qx : SqL K H' a (xs.map ea) := ex_l ((e0.trans e1).trans ex) hx
  have qy : SqL K H' b (ys.map eb) := ex_l ((e0.trans e1).trans ex) hy
  by_cases hlt : i < xs.length
  · have hlt2 : i < ys.length := by omega
    have hlt3 : i < zs.length := by omega
    have gx : (xs.map ea)[i]? = some (ea xs[i]) := by rw [List.getElem?_map, List.getElem?_eq_getElem hlt]; rfl
    have gy : (ys.map eb)[i]? = some (eb ys[i]) := by rw [List.getElem?_map, List.getElem?_eq_getElem hlt2]; rfl
    refine .inr ⟨⟨xs.map ea, ys.map eb, _, _, qx, qy, gx, gy⟩, fun H'' => i + 1 ≤ xs.length ∧ ∃ ps : List Addr, Ex H1 H'' ∧ LNew H1 H'' D ps (zs.take (i + 1)), fun H'' z => ⟨xs.length - (i + 1), by omega, rfl, z⟩, fun u H'' y => ?_⟩
    obtain ⟨T, x', y', rfl, hT, rfl, f1, f2⟩ := y
    obtain rfl : ea xs[i] = x' := Option.some.inj (gx.symm.trans (f1 _ qx))
    obtain rfl : eb ys[i] = y' := Option.some.inj (gy.symm.trans (f2 _ qy))
    have eT : Ex H' (upd H' T (.tup [ea xs[i], eb ys[i]])) := Ex.new hT
    refine ⟨T, [ea xs[i], eb ys[i]], rfl, .inl (.inl upd_same), rfl, _, [eb ys[i]], rfl, _, [], rfl, rfl, hw _ _, iteT (B := i + 1 ≤ xs.length ∧ ∃ ps : List Addr, Ex H1 (upd H' T (.tup [ea xs[i], eb ys[i]])) ∧ LNew H1 (upd H' T (.tup [ea xs[i], eb ys[i]])) D ps (zs.take (i + 1))) ?_⟩
    refine he i xs[i] ys[i] zs[i] _ (List.getElem?_eq_getElem hlt) (List.getElem?_eq_getElem hlt2) (List.getElem?_eq_getElem hlt3) (((e0.trans e1).trans ex).trans eT) _ (Ex.refl _) _ fun p H3 hp e3 h3 => ⟨ps.map V.ref, (eT.trans e3) _ _ L.top, sz_lt ?_, by omega, ps ++ [p], Ex.mut ((ex.trans eT).trans e3) hD, ?_⟩
    · have := L.len
      rw [List.length_take] at this
      rw [List.length_map]
      omega
    · have et : zs.take (i + 1) = zs.take i ++ [zs[i]] := by
        rw [List.take_add_one, List.getElem?_eq_getElem hlt3]
        rfl
      rw [et]
      exact L.push ex (eT.trans e3) (fresh_back eT hp) h3
  · have ei : i = xs.length := by omega
    subst ei
    rw [← hzs, List.take_length] at L
    exact .inl ⟨⟨xs.map ea, ys.map eb, qx, qy, Or.inl (by rw [List.length_map]; exact Nat.le_refl _)⟩, q D ps H' (L.back e1) (e1.trans ex)⟩
end
theorem ints_of : ∀ {ys : List V}, (∀ y ∈ ys, bidOk y = true) → ∃ r : List Int, ys = r.map V.int ∧ ∀ b ∈ r, 0 ≤ b ∧ b ≤ 1000000000000
  | [], _ => ⟨[], rfl, fun b hb => nomatch hb⟩
  | y :: t, h => by
    obtain ⟨r, e, hr⟩ := ints_of fun z hz => h z (List.mem_cons_of_mem _ hz)
    have hy := h y List.mem_cons_self
    cases y with
    | int i =>
      refine ⟨i :: r, by rw [e]; rfl, fun b hb => ?_⟩
      rcases List.mem_cons.mp hb with rfl | hb
      · exact of_decide_eq_true hy
      · exact hr b hb
    | _ => cases hy
/-- rows stand fine: bounds -/
def Few (rows : List (List Int)) : Prop := rows.length ≤ 9 ∧ ∀ r ∈ rows, r.length ≤ 40
theorem place_int {y : V} {n : Nat} (h : place y n = true) : ∃ i : Nat, y = .int (i : Int) ∧ i < n := by
  cases y with
  | int i =>
    have h : 0 ≤ i ∧ i < (n : Int) := of_decide_eq_true h
    exact ⟨i.toNat, by congr 1; omega, by omega⟩
  | _ => cases h
def dueC (n g : Nat) (ys : List V) : Nat := if 9 ≤ n then 2 else lineD g ys
def dueP (n g : Nat) (ys : List V) : Nat := if 40 ≤ g then 2 else lineD n ys
/-- the rows with a column more -/
def putM (rows : List (List Int)) (c : List Int) : List (List Int) := List.zipWith (fun r x => r ++ [x]) rows c
def dueG (y z w : V) (n g : Nat) : Nat := if place y n = true then (if place z g = true then (if bidOk w = true then 0 else 4) else 7) else 6
def setM (rows : List (List Int)) (i j : Nat) (x : Int) : List (List Int) := rows.take i ++ [(rows.getD i []).set j x] ++ rows.drop (i + 1)
/-- the rows without that column -/
def takeM (rows : List (List Int)) (i : Nat) : List (List Int) := rows.map fun r => r.take i ++ r.drop (i + 1)
end Ob

/-! Tb: deeds of a table. -/
namespace Tb
open PySem PySem.Spec PyProof.Rows L2 Evl Fs Xs Rm Rx Cr Ob
inductive Deed
  | come (ys : List V)
  | leave (y : V)
  | put (ys : List V)
  | take (y : V)
  | bid (y z w : V)
  | back
def Deed.word : Deed → Str
  | .come _ => "come"
  | .leave _ => "leave"
  | .put _ => "put"
  | .take _ => "take"
  | .bid _ _ _ => "bid"
  | .back => "back"
def Deed.items (l : Addr) : Deed → List V
  | .come _ => [.ref l]
  | .leave y => [y]
  | .put _ => [.ref l]
  | .take y => [y]
  | .bid y z w => [y, z, w]
  | .back => []
def Deed.line : Deed → Option (List V)
  | .come ys => some ys
  | .put ys => some ys
  | _ => none
/-- at q a deed, its line at l -/
structure DeedAt (K : PySem.W.Frag) (M : Hp) (q l : Addr) (d : Deed) : Prop where
  at_ : M q = some (.lst (.str d.word :: d.items l))
  ln : ∀ ys, d.line = some ys → M l = some (.lst ys) ∧ ys.length ≤ 60 ∧ ∀ y ∈ ys, Itm K M y
  it : d.line = none → ∀ y ∈ d.items l, Itm K M y
theorem DeedAt.mono {K : PySem.W.Frag} {M M' : Hp} {q l : Addr} {d : Deed} (e : Ex M M') (h : DeedAt K M q l d) : DeedAt K M' q l d :=
  ⟨e _ _ h.at_, fun ys hy => ⟨e _ _ (h.ln ys hy).1, (h.ln ys hy).2.1, fun y m => ((h.ln ys hy).2.2 y m).mono e⟩, fun hn y m => (h.it hn y m).mono e⟩
/-- what a deed is refused with -/
def dueE (d : Deed) (n g : Nat) : Nat := match d with
  | .come ys => dueC n g ys
  | .leave y => if place y n = true then 0 else 6
  | .put ys => dueP n g ys
  | .take y => if place y g = true then 0 else 7
  | .bid y z w => dueG y z w n g
  | .back => 0
theorem lineD_in (m : Int) (r : List V) : lineD m r = 0 ∨ lineD m r = 3 ∨ lineD m r = 4 := by
  unfold lineD
  split
  · split
    · exact .inl rfl
    · exact .inr (.inr rfl)
  · exact .inr (.inl rfl)
theorem dueE_in (d : Deed) (n g : Nat) : dueE d n g = 0 ∨ dueE d n g = 2 ∨ dueE d n g = 3 ∨ dueE d n g = 4 ∨ dueE d n g = 6 ∨ dueE d n g = 7 := by
  cases d with
  | come ys =>
    show dueC n g ys = 0 ∨ dueC n g ys = 2 ∨ dueC n g ys = 3 ∨ dueC n g ys = 4 ∨ dueC n g ys = 6 ∨ dueC n g ys = 7
    have := lineD_in g ys
    unfold dueC
    split <;> omega
  | put ys =>
    show dueP n g ys = 0 ∨ dueP n g ys = 2 ∨ dueP n g ys = 3 ∨ dueP n g ys = 4 ∨ dueP n g ys = 6 ∨ dueP n g ys = 7
    have := lineD_in n ys
    unfold dueP
    split <;> omega
  | leave y =>
    show (if place y n = true then 0 else 6) = 0 ∨ (if place y n = true then 0 else 6) = 2 ∨ (if place y n = true then 0 else 6) = 3 ∨ (if place y n = true then 0 else 6) = 4 ∨ (if place y n = true then 0 else 6) = 6 ∨ (if place y n = true then 0 else 6) = 7
    split <;> omega
  | take y =>
    show (if place y g = true then 0 else 7) = 0 ∨ (if place y g = true then 0 else 7) = 2 ∨ (if place y g = true then 0 else 7) = 3 ∨ (if place y g = true then 0 else 7) = 4 ∨ (if place y g = true then 0 else 7) = 6 ∨ (if place y g = true then 0 else 7) = 7
    split <;> omega
  | bid y z w =>
    show dueG y z w n g = 0 ∨ dueG y z w n g = 2 ∨ dueG y z w n g = 3 ∨ dueG y z w n g = 4 ∨ dueG y z w n g = 6 ∨ dueG y z w n g = 7
    unfold dueG
    split
    · split
      · split <;> omega
      · omega
    · omega
  | back => exact .inl rfl
def nameE (n : Nat) : Str := if n = 2 then "TooMany" else if n = 3 then "Uneven" else if n = 4 then "BadBid" else if n = 6 then "NoPerson" else if n = 7 then "NoGood" else ""
theorem nameE_eq {n : Nat} (h : n = 0 ∨ n = 2 ∨ n = 3 ∨ n = 4 ∨ n = 6 ∨ n = 7) : decide (V.str (nameE n) = V.str "") = decide (n = 0) := by
  rcases h with rfl | rfl | rfl | rfl | rfl | rfl <;> decide +kernel
abbrev Past := List (List (List Int) × Nat)
def rowsE (d : Deed) (rows : List (List Int)) : List (List Int) := match d with
  | .come ys => rows ++ [ys.map intOf]
  | .leave y => rows.take (intOf y).toNat ++ rows.drop ((intOf y).toNat + 1)
  | .put ys => putM rows (ys.map intOf)
  | .take y => takeM rows (intOf y).toNat
  | .bid y z w => setM rows (intOf y).toNat (intOf z).toNat (intOf w)
  | .back => rows
def goodsE (d : Deed) (g : Nat) : Nat := match d with
  | .put _ => g + 1
  | .take _ => g - 1
  | _ => g
/-- what stands behind a deed that is not refused -/
def nextE (d : Deed) (rows : List (List Int)) (g : Nat) (past : Past) : List (List Int) × Nat × Past := match d with
  | .back => match past.getLast? with
    | none => (rows, g, past)
    | some x => (x.1, x.2, past.dropLast)
  | d => (rowsE d rows, goodsE d g, past ++ [(rows, g)])
/-- and what it tells -/
def ansE (d : Deed) (past : Past) : V := match d with
  | .back => .bl (!past.isEmpty)
  | _ => .non
/-- rows that may stand at a table -/
structure WfT (rows : List (List Int)) (g : Nat) : Prop where
  l9 : rows.length ≤ 9
  g40 : g ≤ 40
  len : ∀ r ∈ rows, r.length = g
  ok : ∀ r ∈ rows, ∀ b ∈ r, 0 ≤ b ∧ b ≤ 1000000000000
theorem WfT.few {rows : List (List Int)} {g : Nat} (h : WfT rows g) : Few rows := ⟨h.l9, fun r m => by rw [h.len r m]; exact h.g40⟩
theorem WfT.bids {rows : List (List Int)} {g : Nat} (h : WfT rows g) (n : 0 < rows.length) : Bids rows g := ⟨n, h.l9, h.g40, h.len, h.ok⟩
theorem wf_nil : WfT [] 0 := ⟨Nat.zero_le _, Nat.zero_le _, (fun r m => nomatch m), (fun r m => nomatch m)⟩
theorem ints_int {ys : List V} (h : ∀ y ∈ ys, bidOk y = true) : ys = (ys.map intOf).map V.int ∧ ∀ b ∈ ys.map intOf, 0 ≤ b ∧ b ≤ 1000000000000 := by
  obtain ⟨r, e, hr⟩ := ints_of h
  have e1 : ys.map intOf = r := by
    rw [e, List.map_map]
    have : (intOf ∘ V.int) = id := rfl
    rw [this, List.map_id]
  rw [e1]
  exact ⟨e, hr⟩
theorem dueC_zero {n g : Nat} {ys : List V} (h : dueC n g ys = 0) : n < 9 ∧ lineD g ys = 0 := by
  unfold dueC at h
  by_cases z : 9 ≤ n
  · rw [if_pos z] at h
    cases h
  · rw [if_neg z] at h
    exact ⟨by omega, h⟩
theorem dueP_zero {n g : Nat} {ys : List V} (h : dueP n g ys = 0) : g < 40 ∧ lineD n ys = 0 := by
  unfold dueP at h
  by_cases z : 40 ≤ g
  · rw [if_pos z] at h
    cases h
  · rw [if_neg z] at h
    exact ⟨by omega, h⟩
theorem dueG_zero {y z w : V} {n g : Nat} (h : dueG y z w n g = 0) : place y n = true ∧ place z g = true ∧ bidOk w = true := by
  unfold dueG at h
  by_cases a : place y n = true
  · rw [if_pos a] at h
    by_cases b : place z g = true
    · rw [if_pos b] at h
      by_cases c : bidOk w = true
      · exact ⟨a, b, c⟩
      · rw [if_neg c] at h
        cases h
    · rw [if_neg b] at h
      cases h
  · rw [if_neg a] at h
    cases h
theorem place_if {y : V} {n k : Nat} (h : (if place y n = true then 0 else k + 1) = 0) : place y n = true := by
  by_cases a : place y n = true
  · exact a
  · rw [if_neg a] at h
    cases h
theorem bid_int {w : V} (h : bidOk w = true) : ∃ a : Int, w = .int a ∧ 0 ≤ a ∧ a ≤ 1000000000000 := by
  cases w with
  | int a => exact ⟨a, rfl, of_decide_eq_true h⟩
  | _ => cases h
theorem mem_zip {α β γ : Type} {f : α → β → γ} {xs : List α} {ys : List β} {z : γ} (h : z ∈ List.zipWith f xs ys) : ∃ x ∈ xs, ∃ y ∈ ys, z = f x y := by
  obtain ⟨k, hk⟩ := List.getElem?_of_mem h
  rw [List.getElem?_zipWith] at hk
  cases e1 : xs[k]? with
  | none => rw [e1] at hk; cases hk
  | some x =>
    cases e2 : ys[k]? with
    | none => rw [e1, e2] at hk; cases hk
    | some y =>
      rw [e1, e2] at hk
      exact ⟨x, List.mem_of_getElem? e1, y, List.mem_of_getElem? e2, (Option.some.inj hk).symm⟩
theorem mem_set {α : Type} {xs : List α} {i : Nat} {a x : α} (h : x ∈ xs.set i a) : x ∈ xs ∨ x = a := List.mem_or_eq_of_mem_set h
theorem wf_next {d : Deed} {rows : List (List Int)} {g : Nat} (h0 : dueE d rows.length g = 0) (W : WfT rows g) : WfT (rowsE d rows) (goodsE d g) := by
  cases d with
  | come ys =>
    obtain ⟨h9, hl⟩ := dueC_zero h0
    obtain ⟨e, hb⟩ := ints_int (lineD_zero hl).2
    have hlen := (lineD_zero hl).1
    refine ⟨?_, W.g40, fun r m => ?_, fun r m => ?_⟩
    · show (rows ++ [ys.map intOf]).length ≤ 9
      rw [List.length_append]
      show _ + 1 ≤ 9
      omega
    · rcases List.mem_append.mp m with m | m
      · exact W.len r m
      · rw [List.mem_singleton.mp m, List.length_map]
        show ys.length = g
        omega
    · rcases List.mem_append.mp m with m | m
      · exact W.ok r m
      · rw [List.mem_singleton.mp m]
        exact hb
  | leave y =>
    have sub : ∀ r ∈ rows.take (intOf y).toNat ++ rows.drop ((intOf y).toNat + 1), r ∈ rows := fun r m => by
      rcases List.mem_append.mp m with m | m
      · exact List.mem_of_mem_take m
      · exact List.mem_of_mem_drop m
    refine ⟨?_, W.g40, fun r m => W.len r (sub r m), fun r m => W.ok r (sub r m)⟩
    show (rows.take (intOf y).toNat ++ rows.drop ((intOf y).toNat + 1)).length ≤ 9
    have := W.l9
    rw [List.length_append, List.length_take, List.length_drop]
    omega
  | put ys =>
    obtain ⟨h40, hl⟩ := dueP_zero h0
    obtain ⟨e, hb⟩ := ints_int (lineD_zero hl).2
    have hlen := (lineD_zero hl).1
    have := W.l9
    refine ⟨?_, h40, fun r m => ?_, fun r m b hbm => ?_⟩
    · show (List.zipWith _ rows (ys.map intOf)).length ≤ 9
      rw [List.length_zipWith]
      omega
    · obtain ⟨x, hx, y, hy, rfl⟩ := mem_zip m
      rw [List.length_append, W.len x hx]
      rfl
    · obtain ⟨x, hx, y, hy, rfl⟩ := mem_zip m
      rcases List.mem_append.mp hbm with hbm | hbm
      · exact W.ok x hx b hbm
      · rw [List.mem_singleton.mp hbm]
        exact hb y hy
  | take y =>
    obtain ⟨i, rfl, hi⟩ := place_int (place_if h0)
    have hti : (intOf (.int (i : Int))).toNat = i := Int.toNat_natCast i
    have g40 := W.g40
    refine ⟨?_, by show g - 1 ≤ 40; omega, fun r m => ?_, fun r m b hbm => ?_⟩
    · show (List.map _ rows).length ≤ 9
      rw [List.length_map]
      exact W.l9
    · obtain ⟨x, hx, rfl⟩ := List.mem_map.mp m
      have := W.len x hx
      rw [hti, List.length_append, List.length_take, List.length_drop]
      show _ = g - 1
      omega
    · obtain ⟨x, hx, rfl⟩ := List.mem_map.mp m
      rcases List.mem_append.mp hbm with hbm | hbm
      · exact W.ok x hx b (List.mem_of_mem_take hbm)
      · exact W.ok x hx b (List.mem_of_mem_drop hbm)
  | bid y z w =>
    obtain ⟨a, b, c⟩ := dueG_zero h0
    obtain ⟨i, rfl, hi⟩ := place_int a
    obtain ⟨j, rfl, hj⟩ := place_int b
    obtain ⟨v, rfl, hv⟩ := bid_int c
    have hti : (intOf (.int (i : Int))).toNat = i := Int.toNat_natCast i
    have htj : (intOf (.int (j : Int))).toNat = j := Int.toNat_natCast j
    have e0 : rows.getD i [] = rows[i] := by simp [List.getD_eq_getElem?_getD, hi]
    have hm : rows[i] ∈ rows := List.getElem_mem hi
    have cs : ∀ r ∈ setM rows i j v, r ∈ rows ∨ r = rows[i].set j v := fun r m => by
      unfold setM at m
      rcases List.mem_append.mp m with m | m
      · rcases List.mem_append.mp m with m | m
        · exact .inl (List.mem_of_mem_take m)
        · rw [e0] at m
          exact .inr (List.mem_singleton.mp m)
      · exact .inl (List.mem_of_mem_drop m)
    have hR : rowsE (.bid (.int (i : Int)) (.int (j : Int)) (.int v)) rows = setM rows i j v := by
      show setM rows (intOf (.int (i : Int))).toNat (intOf (.int (j : Int))).toNat v = _
      rw [hti, htj]
    rw [hR]
    have := W.l9
    refine ⟨?_, W.g40, fun r m => ?_, fun r m b hbm => ?_⟩
    · unfold setM
      rw [List.length_append, List.length_append, List.length_take, List.length_drop]
      show _ + 1 + _ ≤ 9
      omega
    · rcases cs r m with m | rfl
      · exact W.len r m
      · rw [List.length_set]
        exact W.len _ hm
    · rcases cs r m with m | rfl
      · exact W.ok r m b hbm
      · rcases mem_set hbm with hbm | rfl
        · exact W.ok _ hm b hbm
        · exact hv
  | back => exact W
theorem next_do {d : Deed} {rows : List (List Int)} {g : Nat} {past : Past} (h : d ≠ .back) : nextE d rows g past = (rowsE d rows, goodsE d g, past ++ [(rows, g)]) := by
  cases d with
  | back => exact absurd rfl h
  | _ => rfl
theorem ans_do {d : Deed} {past : Past} (h : d ≠ .back) : ansE d past = .non := by
  cases d with
  | back => exact absurd rfl h
  | _ => rfl
theorem next_nil {rows : List (List Int)} {g : Nat} : nextE .back rows g [] = (rows, g, []) := rfl
theorem next_back {rows : List (List Int)} {g : Nat} {past : Past} {x : List (List Int) × Nat} : nextE .back rows g (past ++ [x]) = (x.1, x.2, past) := by
  unfold nextE
  have e : (past ++ [x]).getLast? = some x := List.getLast?_concat
  have e2 : (past ++ [x]).dropLast = past := List.dropLast_concat
  show (match (past ++ [x]).getLast? with | none => _ | some x => _) = _
  rw [e, e2]
theorem ans_back {past : Past} {x : List (List Int) × Nat} : ansE .back (past ++ [x]) = .bl true := by
  show V.bl (!(past ++ [x]).isEmpty) = _
  cases past <;> rfl
theorem last_of {past : Past} (h : past ≠ []) : ∃ past' x, past = past' ++ [x] := ⟨past.dropLast, past.getLast h, (List.dropLast_concat_getLast h).symm⟩
section
variable {K : PySem.W.Frag} {σ : L2.St} {H : Hp} {q : Addr} {i : Nat} {w x : Str} {r : List V} {b : Bool}
theorem at_k {xs : List V} {k : Nat} {v : V} (h : xs[k]? = some v) : atI xs (k : Int) = some v := atI_nat h
/-- deed[0] -/
theorem ev_w (hq : H q = some (.lst (.str w :: r))) (hv : σ[i]? = some (some (.ref q))) : Ev (tOp (rIxL K) (tVar i) (tC (.int 0))) σ H (.str w) := ev_op (ev_var hv) ev_c (rv_ixL (sq_of hq) (at_k (k := 0) rfl))
/-- deed[0] == x -/
theorem et_w (hq : H q = some (.lst (.str w :: r))) (hv : σ[i]? = some (some (.ref q))) (hb : decide (V.str w = V.str x) = b) : EvT (tTest (tOp rEq (tOp (rIxL K) (tVar i) (tC (.int 0))) (tC (.str x)))) σ H b :=
  et_is (et_test (ev_op (ev_w hq hv) ev_c (rv_eq rfl))) hb
/-- word == x -/
theorem et_v (hv : σ[i]? = some (some (.str w))) (hb : decide (V.str w = V.str x) = b) : EvT (tTest (tOp rEq (tVar i) (tC (.str x)))) σ H b := et_is (et_test (ev_op (ev_var hv) ev_c (rv_eq rfl))) hb
/-- deed[1], deed[2], deed[3] -/
theorem ev_i1 {v : V} (hq : H q = some (.lst (.str w :: v :: r))) (hv : σ[i]? = some (some (.ref q))) : Ev (tOp (rIxL K) (tVar i) (tC (.int 1))) σ H v := ev_op (ev_var hv) ev_c (rv_ixL (sq_of hq) (at_k (k := 1) rfl))
theorem ev_i2 {u v : V} (hq : H q = some (.lst (.str w :: u :: v :: r))) (hv : σ[i]? = some (some (.ref q))) : Ev (tOp (rIxL K) (tVar i) (tC (.int 2))) σ H v := ev_op (ev_var hv) ev_c (rv_ixL (sq_of hq) (at_k (k := 2) rfl))
theorem ev_i3 {t u v : V} (hq : H q = some (.lst (.str w :: t :: u :: v :: r))) (hv : σ[i]? = some (some (.ref q))) : Ev (tOp (rIxL K) (tVar i) (tC (.int 3))) σ H v := ev_op (ev_var hv) ev_c (rv_ixL (sq_of hq) (at_k (k := 3) rfl))
end
theorem s_asgG {σ : L2.St} {H : Hp} {te : TE} {g : TG} {D : Ends} (h : te σ H fun x H1 => g x σ H1 D.nx) : tAsg te g D σ H := h
theorem itm_str {K : PySem.W.Frag} {H : Hp} {x : Str} (h : PyData.strOk x = true) : Itm K H (.str x) := ⟨.str x, .str x, .str x, by simp only [PyData.canLay0]; exact h, by simp [PyData.depth]⟩
theorem itm_ints {K : PySem.W.Frag} {H : Hp} (ns : List Int) : ∀ y ∈ ns.map V.int, Itm K H y := fun y m => by
  obtain ⟨i, _, rfl⟩ := List.mem_map.mp m
  exact itm_int i
theorem nw_set {H H' : Hp} {l : Addr} {o : HO} (h : H l ≠ none) : Ex (nw H H') (nw H (upd H' l o)) := fun b u e => by
  obtain ⟨h1, h2⟩ := nw_of e
  rw [nw_at h1, upd_ne (fun z => h (by rw [← z]; exact h1))]
  exact h2
theorem nw_sub {H H1 H' : Hp} (kn : ∀ b, H b ≠ none → H1 b ≠ none) : Ex (nw H1 H') (nw H H') := fun b u e => by
  obtain ⟨h1, h2⟩ := nw_of e
  rw [nw_at (Classical.byContradiction fun z => kn b z h1)]
  exact h2
theorem kn_ex {H H' : Hp} (e : Ex H H') : ∀ b, H b ≠ none → H' b ≠ none := fun b h => ex_kn e h
theorem kn_set {H H' : Hp} {l : Addr} {o : HO} (k : ∀ b, H b ≠ none → H' b ≠ none) : ∀ b, H b ≠ none → (upd H' l o) b ≠ none := fun b h => by
  by_cases z : b = l
  · rw [z, upd_same]
    intro y
    cases y
  · rw [upd_ne z]
    exact k b h
theorem itm_set {K : PySem.W.Frag} {H : Hp} {ys : List V} {j : Nat} {v : V} (h : ∀ y ∈ ys, Itm K H y) (hv : Itm K H v) : ∀ y ∈ ys.set j v, Itm K H y := fun y m => by
  rcases mem_set m with m | rfl
  · exact h y m
  · exact hv
theorem some_nn {H : Hp} {b : Addr} {o : HO} (h : H b = some o) : H b ≠ none := fun z => by rw [h] at z; cases z
section
variable {K : PySem.W.Frag} {σ : L2.St} {H : Hp} {t u : TT} {tu tz : TS} {D : Ends}
theorem et_andF (h : EvT t σ H false) : EvT (tAnd t u) σ H false := et_is (et_and (b := false) h fun h => nomatch h) rfl
theorem et_andT {b : Bool} (h1 : EvT t σ H true) (h2 : EvT u σ H b) : EvT (tAnd t u) σ H b := et_is (et_and h1 fun _ => h2) (Bool.true_and b)
theorem et_orF {b : Bool} (h1 : EvT t σ H false) (h2 : EvT u σ H b) : EvT (tOr t u) σ H b := et_is (et_or h1 fun _ => h2) (Bool.false_or b)
theorem et_orT (h1 : EvT t σ H true) : EvT (tOr t u) σ H true := et_is (et_or (b := true) h1 fun h => nomatch h) rfl
theorem q_no (h : EvT t σ H false) (k : ∀ H1, Ex H H1 → tz D σ H1) : tSeq (tIfS t tu tNext) tz D σ H := q_when h (fun h => nomatch h) fun _ H1 e => k H1 e
theorem q_yes (h : EvT t σ H true) (k : ∀ H1, Ex H H1 → tu { D with nx := tz D } σ H1) : tSeq (tIfS t tu tNext) tz D σ H := q_when h (fun _ H1 e => k H1 e) fun h => nomatch h
theorem c_no (h : EvT t σ H false) (k : ∀ H1, Ex H H1 → tz D σ H1) : tCut (tIfS t tu tNext) tz D σ H := q_cut (M := fun σ' H' => σ' = σ ∧ Ex H H') (s_when h (fun h => nomatch h) fun _ H1 e => ⟨rfl, e⟩) fun σ' H' h => by
  obtain ⟨rfl, e⟩ := h
  exact k H' e
theorem s_no (h : EvT t σ H false) (k : ∀ H1, Ex H H1 → D.nx σ H1) : tIfS t tu tNext D σ H := s_when h (fun h => nomatch h) fun _ H1 e => k H1 e
theorem s_yes (h : EvT t σ H true) (k : ∀ H1, Ex H H1 → tu D σ H1) : tIfS t tu tNext D σ H := s_when h (fun _ H1 e => k H1 e) fun h => nomatch h
/-- [te for i in range(n)], each te a new list -/
theorem en_rng {te : TE} {ta : TA} {j n : Nat} {vs : List Nat} {ys : List (List V)} (h : EvA ta σ H [.int (n : Int)]) (hn : n ≤ 40000) (hl : ys.length = n) (hw : ∀ x, wipe ((wipe σ vs).set j (some x)) vs = wipe σ vs)
    (he : ∀ (i : Nat) (y : List V) H1, i < n → ys[i]? = some y → Ex H H1 → EvL te ((wipe σ vs).set j (some (.int (i : Int)))) H1 y) : EvN (tLc (iRng1 ta) (gName j) tYes te vs) σ H ys := by
  intro H0 e0 Q q
  refine h H0 e0 _ fun H1 e1 => ⟨(n : Int), rfl, by omega, by omega, fun Dl hD => ?_⟩
  refine lc_range (lo := 0) (n := n) (fun i H' => ∃ ps : List Addr, Ex H1 H' ∧ LNew H1 H' Dl ps (ys.take i)) ⟨[], Ex.new hD, hD, upd_same, by simp, by simp, fun i q y h1 => by simp at h1⟩ (fun i H' hi p => ?_) (fun H' p => ?_)
  · obtain ⟨ps, ex, L⟩ := p
    have ez : (0 : Int) + (i : Int) = (i : Int) := Int.zero_add _
    show wipe ((wipe σ vs).set j (some (.int ((0 : Int) + (i : Int))))) vs = wipe σ vs ∧ tYes ((wipe σ vs).set j (some (.int ((0 : Int) + (i : Int))))) H' fun b H3 => if b = true then te ((wipe σ vs).set j (some (.int ((0 : Int) + (i : Int))))) H3 fun y H4 => ∃ acc, H4 Dl = some (.lst acc) ∧ acc.length < sizeLine ∧ ∃ ps : List Addr, Ex H1 (upd H4 Dl (.lst (acc ++ [y]))) ∧ LNew H1 (upd H4 Dl (.lst (acc ++ [y]))) Dl ps (ys.take (i + 1)) else ∃ ps : List Addr, Ex H1 H3 ∧ LNew H1 H3 Dl ps (ys.take (i + 1))
    rw [ez]
    have hi : i < n := by omega
    have hiy : i < ys.length := by omega
    refine ⟨hw _, iteT (B := ∃ ps : List Addr, Ex H1 H' ∧ LNew H1 H' Dl ps (ys.take (i + 1))) ?_⟩
    refine he i ys[i] H' hi (List.getElem?_eq_getElem hiy) ((e0.trans e1).trans ex) H' (Ex.refl H') _ fun p H2 hp e2 h2 => ⟨ps.map V.ref, e2 _ _ L.top, sz_lt ?_, ps ++ [p], Ex.mut (ex.trans e2) hD, ?_⟩
    · have := L.len
      rw [List.length_take] at this
      rw [List.length_map]
      omega
    · have et : ys.take (i + 1) = ys.take i ++ [ys[i]] := by
        rw [List.take_add_one, List.getElem?_eq_getElem hiy]
        rfl
      rw [et]
      exact L.push ex e2 hp h2
  · obtain ⟨ps, ex, L⟩ := p
    have et : ys.take n = ys := by rw [← hl, List.take_length]
    rw [et] at L
    exact q Dl ps H' (L.back e1) (e1.trans ex)
theorem ev_isStr {te : TE} {x : Str} (h : Ev te σ H (.str x)) : Ev (tCB (rIsi K) (tCons te (tCons (tC (.ty "str")) tNil))) σ H (.bl true) :=
  ev_cb (ea_cons h (ea_cons ev_c ea_nil)) fun H1 e Q q => ⟨_, _, _, _, true, rfl, .ty _, .base (.str x), kit_ty (by decide +kernel), q H1 (Ex.refl H1)⟩
end
/-- all but the k-th -/
theorem but_k {α : Type} (d : α) : ∀ (xs : List α) (k : Nat), ((List.range xs.length).filter fun i => !decide (i = k)).map (fun i => xs.getD i d) = xs.take k ++ xs.drop (k + 1)
  | [], k => by simp
  | x :: t, k => by
    have e : List.range (x :: t).length = 0 :: (List.range t.length).map Nat.succ := by rw [List.length_cons, List.range_succ_eq_map]
    have g : ((fun i => (x :: t).getD i d) ∘ Nat.succ) = fun i => t.getD i d := by
      funext i
      simp [List.getD_eq_getElem?_getD]
    rw [e]
    cases k with
    | zero =>
      have f : (((List.range t.length).map Nat.succ).filter fun i => !decide (i = 0)) = (List.range t.length).map Nat.succ := List.filter_eq_self.mpr fun i hi => by
        obtain ⟨j, _, rfl⟩ := List.mem_map.mp hi
        rfl
      rw [List.filter_cons, if_neg (by decide), f, List.map_map, g]
      have : (List.range t.length).map (fun i => t.getD i d) = t := by
        refine List.ext_getElem (by simp) fun i h1 h2 => ?_
        simp [List.getD_eq_getElem?_getD, h2]
      rw [this]
      rfl
    | succ k =>
      have ih := but_k d t k
      rw [List.filter_cons, if_pos (show (!decide (0 = k + 1)) = true by rw [decide_eq_false (show ¬ 0 = k + 1 by omega)]; rfl), List.map_cons, List.filter_map, List.map_map, g]
      have f : ((fun i => !decide (i = k + 1)) ∘ Nat.succ) = fun i => !decide (i = k) := by
        funext i
        show (!decide (i + 1 = k + 1)) = !decide (i = k)
        congr 1
        exact decide_eq_decide.mpr ⟨fun h => by omega, fun h => by omega⟩
      rw [f, ih]
      rfl
/-- what is kept of earlier states: some data -/
theorem past_dp {K : PySem.W.Frag} {M : Hp} : ∀ {past : Past} {ts : List Addr}, PastAt M ts past → ∃ ds, DpAll K M (ts.map V.ref) ds ∧ PyData.canLayAll0 ds = true ∧ PyData.depthAll ds ≤ 6
  | [], ts, h => by
    have : ts = [] := List.eq_nil_of_length_eq_zero h.1
    subst this
    exact ⟨[], .nil, by simp [PyData.canLayAll0], by simp [PyData.depthAll]⟩
  | x :: r, [], h => nomatch h.1
  | x :: r, t :: ts, h => by
    obtain ⟨ds, h1, h2, h3⟩ := past_dp (past := r) (ts := ts) ⟨Nat.succ.inj h.1, fun i t x e1 e2 => h.2 (i + 1) t x e1 e2⟩
    obtain ⟨a, ha, hT⟩ := h.2 0 t x rfl rfl
    obtain ⟨es, k1, k2, k3⟩ := dp_rows (K := K) (H := M) (yss := iv x.1) fun ys m y hy => by
      obtain ⟨z, _, rfl⟩ := List.mem_map.mp m
      exact itm_ints z y hy
    obtain ⟨ps, p1, p2, p3⟩ := hT.lv (K := K)
    refine ⟨.tuple [.list es, .int (x.2 : Int)] :: ds, .cons (.tup (st_of ha) (.cons (.lst p1 (k1 ps p2 p3)) (.cons (.int _) .nil))) h1, ?_, ?_⟩
    · simp only [PyData.canLayAll0, PyData.canLay0]
      rw [k2, h2]
      rfl
    · simp only [PyData.depthAll, PyData.depth]
      omega
theorem deed_line {K : PySem.W.Frag} {H H2 : Hp} {q l : Addr} {d : Deed} {ys : List V} (e : Ex H H2) (hq : H2 q = none) (hl : H l = none) (h2 : H2 l = some (.lst ys)) (hz : ys.length ≤ 60) (hy : ∀ y ∈ ys, Itm K (nw H H2) y) (hd : d.line = some ys) :
    DeedAt K (nw H (upd H2 q (.lst (.str d.word :: d.items l)))) q l d := by
  have ex := Ex.new (o := .lst (.str d.word :: d.items l)) hq
  refine ⟨by rw [nw_at (fresh_back e hq), upd_same], fun zs hz2 => ?_, fun hn => by rw [hd] at hn; cases hn⟩
  obtain rfl : ys = zs := Option.some.inj (hd.symm.trans hz2)
  exact ⟨by rw [nw_at hl]; exact ex _ _ h2, hz, fun y m => (hy y m).mono (nw_mono ex)⟩
theorem deed_flat {K : PySem.W.Frag} {H H2 : Hp} {q l : Addr} {d : Deed} (e : Ex H H2) (hq : H2 q = none) (hy : ∀ y ∈ d.items l, Itm K (nw H H2) y) (hd : d.line = none) : DeedAt K (nw H (upd H2 q (.lst (.str d.word :: d.items l)))) q l d := by
  have ex := Ex.new (o := .lst (.str d.word :: d.items l)) hq
  exact ⟨by rw [nw_at (fresh_back e hq), upd_same], (fun zs hz2 => by rw [hd] at hz2; cases hz2), fun hn y m => (hy y m).mono (nw_mono ex)⟩
theorem getD_at {xs : List V} {i : Nat} (h : i < xs.length) : xs[i]? = some (xs.getD i .non) := by
  rw [List.getD_eq_getElem?_getD, List.getElem?_eq_getElem h]
  rfl
theorem int_of_map (r : List Int) : (r.map V.int).map intOf = r := by
  rw [List.map_map]
  have : (intOf ∘ V.int) = id := rfl
  rw [this, List.map_id]
theorem setM_set {rows : List (List Int)} {i j : Nat} {x : Int} (h : i < rows.length) : setM rows i j x = rows.set i ((rows.getD i []).set j x) := by
  rw [List.set_eq_take_append_cons_drop, if_pos h]
  unfold setM
  rw [List.append_assoc]
  rfl
theorem putM_at {rows : List (List Int)} {c : List Int} {i : Nat} {x : Int} (h : i < rows.length) (hx : c[i]? = some x) : (putM rows c)[i]? = some (rows[i] ++ [x]) := by
  unfold putM
  rw [List.getElem?_zipWith, List.getElem?_eq_getElem h, hx]
theorem iv_at {rows : List (List Int)} {i : Nat} (h : i < rows.length) : (iv rows)[i]? = some (rows[i].map V.int) := by
  show (rows.map _)[i]? = _
  rw [List.getElem?_map, List.getElem?_eq_getElem h]
  rfl
theorem iv_len (rows : List (List Int)) : (iv rows).length = rows.length := List.length_map _
theorem iv_app (rows : List (List Int)) (r : List Int) : iv (rows ++ [r]) = iv rows ++ [r.map V.int] := by show List.map _ _ = _; rw [List.map_append]; rfl
theorem hsOf_vi (rows : List (List Int)) : hsOf (iv rows) = rows := by
  show List.map _ (List.map _ rows) = rows
  rw [List.map_map]
  refine (List.map_congr_left fun r _ => ?_).trans (List.map_id _)
  exact int_of_map r
theorem dueB_wf {rows : List (List Int)} {g : Nat} (W : WfT rows g) (n : rows ≠ []) : dueB (iv rows) = 0 ∧ ((iv rows).getD 0 []).length = g := by
  have hl := iv_len rows
  have h0 : 0 < rows.length := List.length_pos_iff.mpr n
  have e0 : (iv rows).getD 0 [] = rows[0].map V.int := by
    rw [List.getD_eq_getElem?_getD, iv_at h0]
    rfl
  have eg : ((iv rows).getD 0 []).length = g := by rw [e0, List.length_map, W.len _ (List.getElem_mem h0)]
  have h9 := W.l9
  have h40 := W.g40
  refine ⟨?_, eg⟩
  unfold dueB
  rw [eg, if_neg (by omega), if_neg (by omega), if_neg (by omega)]
  refine rowsD_zero fun y m => ?_
  obtain ⟨r, hr, rfl⟩ := List.mem_map.mp m
  unfold lineD
  rw [if_pos (by rw [List.length_map, W.len r hr]), if_pos (List.all_eq_true.mpr fun z hz => ?_)]
  obtain ⟨b, hb, rfl⟩ := List.mem_map.mp hz
  exact decide_eq_true (W.ok r hr b hb)
/-- what a deal is refused with -/
def dueQ (r : Bool) (rows : List (List Int)) (g : Nat) : Nat := if rows = [] then 1 else if r = true ∧ rows.length < g then 2 else 0
theorem dueR_wf {rows : List (List Int)} {g : Nat} (W : WfT rows g) : dueR (iv rows) = dueQ true rows g := by
  unfold dueQ
  by_cases n : rows = []
  · rw [if_pos n, n]
    rfl
  · obtain ⟨h1, h2⟩ := dueB_wf W n
    unfold dueR
    rw [if_neg n, if_pos h1, h2, iv_len]
    by_cases z : rows.length < g
    · rw [if_pos z, if_pos ⟨rfl, z⟩]
    · rw [if_neg z, if_neg fun y => z y.2]
theorem dueB_q {rows : List (List Int)} {g : Nat} (W : WfT rows g) : dueB (iv rows) = dueQ false rows g := by
  unfold dueQ
  by_cases n : rows = []
  · rw [if_pos n, n]
    rfl
  · rw [if_neg n, (dueB_wf W n).1, if_neg fun y => nomatch y.1]
theorem dueQ_ne {r : Bool} {rows : List (List Int)} {g : Nat} (h : dueQ r rows g = 0) : rows ≠ [] := fun n => by
  unfold dueQ at h
  rw [if_pos n] at h
  cases h
def heapsQ (r : Bool) (rows : List (List Int)) (g : Nat) : List (List Int) := if r = true then heapsR rows g else heapsM rows g
def payQ (r : Bool) (rows : List (List Int)) (g : Nat) : List Int := if r = true then payR rows g else payM rows (heapsM rows g)
def nameQ (n : Nat) : Str := if n = 1 then "NoPeople" else "TooMany"
theorem dueQ_in (r : Bool) (rows : List (List Int)) (g : Nat) : dueQ r rows g = 0 ∨ dueQ r rows g = 1 ∨ dueQ r rows g = 2 := by
  unfold dueQ
  split
  · exact .inr (.inl rfl)
  · split
    · exact .inr (.inr rfl)
    · exact .inl rfl
theorem fairQ {r : Bool} {rows : List (List Int)} {g : Nat} (W : WfT rows g) (h : dueQ r rows g = 0) : FairD rows g (heapsQ r rows g) (payQ r rows g) := by
  have n := dueQ_ne h
  have B := W.bids (List.length_pos_iff.mpr n)
  unfold dueQ at h
  rw [if_neg n] at h
  cases r with
  | true =>
    refine rooms_fairD B ?_
    by_cases z : rows.length < g
    · rw [if_pos ⟨rfl, z⟩] at h
      cases h
    · omega
  | false => exact heaps_fairD B
theorem ok_alias {P : Program} {w : World} {K : PySem.W.Frag} {mg : Str → Option Value} {base : Heap} {CX : CXT} {k : Nat} {x y : Str} {ps : List Str} {sp : Sp} (h : Ok P w K mg base CX k x ps sp) (e : mg y = mg x) : Ok P w K mg base CX k y ps sp := by
  obtain ⟨f, fd, F, g, r⟩ := h
  exact ⟨f, fd, F, e.trans g, r⟩
/-- o.m() where what is raised is wished for at the slots -/
def tMethS (C : Addr) (m : Str) (sp : Sp) (E : L2.St → XK) (ta : TE) : TE := fun σ H Q => ta σ H fun x H1 => ∃ a dx fs, x = .ref a ∧ H1 a = some (.ins C dx fs) ∧ fs.lookup m = none ∧ sp [x] H1 Q (E σ)
theorem pe_okMS0 {X : Cx} {CX : CXT} {k : Nat} {C : Addr} {m : Str} {ps : List Str} {sp : Sp} {E : L2.St → XK} {o : Expr} {ta : TE} {pos apos : Pos} {pl : Sem Bool} (h : OkM X.prog X.w X.K X.mg X.base CX k C m ps sp) (T : TabC X.K X.mg C) (hr : Room k X.A) (he : PE X o ta) (hx : ∀ σ, PassesAt CX X σ (E σ))
    (ht : eval (.Call (.Attribute o m apos) [] [] pos) X.env = (do
      let ov ← eval o X.env
      standAt apos.atName
      let (f, first) ← holding [ov] (getMethod ov m pl)
      callWith pos f first (backTo pos (starEach [] X.env)) (backToKw pos (keywordEach [] X.env))) := by rfl) :
    PE X (.Call (.Attribute o m apos) [] [] pos) (tMethS C m sp E ta) := by
  obtain ⟨fa, fd, FF, MM, bb⟩ := h
  refine ⟨fun pins0 s0 σ0 H0 Q0 I0 h0 => ?_⟩
  refine PySem.W.methodCall_KW (pl := pl) (thn (he.run pins0 s0 σ0 H0 _ I0 h0) fun u0 s1 ⟨x0, H1, I1, rx0, a0, dx0, fs0, ex0, ea0, l0, q0⟩ => ?_) ht
  subst ex0
  obtain rfl : u0 = Value.ref a0 := rx0
  exact getmeth_ok I1 ea0 T.cl MM l0 (PySem.W.callWith_K0 (first := [.ref a0]) I1.kIn MM.kp (run_fnS (us := [.ref a0]) (vs := [.ref a0]) FF hr bb (hx σ0) I1 (.cons rfl .nil) q0))
theorem g_methS {σ : L2.St} {H : Hp} {ta : TE} {p dx C : Addr} {fs : List (Str × V)} {m : Str} {sp : Sp} {E : L2.St → XK} {Q : VK} (h : Ev ta σ H (.ref p)) (hp : H p = some (.ins C dx fs)) (l : fs.lookup m = none) (k : ∀ H1, Ex H H1 → sp [.ref p] H1 Q (E σ)) : tMethS C m sp E ta σ H Q :=
  h H (Ex.refl H) _ fun H1 e1 => ⟨p, dx, fs, rfl, e1 _ _ hp, l, k H1 e1⟩
theorem ex_eq {H H' : Hp} {a : Addr} (e : Ex H H') (h : H a ≠ none) : H' a = H a := by
  cases z : H a with
  | none => exact absurd z h
  | some o => exact e _ _ z
theorem ex_gen {H H' : Hp} {L L' : List Addr} (h : ∀ a o, H a = some o → a ∉ L → H' a = some o ∧ a ∉ L') : Ex (Fs.msk H L) (Fs.msk H' L') := fun a o e => by
  obtain ⟨h1, h2⟩ := msk_of e
  obtain ⟨h3, h4⟩ := h a o h1 h2
  rw [msk_at h4]
  exact h3
/-! ### deals that are held -/
def DealAt (M : Hp) (d : Addr) (hs : List (List Int)) (ss : List Int) : Prop := ∃ hp sp, M d = some (.tup [.ref hp, .ref sp]) ∧ TV M hp (iv hs) ∧ M sp = some (.lst (ss.map V.int))
theorem DealAt.mono {M M' : Hp} {d : Addr} {hs : List (List Int)} {ss : List Int} (h : DealAt M d hs ss) (e : Ex M M') : DealAt M' d hs ss := by
  obtain ⟨hp, sp, a, b, c⟩ := h
  exact ⟨hp, sp, e _ _ a, b.mono e, e _ _ c⟩
theorem DealAt.dp {K : PySem.W.Frag} {M : Hp} {d : Addr} {hs : List (List Int)} {ss : List Int} (h : DealAt M d hs ss) : Dp K M (.ref d) (.tuple [dII hs, dI ss]) := by
  obtain ⟨hp, sp, a, b, c⟩ := h
  exact .tup (st_of a) (.cons (LL.dp (TV.lv b)) (.cons (dp_ints (sq_of c)) .nil))
theorem deal_sh (hs : List (List Int)) (ss : List Int) : SeqAt.shaped (.tuple [dII hs, dI ss]) = true := by
  have a1 : PyData.depth (dII hs) ≤ 2 := encII.dep hs
  have a2 : PyData.depth (dI ss) ≤ 1 := encI.dep ss
  have b1 : PyData.canLay0 (dII hs) = true := encII.lay hs
  have b2 : PyData.canLay0 (dI ss) = true := encI.lay ss
  unfold SeqAt.shaped
  simp only [PyData.canLay0.eq_def (.tuple _), PyData.canLayAll0, PyData.depth.eq_def (.tuple _), PyData.depthAll]
  rw [b1, b2]
  exact decide_eq_true (by omega)
theorem rv_neDeal {K : PySem.W.Frag} {H : Hp} {a b : Addr} {hs : List (List Int)} {ss : List Int} (h1 : DealAt H a hs ss) (h2 : DealAt H b hs ss) : RV (rNeD K) (.ref a) (.ref b) H (.bl false) := rv_neR (deal_sh hs ss) h1.dp h2.dp
theorem rv_eqDeal {K : PySem.W.Frag} {H : Hp} {a b : Addr} {hs : List (List Int)} {ss : List Int} (h1 : DealAt H a hs ss) (h2 : DealAt H b hs ss) : RV (rEqD K) (.ref a) (.ref b) H (.bl true) := rv_eqR (deal_sh hs ss) h1.dp h2.dp
theorem _root_.Fs.DNew.at_ {H0 H : Hp} {p hp sp : Addr} {hps : List Addr} {hs : List (List Int)} {ss : List Int} (D : DNew H0 H p hp sp hps hs ss) : DealAt H p hs ss := ⟨hp, sp, D.t, D.L.tv, D.s⟩
theorem _root_.Fs.DNew.nw {H0 H : Hp} {p hp sp : Addr} {hps : List Addr} {hs : List (List Int)} {ss : List Int} (D : DNew H0 H p hp sp hps hs ss) : DealAt (nw H0 H) p hs ss := by
  refine ⟨hp, sp, by rw [nw_at D.new]; exact D.t, ⟨hps, by rw [nw_at D.L.new]; exact D.L.top, D.L.len, fun i q y h1 h2 => ?_⟩, by rw [nw_at D.sn]; exact D.s⟩
  have := D.L.at_ i q y h1 h2
  rw [nw_at this.1]
  exact this.2
def HeldD (M : Hp) (vs : List Addr) : Prop := ∀ v ∈ vs, ∃ d1 d2 hs ss, M v = some (.tup [.ref d1, .ref d2]) ∧ DealAt M d1 hs ss ∧ DealAt M d2 hs ss
theorem HeldD.mono {M M' : Hp} {vs : List Addr} (h : HeldD M vs) (e : Ex M M') : HeldD M' vs := fun v m => by
  obtain ⟨a, b, hs, ss, h1, h2, h3⟩ := h v m
  exact ⟨a, b, hs, ss, e _ _ h1, h2.mono e, h3.mono e⟩
theorem HeldD.push {L : List Addr} {H H' : Hp} {hh u d1 d2 : Addr} {vs : List Addr} {hs : List (List Int)} {ss : List Int} {o : HO} (A : HeldD (Fs.msk H L) vs) (e : Ex H H') (kn : ∀ c ∈ L, H c ≠ none) (m : hh ∈ L) (hu : H' u = none) (D1 : DealAt (nw H H') d1 hs ss) (D2 : DealAt (nw H H') d2 hs ss) :
    HeldD (Fs.msk (upd (upd H' u (.tup [.ref d1, .ref d2])) hh o) L) (vs ++ [u]) := by
  have hu0 := fresh_back e hu
  have nL : ∀ {c : Addr}, H c = none → c ∉ L := fun h => ne_in kn h
  have nuh : u ≠ hh := fun z => kn hh m (z ▸ hu0)
  have ex : Ex (Fs.msk H L) (Fs.msk (upd (upd H' u (.tup [.ref d1, .ref d2])) hh o) L) := ex_gen fun a x h n => ⟨by
    rw [upd_ne fun z => n (by rw [z]; exact m), upd_ne fun z => by rw [z, hu0] at h; cases h]
    exact e _ _ h, n⟩
  have nx : Ex (nw H H') (Fs.msk (upd (upd H' u (.tup [.ref d1, .ref d2])) hh o) L) := fun a x h => by
    obtain ⟨h1, h2⟩ := nw_of h
    have n := nL h1
    rw [msk_at n, upd_ne fun z => n (by rw [z]; exact m), upd_ne fun z => by rw [z, hu] at h2; cases h2]
    exact h2
  intro v mv
  rcases List.mem_append.mp mv with mv | mv
  · exact (A.mono ex) v mv
  · rw [List.mem_singleton.mp mv]
    exact ⟨d1, d2, hs, ss, by rw [msk_at (nL hu0), upd_ne nuh, upd_same], D1.mono nx, D2.mono nx⟩
theorem at_m1 {xs : List Addr} (h : 0 < xs.length) : ∃ v ∈ xs, atI (xs.map V.ref) (-1) = some (.ref v) := by
  have hl : xs.length - 1 < xs.length := by omega
  refine ⟨xs[xs.length - 1], List.getElem_mem hl, ?_⟩
  have e : ixN (xs.map V.ref).length (-1) = some (xs.length - 1) := by
    unfold ixN
    rw [List.length_map, if_neg (by decide), if_pos (by omega)]
    congr 1
    omega
  unfold atI
  rw [e]
  show (xs.map V.ref)[xs.length - 1]? = _
  rw [List.getElem?_map, List.getElem?_eq_getElem hl]
  rfl
theorem at_m2 {xs : List Addr} (h : 0 < xs.length) : ∃ v ∈ xs, atI (xs.map V.ref) ((xs.length : Int) - 2) = some (.ref v) := by
  by_cases h1 : xs.length = 1
  · have e : (xs.length : Int) - 2 = -1 := by omega
    rw [e]
    exact at_m1 h
  · have hl : xs.length - 2 < xs.length := by omega
    have e : (xs.length : Int) - 2 = ((xs.length - 2 : Nat) : Int) := by omega
    rw [e]
    exact ⟨xs[xs.length - 2], List.getElem_mem hl, at_k (by rw [List.getElem?_map, List.getElem?_eq_getElem hl]; rfl)⟩
/-- lists, v behind the first i -/
def addV (v : V) (ys : List (List V)) (i : Nat) : List (List V) := (ys.take i).map (· ++ [v]) ++ ys.drop i
theorem addV_len (v : V) (ys : List (List V)) (i : Nat) : (addV v ys i).length = ys.length := by
  unfold addV
  rw [List.length_append, List.length_map, List.length_take, List.length_drop]
  omega
theorem addV_at {v : V} {ys : List (List V)} {i : Nat} (h : i < ys.length) : (addV v ys i)[i]? = some ys[i] := by
  unfold addV
  rw [List.getElem?_append_right (by rw [List.length_map, List.length_take]; omega), List.length_map, List.length_take, Nat.min_eq_left (by omega), Nat.sub_self, List.getElem?_drop, Nat.add_zero, List.getElem?_eq_getElem h]
theorem addV_set {v : V} {ys : List (List V)} {i : Nat} (h : i < ys.length) : (addV v ys i).set i (ys[i] ++ [v]) = addV v ys (i + 1) := by
  unfold addV
  rw [List.set_append_right _ _ (by rw [List.length_map, List.length_take]; omega), List.length_map, List.length_take, Nat.min_eq_left (by omega), Nat.sub_self, List.take_add_one, List.getElem?_eq_getElem h, List.map_append, List.append_assoc]
  congr 1
  have : ys.drop i = ys[i] :: ys.drop (i + 1) := List.drop_eq_getElem_cons h
  rw [this]
  rfl
theorem addV_all (v : V) (ys : List (List V)) : addV v ys ys.length = ys.map (· ++ [v]) := by
  unfold addV
  rw [List.take_length, List.drop_length, List.append_nil]
theorem _root_.Ob.TabAt.gen {C : Addr} {ms ms' : List Addr} {H H' : Hp} {p b : Addr} {rows : List (List Int)} {g : Nat} {past : Past} (A : TabAt C ms H p b rows g past) (hp : H' p = H p) (hb : H' b = H b)
    (h : ∀ a o, H a = some o → a ∉ p :: b :: ms → H' a = some o ∧ a ∉ p :: b :: ms') (kn : ∀ c ∈ ms', H' c ≠ none) : TabAt C ms' H' p b rows g past := by
  obtain ⟨⟨dx, r, h1, h2⟩, ⟨ts, h3, h4⟩, h5⟩ := A
  exact ⟨⟨dx, r, hp.trans h1, h2.mono (ex_gen h)⟩, ⟨ts, hb.trans h3, h4.mono (ex_gen h)⟩, kn⟩
theorem mem3 {a p b : Addr} {ms : List Addr} (h : a ∉ p :: b :: ms) : a ≠ p ∧ a ≠ b ∧ a ∉ ms := ⟨fun z => h (by rw [z]; exact List.mem_cons_self), fun z => h (by rw [z]; exact List.mem_cons_of_mem _ List.mem_cons_self), fun z => h (List.mem_cons_of_mem _ (List.mem_cons_of_mem _ z))⟩
theorem nmem3 {a p b : Addr} {ms : List Addr} (h1 : a ≠ p) (h2 : a ≠ b) (h3 : a ∉ ms) : a ∉ p :: b :: ms := fun m => by
  rcases List.mem_cons.mp m with m | m
  · exact h1 m
  · rcases List.mem_cons.mp m with m | m
    · exact h2 m
    · exact h3 m
/-- one more that is not touched, new -/
theorem _root_.Ob.TabAt.add {C l : Addr} {ms : List Addr} {H H' : Hp} {p b : Addr} {rows : List (List Int)} {g : Nat} {past : Past} (A : TabAt C ms H p b rows g past) (e : Ex H H') (hl : H l = none) (hl' : H' l ≠ none) : TabAt C (l :: ms) H' p b rows g past := by
  have k := A.kn2
  refine A.gen (ex_eq e (k p List.mem_cons_self)) (ex_eq e (k b (List.mem_cons_of_mem _ List.mem_cons_self))) (fun a o h n => ⟨e _ _ h, ?_⟩) fun c m => ?_
  · obtain ⟨h1, h2, h3⟩ := mem3 n
    refine nmem3 h1 h2 fun m => ?_
    rcases List.mem_cons.mp m with rfl | m
    · rw [h] at hl; cases hl
    · exact h3 m
  · rcases List.mem_cons.mp m with rfl | m
    · exact hl'
    · exact ex_kn e (A.kn c m)
/-- something else has changed that it does not touch -/
theorem _root_.Ob.TabAt.keep {C : Addr} {ms S : List Addr} {H H' : Hp} {p b : Addr} {rows : List (List Int)} {g : Nat} {past : Past} (A : TabAt C ms H p b rows g past) (e : Ex (Fs.msk H S) H') (s : ∀ a ∈ S, a ∈ ms) (np : p ∉ S) (nb : b ∉ S) (kn : ∀ c ∈ S, H' c ≠ none) : TabAt C ms H' p b rows g past := by
  have k := A.kn2
  have ee : ∀ {a : Addr}, H a ≠ none → a ∉ S → H' a = H a := fun {a} h n => by
    have := ex_eq (a := a) e (by rw [msk_at n]; exact h)
    rw [this, msk_at n]
  refine A.gen (ee (k p List.mem_cons_self) np) (ee (k b (List.mem_cons_of_mem _ List.mem_cons_self)) nb) (fun a o h n => ⟨?_, n⟩) fun c m => ?_
  · exact e _ _ (by rw [msk_at fun z => (mem3 n).2.2 (s a z)]; exact h)
  · by_cases z : c ∈ S
    · exact kn c z
    · rw [ee (A.kn c m) z]
      exact A.kn c m
/-- what was not to be touched has changed, and may be touched from now on -/
theorem _root_.Ob.TabAt.drop {C l : Addr} {ms : List Addr} {H H' : Hp} {p b : Addr} {rows : List (List Int)} {g : Nat} {past : Past} (A : TabAt C (l :: ms) H p b rows g past) (e : Ex (Fs.msk H [l]) H') (np : p ≠ l) (nb : b ≠ l) (nm : l ∉ ms) : TabAt C ms H' p b rows g past := by
  have k := A.kn2
  have ee : ∀ {a : Addr}, H a ≠ none → a ≠ l → H' a = H a := fun {a} h n => by
    have n2 : a ∉ [l] := fun m => n (List.mem_singleton.mp m)
    have := ex_eq (a := a) e (by rw [msk_at n2]; exact h)
    rw [this, msk_at n2]
  refine A.gen (ee (k p List.mem_cons_self) np) (ee (k b (List.mem_cons_of_mem _ List.mem_cons_self)) nb) (fun a o h n => ?_) fun c m => ?_
  · obtain ⟨h1, h2, h3⟩ := mem3 n
    have hal : a ≠ l := fun z => h3 (by rw [z]; exact List.mem_cons_self)
    exact ⟨(ee (by rw [h]; intro z; cases z) hal).trans h, nmem3 h1 h2 fun z => h3 (List.mem_cons_of_mem _ z)⟩
  · have hc := A.kn c (List.mem_cons_of_mem _ m)
    rw [ee hc fun z => nm (z ▸ m)]
    exact hc
theorem _root_.Ob.TabAt.only {C : Addr} {ms : List Addr} {H H' : Hp} {p b a : Addr} {rows : List (List Int)} {g : Nat} {past : Past} {o : HO} (A : TabAt C ms H p b rows g past) (e : Ex H H') (m : a ∈ ms) (np : p ≠ a) (nb : b ≠ a) : TabAt C ms (upd H' a o) p b rows g past :=
  A.keep (S := [a]) (fun c u h => by rw [upd_ne fun z => (msk_of h).2 (by rw [z]; exact List.mem_singleton.mpr rfl)]; exact e _ _ (msk_of h).1) (fun c h => by rw [List.mem_singleton.mp h]; exact m) (fun h => np (List.mem_singleton.mp h)) (fun h => nb (List.mem_singleton.mp h)) fun c h => by
    rw [List.mem_singleton.mp h, upd_same]
    intro y
    cases y
theorem wf_e (k : Nat) (h : k ≤ 40) : WfT [] k := ⟨Nat.zero_le _, h, (fun r m => nomatch m), (fun r m => nomatch m)⟩
theorem wf_1 (v : Int) (h : 0 ≤ v ∧ v ≤ 1000000000000) : WfT [[v]] 1 := ⟨by show 1 ≤ 9; decide, by decide, (fun r m => by rw [List.mem_singleton.mp m]; rfl), fun r m b hb => by
  rw [List.mem_singleton.mp m] at hb
  rw [List.mem_singleton.mp hb]
  exact h⟩
theorem tv_e {M : Hp} {r : Addr} (h : M r = some (.lst [])) : TV M r (iv []) := ⟨[], h, rfl, fun i q y h => by simp at h⟩
theorem tv_1 {M : Hp} {r s : Addr} {v : Int} (h : M r = some (.lst [.ref s])) (h2 : M s = some (.lst [.int v])) : TV M r (iv [[v]]) := ⟨[s], h, rfl, fun i q y h3 h4 => by
  cases i with
  | zero =>
    obtain rfl : s = q := Option.some.inj h3
    obtain rfl : [V.int v] = y := Option.some.inj h4
    exact h2
  | succ i => simp at h3⟩
/-- what L does not hold stays -/
theorem two_up {H H1 H2 : Hp} {L : List Addr} (a : Ex (Fs.msk H L) H1) (b : Ex (Fs.msk H1 L) H2) : Ex (Fs.msk H L) H2 := fun c o h => b _ _ (by rw [msk_at (msk_of h).2]; exact a _ _ h)
theorem sp_R {R : V → Hp → Prop} {sp : Sp} {vs : List V} {H : Hp} {E : XK} {Q : VK} (h : ∀ Q : VK, (∀ v H', R v H' → Q v H') → sp vs H Q E) (k : ∀ v H', R v H' → Q v H') : sp vs H Q E := h Q k
section
variable {K : PySem.W.Frag} {σ : L2.St} {H : Hp} {q l : Addr} {i : Nat} {d : Deed} {u0 u1 u2 u3 : V}
theorem st_0 (h : H q = some (.lst [u0, u1, u2, u3])) (hv : σ[i]? = some (some (.ref q))) : Ev (tOp (rIxL K) (tVar i) (tC (.int 0))) σ H u0 := ev_op (ev_var hv) ev_c (rv_ixL (sq_of h) (at_k (k := 0) rfl))
theorem st_1 (h : H q = some (.lst [u0, u1, u2, u3])) (hv : σ[i]? = some (some (.ref q))) : Ev (tOp (rIxL K) (tVar i) (tC (.int 1))) σ H u1 := ev_op (ev_var hv) ev_c (rv_ixL (sq_of h) (at_k (k := 1) rfl))
theorem st_2 (h : H q = some (.lst [u0, u1, u2, u3])) (hv : σ[i]? = some (some (.ref q))) : Ev (tOp (rIxL K) (tVar i) (tC (.int 2))) σ H u2 := ev_op (ev_var hv) ev_c (rv_ixL (sq_of h) (at_k (k := 2) rfl))
theorem st_3 (h : H q = some (.lst [u0, u1, u2, u3])) (hv : σ[i]? = some (some (.ref q))) : Ev (tOp (rIxL K) (tVar i) (tC (.int 3))) σ H u3 := ev_op (ev_var hv) ev_c (rv_ixL (sq_of h) (at_k (k := 3) rfl))
/-- deed[0] == "come" or deed[0] == "put" -/
theorem et_ln (h : H q = some (.lst (.str d.word :: d.items l))) (hv : σ[i]? = some (some (.ref q))) :
    EvT (tOr (tTest (tOp rEq (tOp (rIxL K) (tVar i) (tC (.int 0))) (tC (.str "come")))) (tTest (tOp rEq (tOp (rIxL K) (tVar i) (tC (.int 0))) (tC (.str "put"))))) σ H d.line.isSome := by
  cases d with
  | come ys => exact et_orT (et_w (w := "come") h hv (by decide +kernel))
  | put ys => exact et_orF (et_w (w := "put") h hv (by decide +kernel)) (et_w (w := "put") (b := true) h hv (by decide +kernel))
  | leave y => exact et_orF (et_w (w := "leave") h hv (by decide +kernel)) (et_w (w := "leave") (b := false) h hv (by decide +kernel))
  | take y => exact et_orF (et_w (w := "take") h hv (by decide +kernel)) (et_w (w := "take") (b := false) h hv (by decide +kernel))
  | bid y z w => exact et_orF (et_w (w := "bid") h hv (by decide +kernel)) (et_w (w := "bid") (b := false) h hv (by decide +kernel))
  | back => exact et_orF (et_w (w := "back") h hv (by decide +kernel)) (et_w (w := "back") (b := false) h hv (by decide +kernel))
end
theorem line_items {d : Deed} {ys : List V} (h : d.line = some ys) (l : Addr) : d.items l = [.ref l] := by
  cases d with
  | come _ => rfl
  | put _ => rfl
  | leave y => cases h
  | take y => cases h
  | bid y z w => cases h
  | back => cases h
theorem goods_eq {d : Deed} {n g : Nat} (h : dueE d n g = 0) : (g : Int) + (if decide (V.str d.word = V.str "put") = true then 1 else 0) - (if decide (V.str d.word = V.str "take") = true then 1 else 0) = (goodsE d g : Int) := by
  have f : ∀ {w x : Str} {b : Bool}, decide (V.str w = V.str x) = b → (if decide (V.str w = V.str x) = true then (1 : Int) else 0) = if b = true then 1 else 0 := fun h => by rw [h]
  match d, h with
  | .come ys, _ =>
    show (g : Int) + (if decide (V.str "come" = V.str "put") = true then 1 else 0) - (if decide (V.str "come" = V.str "take") = true then 1 else 0) = (g : Int)
    rw [f (b := false) (by decide +kernel), f (b := false) (by decide +kernel), if_neg (by decide)]
    omega
  | .put ys, _ =>
    show (g : Int) + (if decide (V.str "put" = V.str "put") = true then 1 else 0) - (if decide (V.str "put" = V.str "take") = true then 1 else 0) = ((g + 1 : Nat) : Int)
    rw [f (b := true) (by decide +kernel), f (b := false) (by decide +kernel), if_pos rfl, if_neg (by decide)]
    omega
  | .leave y, _ =>
    show (g : Int) + (if decide (V.str "leave" = V.str "put") = true then 1 else 0) - (if decide (V.str "leave" = V.str "take") = true then 1 else 0) = (g : Int)
    rw [f (b := false) (by decide +kernel), f (b := false) (by decide +kernel), if_neg (by decide)]
    omega
  | .take y, h =>
    obtain ⟨i, _, hi⟩ := place_int (place_if h)
    show (g : Int) + (if decide (V.str "take" = V.str "put") = true then 1 else 0) - (if decide (V.str "take" = V.str "take") = true then 1 else 0) = ((g - 1 : Nat) : Int)
    rw [f (b := false) (by decide +kernel), f (b := true) (by decide +kernel), if_pos rfl, if_neg (by decide)]
    omega
  | .bid y z w, _ =>
    show (g : Int) + (if decide (V.str "bid" = V.str "put") = true then 1 else 0) - (if decide (V.str "bid" = V.str "take") = true then 1 else 0) = (g : Int)
    rw [f (b := false) (by decide +kernel), f (b := false) (by decide +kernel), if_neg (by decide)]
    omega
  | .back, _ =>
    show (g : Int) + (if decide (V.str "back" = V.str "put") = true then 1 else 0) - (if decide (V.str "back" = V.str "take") = true then 1 else 0) = (g : Int)
    rw [f (b := false) (by decide +kernel), f (b := false) (by decide +kernel), if_neg (by decide)]
    omega
theorem wf_nextE {d : Deed} {rows : List (List Int)} {g : Nat} {past : Past} (h0 : dueE d rows.length g = 0) (W : WfT rows g) (wp : ∀ x ∈ past, WfT x.1 x.2) :
    WfT (nextE d rows g past).1 (nextE d rows g past).2.1 ∧ (∀ x ∈ (nextE d rows g past).2.2, WfT x.1 x.2) ∧ (nextE d rows g past).2.2.length ≤ past.length + 1 := by
  by_cases db : d = .back
  · subst db
    by_cases pn : past = []
    · subst pn
      exact ⟨W, wp, by show 0 ≤ _; omega⟩
    · obtain ⟨past', x, rfl⟩ := last_of pn
      rw [next_back]
      exact ⟨wp x (List.mem_append_right _ List.mem_cons_self), fun y m => wp y (List.mem_append_left _ m), by show past'.length ≤ (past' ++ [x]).length + 1; rw [List.length_append]; omega⟩
  · rw [next_do db]
    refine ⟨wf_next h0 W, fun x m => ?_, by rw [List.length_append]; exact Nat.le_refl _⟩
    rcases List.mem_append.mp m with m | m
    · exact wp x m
    · rw [List.mem_singleton.mp m]
      exact W
theorem _root_.Ob.TabAt.adds {C : Addr} {S : List Addr} {H H' : Hp} {p b : Addr} {rows : List (List Int)} {g : Nat} {past : Past} (A : TabAt C [] H p b rows g past) (e : Ex H H') (h : ∀ c ∈ S, H c = none ∧ H' c ≠ none) : TabAt C S H' p b rows g past := by
  have k := A.kn2
  refine A.gen (ex_eq e (k p List.mem_cons_self)) (ex_eq e (k b (List.mem_cons_of_mem _ List.mem_cons_self))) (fun a o h1 n => ⟨e _ _ h1, ?_⟩) fun c m => (h c m).2
  obtain ⟨n1, n2, n3⟩ := mem3 n
  exact nmem3 n1 n2 fun m => by
    rw [(h a m).1] at h1
    cases h1
/-- [te for x, y in pairs if tt], tt never -/
theorem el_pairs {K : PySem.W.Frag} {σ : L2.St} {H : Hp} {tt : TT} {te tl : TE} {a : Addr} {vs : List Addr} {j1 j2 : Nat} {ws : List Nat} (h : Ev tl σ H (.ref a)) (hx : SqL K H a (vs.map V.ref)) (hw : ∀ x y, wipe (((wipe σ ws).set j1 (some x)).set j2 (some y)) ws = wipe σ ws)
    (hp : ∀ v ∈ vs, ∃ x y, H v = some (.tup [x, y]) ∧ ∀ H1, Ex H H1 → EvT tt (((wipe σ ws).set j1 (some x)).set j2 (some y)) H1 false) :
    EvL (tLc (iList K tl) (gTup K 2 (gCons (gName j1) (gCons (gName j2) gNil))) tt te ws) σ H [] := by
  intro H0 e0 Q q
  refine h H0 e0 _ fun H1 e1 => ⟨a, rfl, ⟨_, ex_l (e0.trans e1) hx⟩, fun Dl hD => ?_⟩
  refine lc_list (K := K) (a := a) (xs := vs.map V.ref) (fun i H' => Ex H1 H' ∧ H' Dl = some (.lst [])) ⟨Ex.new hD, upd_same⟩ (fun i H' _ p => ex_l ((e0.trans e1).trans p.1) hx) (fun i x H' hi p => ?_) (fun H' p => q Dl H' (fresh_back e1 hD) (e1.trans p.1) p.2)
  rw [List.getElem?_map] at hi
  cases ei : vs[i]? with
  | none => rw [ei] at hi; cases hi
  | some v =>
    rw [ei] at hi
    obtain rfl : V.ref v = x := Option.some.inj hi
    obtain ⟨x, y, hv, ht⟩ := hp v (List.mem_of_getElem? ei)
    have ex := (e0.trans e1).trans p.1
    refine ⟨v, [x, y], rfl, st_of (ex _ _ hv), rfl, x, [y], rfl, y, [], rfl, rfl, hw _ _, ?_⟩
    refine ht H' ex H' (Ex.refl _) _ fun H2 e2 => ?_
    exact iteF ⟨p.1.trans e2, e2 _ _ p.2⟩
theorem rv_neII {K : PySem.W.Frag} {H : Hp} {a b : Addr} {rows : List (List Int)} (h1 : LL K H a rows) (h2 : LL K H b rows) : RV (rNeD K) (.ref a) (.ref b) H (.bl false) := by
  obtain ⟨d, k1, k2, k3⟩ := dp_lv (K := K) (H := H) (yss := iv rows) fun ys m y hy => by
    obtain ⟨z, _, rfl⟩ := List.mem_map.mp m
    exact itm_ints z y hy
  refine rv_neR (d := d) ?_ (k1 _ h1) (k1 _ h2)
  unfold SeqAt.shaped
  rw [k2]
  exact decide_eq_true (by omega)
/-- if not te: .. -/
theorem s_ifnot {σ : L2.St} {H : Hp} {te : TE} {tu : TS} {D : Ends} (h : te σ H fun x H1 => ∃ k, x = .bl k ∧ if (!k) = true then tu D σ H1 else D.nx σ H1) : tIfS (tNot (tB te)) tu tNext D σ H := h
/-- two deeds of the same kind, the same things in them: the same data -/
theorem deed_dp {K : PySem.W.Frag} {M : Hp} {q l q' l' : Addr} {d : Deed} (h : DeedAt K M q l d) (h' : DeedAt K M q' l' d) : ∃ D, Dp K M (.ref q) D ∧ Dp K M (.ref q') D ∧ SeqAt.shaped D = true := by
  have key : ∃ ds, DpAll K M (d.items l) ds ∧ DpAll K M (d.items l') ds ∧ PyData.canLayAll0 ds = true ∧ PyData.depthAll ds ≤ 4 := by
    have line : ∀ ys, d.line = some ys → ∃ ds, DpAll K M [V.ref l] ds ∧ DpAll K M [V.ref l'] ds ∧ PyData.canLayAll0 ds = true ∧ PyData.depthAll ds ≤ 4 := fun ys hy => by
      obtain ⟨ds, h1, h2, h3⟩ := dp_items (h.ln ys hy).2.2
      refine ⟨[.list ds], .cons (.lst (sq_of (h.ln ys hy).1) h1) .nil, .cons (.lst (sq_of (h'.ln ys hy).1) h1) .nil, ?_, ?_⟩
      · simp only [PyData.canLayAll0, PyData.canLay0]
        rw [h2]
        rfl
      · simp only [PyData.depthAll, PyData.depth]
        omega
    have flat : d.line = none → d.items l = d.items l' → ∃ ds, DpAll K M (d.items l) ds ∧ DpAll K M (d.items l') ds ∧ PyData.canLayAll0 ds = true ∧ PyData.depthAll ds ≤ 4 := fun hn he => by
      obtain ⟨ds, h1, h2, h3⟩ := dp_items (h.it hn)
      exact ⟨ds, h1, he ▸ h1, h2, by omega⟩
    cases d with
    | come ys => exact line ys rfl
    | put ys => exact line ys rfl
    | leave y => exact flat rfl rfl
    | take y => exact flat rfl rfl
    | bid y z w => exact flat rfl rfl
    | back => exact flat rfl rfl
  obtain ⟨ds, h1, h2, h3, h4⟩ := key
  refine ⟨.list (.str d.word :: ds), .lst (sq_of h.at_) (.cons (.str _) h1), .lst (sq_of h'.at_) (.cons (.str _) h2), ?_⟩
  unfold SeqAt.shaped
  simp only [PyData.canLay0, PyData.canLayAll0, PyData.depth, PyData.depthAll]
  have hs : PyData.strOk d.word = true := match d with
    | .come _ => (by decide +kernel : PyData.strOk "come" = true)
    | .leave _ => (by decide +kernel : PyData.strOk "leave" = true)
    | .put _ => (by decide +kernel : PyData.strOk "put" = true)
    | .take _ => (by decide +kernel : PyData.strOk "take" = true)
    | .bid _ _ _ => (by decide +kernel : PyData.strOk "bid" = true)
    | .back => (by decide +kernel : PyData.strOk "back" = true)
  rw [h3, hs]
  exact decide_eq_true (by omega)
end Tb

namespace Fk13
open PySem PySem.Spec PyProof.Rows L2 Evl Fs Xs Rm Rx Tx TL Cr Ob Tb
def topS (i : Nat) : Stmt := PySem.Challenge.pw_fairsplit_k13_whole_table_fair.main.body.getD i (.Pass ⟨0, 0, 0, 0⟩)
/-! ### is_number -/
abbrev s_is_number : Stmt := topS 12
theorem sc_is_number : FnScope ["thing"] ["thing"] (defScope s_is_number) := ⟨rfl, rfl, rfl, by decide +kernel, rfl, by decide +kernel, by decide +kernel⟩
def sp_is_number (K : PySem.W.Frag) : Sp := spWhole
section
variable {P : Program} {w : World} {K : PySem.W.Frag} {mg : Str → Option Value} {base : Heap} {cl : Nat → Addr} {C : Addr}
theorem ok_is_number (D : DnX K mg "is_number" s_is_number ["thing"]) (B : Bt mg) : Ok P w K mg base CX0 1 "is_number" ["thing"] (sp_is_number K) := by
  refine ok_of D sc_is_number (fun vs H Q E h => by obtain ⟨_, rfl, _⟩ := h; rfl) (fun f cdv A outer s H vs Q E hr h => ⟨_, (pss_one (ps_ret (pe_and (pe_callB (isiK (K := K)) (by rfl) B.isinstance (by decide +kernel) (pa_cons (pv 0) (pa_cons (pe_bltn (v := .ty "int") (by rfl) B.int (by decide +kernel) rfl) pa_nil))) (pe_one (pe_not (pe_callB (isiK (K := K)) (by rfl) B.isinstance (by decide +kernel) (pa_cons (pv 0) (pa_cons (pe_bltn (v := .ty "bool") (by rfl) B.bool (by decide +kernel) rfl) pa_nil)))))))), ?_⟩)
  obtain ⟨x, rfl, ha, q⟩ := h
  exact rd_whole ha q fun Q q => ⟨x, rfl, q⟩
end
/-! ### is_bid -/
abbrev s_is_bid : Stmt := topS 13
theorem sc_is_bid : FnScope ["thing"] ["thing"] (defScope s_is_bid) := ⟨rfl, rfl, rfl, by decide +kernel, rfl, by decide +kernel, by decide +kernel⟩
def sp_is_bid (K : PySem.W.Frag) : Sp := sp1 fun x H Q => Any H x ∧ Q (.bl (bidOk x)) H
section
variable {P : Program} {w : World} {K : PySem.W.Frag} {mg : Str → Option Value} {base : Heap} {cl : Nat → Addr} {C : Addr}
theorem ok_is_bid (D : DnX K mg "is_bid" s_is_bid ["thing"]) (B : Bt mg) (c_GREATEST_BID : KInt mg "GREATEST_BID" 1000000000000) (h_is_number : Ok P w K mg base CX0 1 "is_number" ["thing"] (sp_is_number K)) : Ok P w K mg base CX0 2 "is_bid" ["thing"] (sp_is_bid K) := by
  refine ok_of D sc_is_bid (fun vs H Q E h => by obtain ⟨_, rfl, _⟩ := h; rfl) (fun f cdv A outer s H vs Q E hr h => ⟨_, (pss_one (ps_ret (pe_and (pe_ok h_is_number hr (by rfl) pass0 (pa_cons (pv 0) pa_nil)) (pe_one (pe_chain op_le op_le pe_int (pv 0) (pe_const (by rfl) c_GREATEST_BID)))))), ?_⟩)
  obtain ⟨x, rfl, ha, q⟩ := h
  refine ⟨x, rfl, x, rfl, ha, isInt x, rfl, ?_⟩
  cases x with
  | int i =>
    refine iteT ⟨_, rfl, _, _, rfl, rfl, _, rfl, ?_⟩
    by_cases h0 : 0 ≤ i
    · rw [decide_eq_true h0]
      refine iteT ⟨_, _, rfl, rfl, ?_⟩
      have e : bidOk (.int i) = decide (i ≤ 1000000000000) := by simp [bidOk, h0]
      rw [e] at q
      exact q
    · rw [decide_eq_false h0]
      refine iteF ?_
      have e : bidOk (.int i) = false := by simp [bidOk, h0]
      rw [e] at q
      exact q
  | _ => exact q
end
/-! ### is_place -/
abbrev s_is_place : Stmt := topS 14
theorem sc_is_place : FnScope ["thing", "many"] ["thing", "many"] (defScope s_is_place) := ⟨rfl, rfl, rfl, by decide +kernel, rfl, by decide +kernel, by decide +kernel⟩
def sp_is_place (K : PySem.W.Frag) : Sp := sp2 fun x y H Q => ∃ m, y = .int m ∧ Any H x ∧ Q (.bl (place x m)) H
section
variable {P : Program} {w : World} {K : PySem.W.Frag} {mg : Str → Option Value} {base : Heap} {cl : Nat → Addr} {C : Addr}
theorem ok_is_place (D : DnX K mg "is_place" s_is_place ["thing", "many"]) (B : Bt mg) (h_is_number : Ok P w K mg base CX0 1 "is_number" ["thing"] (sp_is_number K)) : Ok P w K mg base CX0 2 "is_place" ["thing", "many"] (sp_is_place K) := by
  refine ok_of D sc_is_place (fun vs H Q E h => by obtain ⟨_, _, rfl, _⟩ := h; rfl) (fun f cdv A outer s H vs Q E hr h => ⟨_, (pss_one (ps_ret (pe_and (pe_ok h_is_number hr (by rfl) pass0 (pa_cons (pv 0) pa_nil)) (pe_one (pe_chain op_le op_lt pe_int (pv 0) (pv 1)))))), ?_⟩)
  obtain ⟨x, y, rfl, m, rfl, ha, q⟩ := h
  refine ⟨x, rfl, x, rfl, ha, isInt x, rfl, ?_⟩
  cases x with
  | int i =>
    refine iteT ⟨_, rfl, _, _, rfl, rfl, _, rfl, ?_⟩
    by_cases h0 : 0 ≤ i
    · rw [decide_eq_true h0]
      refine iteT ⟨_, rfl, _, _, rfl, rfl, ?_⟩
      have e : place (.int i) m = decide (i < m) := by simp [place, h0]
      rw [e] at q
      exact q
    · rw [decide_eq_false h0]
      refine iteF ?_
      have e : place (.int i) m = false := by simp [place, h0]
      rw [e] at q
      exact q
  | _ => exact q
end
/-! ### check_line -/
abbrev s_check_line : Stmt := topS 15
theorem sc_check_line : FnScope ["line", "many", "bid"] ["line", "many"] (defScope s_check_line) := ⟨rfl, rfl, rfl, by decide +kernel, rfl, by decide +kernel, by decide +kernel⟩
def sp_check_line (K : PySem.W.Frag) (cl : Nat → Addr) : Sp := sp2X fun x y H Q E => ∃ (a : Addr) (r : List V) (m : Int), x = .ref a ∧ y = .int m ∧ SqL K H a r ∧ (∀ y ∈ r, Any H y) ∧ DueX cl (lineD m r) .non H Q E
section
variable {P : Program} {w : World} {K : PySem.W.Frag} {mg : Str → Option Value} {base : Heap} {cl : Nat → Addr} {C : Addr}
theorem ok_check_line (D : DnX K mg "check_line" s_check_line ["line", "many"]) (B : Bt mg) (x_Uneven : ExC K mg "Uneven" (cl 3)) (x_BadBid : ExC K mg "BadBid" (cl 4)) (h_is_bid : Ok P w K mg base CX0 2 "is_bid" ["thing"] (sp_is_bid K)) : Ok P w K mg base (L2.CX P w) 3 "check_line" ["line", "many"] (sp_check_line K cl) := by
  refine okX_of D sc_check_line (fun vs H Q E h => by obtain ⟨_, _, rfl, _⟩ := h; rfl) (fun f cdv A outer s H vs Q E hr h => ⟨_, (pss_cons (ps_if (pt_cmpR op_ne (pe_callB (lenK (K := K)) (by rfl) B.len PySem.boot_len (pa_cons (pv 0) pa_nil)) (pv 1) (nomark _))
        (pss_one (ps_raiseX x_Uneven (takes_of rfl rfl rfl rfl)))
        pss_nil)
      (pss_one (ps_for (passes_of rfl) rfl (pi_listK (K := K) (pv 0)) (pg_name (i := 2) sc_check_line.nd rfl (Or.inl rfl))
        (pss_one (ps_if (pt_not (pt_val (pe_ok h_is_bid hr (by rfl) pass0 (pa_cons (pv 2) pa_nil))))
          (pss_one (ps_raiseX x_BadBid (takes_of rfl rfl rfl rfl)))
          pss_nil))))), ?_⟩)
  obtain ⟨x, y, rfl, a, r, m, rfl, rfl, hA, hy, q⟩ := h
  refine q_when (et_test (ev_op (ev_len (ev_var rfl) hA) (ev_var rfl) (rv_ne rfl))) (fun hb H1 e1 => ?_) fun hb H1 e1 => ?_
  · refine q.out (k := 3) ?_ (by decide) e1
    unfold lineD
    rw [if_neg fun z => ?_]
    rw [z, decide_eq_true rfl] at hb
    cases hb
  have hm : (r.length : Int) = m := by
    by_cases z : (r.length : Int) = m
    · exact z
    · rw [decide_eq_false fun h => z (V.int.inj h)] at hb
      cases hb
  have ed : lineD m r = if r.all bidOk = true then 0 else 4 := if_pos hm
  refine s_forLn (ev_var rfl) (ex_l e1 hA) (fun i σ H' => ∃ z, σ = [some (.ref a), some (.int m), z] ∧ Ex H H' ∧ ∀ (k : Nat) y, k < i → r[k]? = some y → bidOk y = true) (fun H2 e2 => ⟨none, rfl, e1.trans e2, fun k y hk => by omega⟩) (fun i σ' H' _ h => by obtain ⟨z, _, e, _⟩ := h; exact ex_l e hA) ?_ ?_
  · rintro i x σ' H' hi ⟨z, rfl, e, hall⟩
    refine s_when (et_not (et_B (ev_call (ea_cons (ev_var rfl) ea_nil) fun H2 e2 Q q E => ⟨_, rfl, (hy x (List.mem_of_getElem? hi)).mono (e.trans e2), q H2 (Ex.refl H2)⟩))) (fun hb H2 e2 => ?_) fun hb H2 e2 => ⟨_, rfl, e.trans e2, fun k y hk hk2 => ?_⟩
    · refine q.out (k := 4) ?_ (by decide) (e.trans e2)
      rw [ed, if_neg fun z => ?_]
      rw [List.all_eq_true.mp z x (List.mem_of_getElem? hi)] at hb
      cases hb
    · by_cases hki : k = i
      · subst hki
        obtain rfl : x = y := Option.some.inj (hi.symm.trans hk2)
        cases h : bidOk x with
        | true => rfl
        | false =>
          rw [h] at hb
          cases hb
      · exact hall k y (by omega) hk2
  · rintro σ' H' ⟨z, rfl, e, hall⟩
    refine q.1 ?_ H' e
    rw [ed, if_pos (List.all_eq_true.mpr fun y hy => ?_)]
    obtain ⟨k, hk⟩ := List.getElem?_of_mem hy
    exact hall k y (List.getElem?_eq_some_iff.mp hk).1 hk
end
/-! ### check_bids -/
abbrev s_check_bids : Stmt := topS 16
theorem sc_check_bids : FnScope ["bids", "many", "row"] ["bids"] (defScope s_check_bids) := ⟨rfl, rfl, rfl, by decide +kernel, rfl, by decide +kernel, by decide +kernel⟩
def sp_check_bids (K : PySem.W.Frag) (cl : Nat → Addr) : Sp := sp1X fun x H Q E => ∃ (a : Addr) (yss : List (List V)), x = .ref a ∧ LV K H a yss ∧ (∀ y ∈ yss.flatten, Any H y) ∧ DueX cl (dueB yss) .non H Q E
section
variable {P : Program} {w : World} {K : PySem.W.Frag} {mg : Str → Option Value} {base : Heap} {cl : Nat → Addr} {C : Addr}
theorem ok_check_bids (D : DnX K mg "check_bids" s_check_bids ["bids"]) (B : Bt mg) (x_NoPeople : ExC K mg "NoPeople" (cl 1)) (x_TooMany : ExC K mg "TooMany" (cl 2)) (c_MOST_PEOPLE : KInt mg "MOST_PEOPLE" 9) (c_MOST_GOODS : KInt mg "MOST_GOODS" 40) (h_check_line : Ok P w K mg base (L2.CX P w) 3 "check_line" ["line", "many"] (sp_check_line K cl)) : Ok P w K mg base (L2.CX P w) 4 "check_bids" ["bids"] (sp_check_bids K cl) := by
  refine okX_of D sc_check_bids (fun vs H Q E h => by obtain ⟨_, rfl, _⟩ := h; rfl) (fun f cdv A outer s H vs Q E hr h => ⟨_, (pss_cons (ps_if (pt_cmpR op_eq (pe_callB (lenK (K := K)) (by rfl) B.len PySem.boot_len (pa_cons (pv 0) pa_nil)) pe_int (nomark _))
        (pss_one (ps_raiseX x_NoPeople (takes_of rfl rfl rfl rfl)))
        pss_nil)
      (pss_cons (ps_if (pt_cmpR op_gt (pe_callB (lenK (K := K)) (by rfl) B.len PySem.boot_len (pa_cons (pv 0) pa_nil)) (pe_const (by rfl) c_MOST_PEOPLE) (nomark _))
        (pss_one (ps_raiseX x_TooMany (takes_of rfl rfl rfl rfl)))
        pss_nil)
      (pss_cons (ps_set (i := 1) sc_check_bids.nd rfl (Or.inl rfl) (pe_callB (lenK (K := K)) (by rfl) B.len PySem.boot_len (pa_cons (pe_ix (ixL (K := K)) (pv 0) pe_int (fun _ _ => rfl)) pa_nil)))
      (pss_cons (ps_if (pt_cmpR op_gt (pv 1) (pe_const (by rfl) c_MOST_GOODS) (nomark _))
        (pss_one (ps_raiseX x_TooMany (takes_of rfl rfl rfl rfl)))
        pss_nil)
      (pss_one (ps_for (passes_of rfl) rfl (pi_listK (K := K) (pv 0)) (pg_name (i := 2) sc_check_bids.nd rfl (Or.inl rfl))
        (pss_one (ps_expr (pe_okS h_check_line hr (by rfl) (fun σ => passAt (takes_of rfl rfl rfl rfl) σ) (pa_cons (pv 2) (pa_cons (pv 1) pa_nil))))))))))), ?_⟩)
  obtain ⟨x, rfl, a, yss, rfl, hA, hy, q⟩ := h
  refine q_when (et_test (ev_op (ev_lenLL hA (ev_var rfl)) ev_c (rv_eq rfl))) (fun hb H1 e1 => ?_) fun hb H1 e1 => ?_
  · refine q.out (k := 1) ?_ (by decide) e1
    have := V.int.inj (of_decide_eq_true hb)
    unfold dueB
    rw [if_pos (by omega)]
  have n0 : yss.length ≠ 0 := fun z => by
    rw [z] at hb
    cases hb
  refine q_when (et_test (ev_op (ev_lenLL (hA.mono e1) (ev_var rfl)) ev_c rv_I0)) (fun hb H2 e2 => ?_) fun hb H2 e2 => ?_
  · refine q.out (k := 2) ?_ (by decide) (e1.trans e2)
    have := of_decide_eq_true hb
    unfold dueB
    rw [if_neg n0, if_pos (by omega)]
  have n9 : ¬ 9 < yss.length := by
    have := of_decide_eq_false hb
    omega
  have e12 := e1.trans e2
  obtain ⟨ps, r0, hps, hpl, hr0, hs0⟩ := (hA.mono e12).at2 (i := 0) (by omega)
  have eh : yss.getD 0 [] = yss[0] := by
    have : 0 < yss.length := by omega
    simp [List.getD_eq_getElem?_getD, this]
  refine q_asg (v := .int ((yss.getD 0 []).length : Int)) (ev_is (ev_len (ev_op (ev_var rfl) ev_c (rv_ixL hps (at_refs (i := 0) hr0))) hs0) (by rw [eh])) fun H3 e3 => ?_
  refine q_when (et_test (ev_op (ev_var rfl) ev_c rv_I0)) (fun hb H4 e4 => ?_) fun hb H4 e4 => ?_
  · refine q.out (k := 2) ?_ (by decide) ((e12.trans e3).trans e4)
    have := of_decide_eq_true hb
    unfold dueB
    rw [if_neg n0, if_neg n9, if_pos (by omega)]
  have n40 : ¬ 40 < (yss.getD 0 []).length := by
    have := of_decide_eq_false hb
    omega
  have ed : dueB yss = rowsD (yss.getD 0 []).length yss := by
    unfold dueB
    rw [if_neg n0, if_neg n9, if_neg n40]
  have e14 := (e12.trans e3).trans e4
  obtain ⟨qs, hqs, hql, hqa⟩ := hA
  refine s_forLn (ev_var rfl) (ex_l e14 hqs) (fun i σ H' => ∃ z, σ = [some (.ref a), some (.int ((yss.getD 0 []).length : Int)), z] ∧ Ex H H' ∧ ∀ (k : Nat) y, k < i → yss[k]? = some y → lineD (yss.getD 0 []).length y = 0) (fun H2 e2 => ⟨none, rfl, e14.trans e2, fun k y hk => by omega⟩) (fun i σ' H' _ h => by obtain ⟨z, _, e, _⟩ := h; exact ex_l e hqs) ?_ ?_
  · rintro i x σ' H' hi ⟨z, rfl, e, hall⟩
    rw [List.getElem?_map] at hi
    cases ei : qs[i]? with
    | none =>
      rw [ei] at hi
      cases hi
    | some p =>
      rw [ei] at hi
      obtain rfl : V.ref p = x := Option.some.inj hi
      have hil : i < yss.length := by
        have := (List.getElem?_eq_some_iff.mp ei).1
        omega
      have hyi : yss[i]? = some yss[i] := List.getElem?_eq_getElem hil
      have hs := hqa i p _ ei hyi
      refine s_dropS (ea_cons (ev_var rfl) (ea_cons (ev_var rfl) ea_nil)) fun H5 e5 => ⟨_, _, rfl, p, yss[i], _, rfl, rfl, ex_l (e.trans e5) hs, fun y hm => (hy y (List.mem_flatten.mpr ⟨_, List.getElem_mem hil, hm⟩)).mono (e.trans e5), fun h0 H6 e6 => ⟨_, rfl, (e.trans e5).trans e6, fun k y hk hk2 => ?_⟩, fun h0 H6 e6 => ?_⟩
      · by_cases hki : k = i
        · subst hki
          obtain rfl : yss[k] = y := Option.some.inj (hyi.symm.trans hk2)
          exact h0
        · exact hall k y (by omega) hk2
      · exact q.out (by rw [ed]; exact rowsD_at hyi hall h0) h0 ((e.trans e5).trans e6)
  · rintro σ' H' ⟨z, rfl, e, hall⟩
    refine q.1 ?_ H' e
    rw [ed]
    refine rowsD_zero fun y hm => ?_
    obtain ⟨k, hk⟩ := List.getElem?_of_mem hm
    refine hall k y ?_ hk
    have := (List.getElem?_eq_some_iff.mp hk).1
    rw [List.length_map]
    omega
end
/-! ### worth -/
abbrev s_worth : Stmt := topS 18
theorem sc_worth : FnScope ["row", "heap", "good"] ["row", "heap"] (defScope s_worth) := ⟨rfl, rfl, rfl, by decide +kernel, rfl, by decide +kernel, by decide +kernel⟩
def sp_worth (K : PySem.W.Frag) : Sp := sp2 fun x y H Q => ∃ (a b : Addr) (row heap : List Int), x = .ref a ∧ y = .ref b ∧ SqL K H a (row.map V.int) ∧ SqL K H b (heap.map V.int) ∧ heap.length ≤ 4000 ∧ Inside row.length heap ∧ RetV (.int (worthM row heap)) H Q
section
variable {P : Program} {w : World} {K : PySem.W.Frag} {mg : Str → Option Value} {base : Heap} {cl : Nat → Addr} {C : Addr}
theorem ok_worth (D : DnX K mg "worth" s_worth ["row", "heap"]) (B : Bt mg) (h_is_place : Ok P w K mg base CX0 2 "is_place" ["thing", "many"] (sp_is_place K)) : Ok P w K mg base CX0 3 "worth" ["row", "heap"] (sp_worth K) := by
  refine ok_of D sc_worth (fun vs H Q E h => by obtain ⟨_, _, rfl, _⟩ := h; rfl) (fun f cdv A outer s H vs Q E hr h => ⟨_, (pss_one (ps_ret (pe_callB (sumK (K := K) rfl) (by rfl) B.sum (by decide +kernel) (pa_cons (pe_lc (own := [("good", 2)]) rfl sc_worth.nd  (pi_listK (K := K) (pv 1)) (blkOk_by (own := [("good", 2)]) (N := ["row", "heap", "good"]) (sc := (defScope s_worth)) (by decide +kernel)) (fun _ _ _ _ _ => (pg_name (i := 2) sc_worth.nd rfl (Or.inl rfl))) (fun _ _ _ _ _ => (pts_one (pt_val (pe_ok h_is_place hr (by rfl) pass0 (pa_cons (pv 2) (pa_cons (pe_callB (lenK (K := K)) (by rfl) B.len PySem.boot_len (pa_cons (pv 0) pa_nil)) pa_nil)))))) (fun _ _ _ _ _ => (pe_ix (ixL (K := K)) (pv 0) (pv 2) (fun _ _ => rfl)))) pa_nil)))), ?_⟩)
  obtain ⟨x, y, rfl, a, b, row, heap, rfl, rfl, hr1, hh, hl, hw, q⟩ := h
  refine g_ret (g_cb1 ?_)
  refine go_by (xs := heap) (enc := V.int) (fun _ => true) (fun g => .int (row.getD g.toNat 0)) (ev_var rfl) hh (by omega) (fun _ => rfl) (fun g hg H1 e1 => ?_) (fun g hg H1 e1 _ => ?_) fun p H2 hp e2 h2 => ?_
  · obtain ⟨g0, g1⟩ := hw g hg
    have e : place (.int g) (row.length : Int) = true := by simp [place, g0, g1]
    rw [← e]
    refine et_B ?_
    intro H2 e2 Q q
    refine ⟨_, rfl, _, rfl, a, _, rfl, .inl (ex_l (e1.trans e2) hr1), _, _, rfl, _, rfl, .int g, ?_⟩
    rw [List.length_map]
    exact q H2 (Ex.refl H2)
  · obtain ⟨g0, g1⟩ := hw g hg
    exact ev_op (ev_var rfl) (ev_var rfl) (rv_ixL (ex_l e1 hr1) (at_ints g0 g1))
  · rw [List.filter_eq_self.mpr (fun _ _ => rfl)] at h2
    refine ⟨p, heap.map (fun g : Int => row.getD g.toNat 0), rfl, .inl (.inl ?_), q H2 e2⟩
    rw [h2, List.map_map]
    rfl
end
/-! ### first_of_most -/
abbrev s_first_of_most : Stmt := topS 23
theorem sc_first_of_most : FnScope ["bids", "good", "column", "row"] ["bids", "good"] (defScope s_first_of_most) := ⟨rfl, rfl, rfl, by decide +kernel, rfl, by decide +kernel, by decide +kernel⟩
theorem least_at {ns : List Int} {m : Int} (h : m ∈ ns) : ∃ j : Nat, ns[j]? = some m ∧ ∀ (k : Nat) z, k < j → ns[k]? = some z → z ≠ m := by
  induction ns with
  | nil => cases h
  | cons x r ih =>
    by_cases e : x = m
    · exact ⟨0, by rw [e]; rfl, fun k z hk => by omega⟩
    · rcases List.mem_cons.mp h with h | h
      · exact absurd h.symm e
      · obtain ⟨j, h1, h2⟩ := ih h
        refine ⟨j + 1, h1, fun k z hk hz => ?_⟩
        cases k with
        | zero =>
          obtain rfl : x = z := Option.some.inj hz
          exact e
        | succ k => exact h2 k z (by omega) hz
def sp_first_of_most (K : PySem.W.Frag) : Sp := sp2 fun x y H Q => ∃ (a : Addr) (rows : List (List Int)) (m g : Nat), x = .ref a ∧ y = .int g ∧ LL K H a rows ∧ Bids rows m ∧ g < m ∧ ∀ j H2, Ex H H2 → j < rows.length → firstB rows j g = true → Q (.int (j : Nat)) H2
section
variable {P : Program} {w : World} {K : PySem.W.Frag} {mg : Str → Option Value} {base : Heap} {cl : Nat → Addr} {C : Addr}
theorem ok_first_of_most (D : DnX K mg "first_of_most" s_first_of_most ["bids", "good"]) (B : Bt mg) : Ok P w K mg base CX0 1 "first_of_most" ["bids", "good"] (sp_first_of_most K) := by
  refine ok_of D sc_first_of_most (fun vs H Q E h => by obtain ⟨_, _, rfl, _⟩ := h; rfl) (fun f cdv A outer s H vs Q E hr h => ⟨_, (pss_cons (ps_setLc (own := [("row", 3)]) (i := 2) rfl sc_first_of_most.nd rfl rfl (sw_true rfl rfl rfl (by decide +kernel))  (pi_listK (K := K) (pv 0)) (blkOk_by (own := [("row", 3)]) (N := ["bids", "good", "column", "row"]) (sc := (defScope s_first_of_most)) (by decide +kernel)) (fun _ _ _ _ _ => (pg_name (i := 3) sc_first_of_most.nd rfl (Or.inl rfl))) (fun _ _ _ _ _ => pts_nil) (fun _ _ _ _ _ => (pe_ix (ixL (K := K)) (pv 3) (pv 1) (fun _ _ => rfl))))
      (pss_one (ps_ret (pe_bm PySem.F.plainAttrs_list PySem.F.slot_list_index PySem.F.type_list_index (indexK (K := K)) (pv 2) (pa_cons (pe_callB (maxK (K := K) rfl) (by rfl) B.max (by decide +kernel) (pa_cons (pv 2) pa_nil)) pa_nil))))), ?_⟩)
  obtain ⟨x, y, rfl, a, rows, m, g, rfl, rfl, hA, hb, hg, q⟩ := h
  have l9 := hb.l9
  have hne := hb.ne
  refine q_asgL (el_rows (rows := rows) (fun r => .int (r.getD g 0)) (ev_var rfl) hA (by omega) (fun _ => rfl) (fun i p H1 hi hp e1 => ev_op (ev_var rfl) (ev_var rfl) (rv_ixL hp (at_ints (i := (g : Int)) (by omega) (by rw [hb.at_ hi]; omega))))) fun c H1 hc e1 h1 => ?_
  generalize hcol : rows.map (fun r => r.getD g 0) = col
  have h1' : H1 c = some (.lst (col.map V.int)) := by
    rw [h1, ← hcol, List.map_map]
    rfl
  have cl : col.length = rows.length := by rw [← hcol, List.length_map]
  have cat : ∀ {k : Nat}, k < rows.length → col[k]? = some (bidAt rows k g) := by
    intro k hk
    rw [← hcol, List.getElem?_map, List.getElem?_eq_getElem hk]
    simp [bidAt, List.getD_eq_getElem?_getD, hk]
  refine g_ret ⟨.ref c, rfl, .inl ⟨rfl, _, sq_of h1'⟩, ?_⟩
  refine ⟨.ref c, rfl, c, col, rfl, sq_of h1', by omega, fun mx hmx hle => ?_⟩
  obtain ⟨j, hj, hmin⟩ := least_at hmx
  have hjl : j < rows.length := by
    have := (List.getElem?_eq_some_iff.mp hj).1
    omega
  refine ⟨c, col.map V.int, .int mx, j, .int mx, rfl, rfl, sq_of h1', rfl, ?_, by rw [List.getElem?_map, hj]; rfl, by show (mx == mx) = true; exact beq_self_eq_true mx, fun k z hk hz => ?_, q j H1 e1 hjl ?_⟩
  · exact List.all_eq_true.mpr fun x hx => by
      obtain ⟨y, _, rfl⟩ := List.mem_map.mp hx
      rfl
  · rw [List.getElem?_map] at hz
    cases ek : col[k]? with
    | none =>
      rw [ek] at hz
      cases hz
    | some w =>
      rw [ek] at hz
      obtain rfl : V.int w = z := Option.some.inj hz
      exact beq_eq_false_iff_ne.mpr (hmin k w hk ek)
  · have ej : bidAt rows j g = mx := Option.some.inj ((cat hjl).symm.trans hj)
    refine firstB_iff.mpr fun k hk => ?_
    have ck := cat hk
    refine ⟨by rw [ej]; exact hle _ (List.mem_of_getElem? ck), fun e => ?_⟩
    by_cases hkj : k < j
    · exact absurd (e.trans ej) (hmin k _ hkj ck)
    · omega
end
/-! ### given -/
abbrev s_given : Stmt := topS 22
theorem sc_given : FnScope ["bids", "heaps", "good", "row"] ["bids"] (defScope s_given) := ⟨rfl, rfl, rfl, by decide +kernel, rfl, by decide +kernel, by decide +kernel⟩
def sp_given (K : PySem.W.Frag) : Sp := sp1 fun x H Q => ∃ (a : Addr) (rows : List (List Int)) (m : Nat), x = .ref a ∧ LL K H a rows ∧ Bids rows m ∧ ∀ p ps H2, LNew H H2 p ps (iv (heapsM rows m)) → Ex H H2 → Q (.ref p) H2
section
variable {P : Program} {w : World} {K : PySem.W.Frag} {mg : Str → Option Value} {base : Heap} {cl : Nat → Addr} {C : Addr}
theorem ok_given (D : DnX K mg "given" s_given ["bids"]) (B : Bt mg) (h_first_of_most : Ok P w K mg base CX0 1 "first_of_most" ["bids", "good"] (sp_first_of_most K)) : Ok P w K mg base CX0 2 "given" ["bids"] (sp_given K) := by
  refine ok_of D sc_given (fun vs H Q E h => by obtain ⟨_, rfl, _⟩ := h; rfl) (fun f cdv A outer s H vs Q E hr h => ⟨_, (pss_cons (ps_setLc (own := [("row", 3)]) (i := 1) rfl sc_given.nd rfl rfl (sw_true rfl rfl rfl (by decide +kernel))  (pi_listK (K := K) (pv 0)) (blkOk_by (own := [("row", 3)]) (N := ["bids", "heaps", "good", "row"]) (sc := (defScope s_given)) (by decide +kernel)) (fun _ _ _ _ _ => (pg_name (i := 3) sc_given.nd rfl (Or.inl rfl))) (fun _ _ _ _ _ => pts_nil) (fun _ _ _ _ _ => (pe_lst pa_nil)))
      (pss_cons (ps_for PassesOwn.never rfl (pi_range1 (by rfl) B.range (pa_cons (pe_callB (lenK (K := K)) (by rfl) B.len PySem.boot_len (pa_cons (pe_ix (ixL (K := K)) (pv 0) pe_int (fun _ _ => rfl)) pa_nil)) pa_nil)) (pg_name (i := 2) sc_given.nd rfl (Or.inl rfl))
        (pss_one (ps_expr (pe_bm PySem.F.plainAttrs_list PySem.F.slot_list_append PySem.F.type_list_append mt_append (pe_ix (ixL (K := K)) (pv 1) (pe_ok h_first_of_most hr (by rfl) pass0 (pa_cons (pv 0) (pa_cons (pv 2) pa_nil))) (fun _ _ => rfl)) (pa_cons (pv 2) pa_nil)))))
      (pss_one (ps_ret (pv 1))))), ?_⟩)
  obtain ⟨x, rfl, a, rows, m, rfl, hA, hb, q⟩ := h
  have ll : (iv rows).length = rows.length := List.length_map _
  have l9 := hb.l9
  have hne := hb.ne
  have h40 := hb.m40
  obtain ⟨as, hAs, hAl, _⟩ := id hA
  refine q_asgN (ys := iv (List.replicate rows.length [])) (en_ys (xs := as) (enc := V.ref) (ev_var rfl) hAs (by omega) (by rw [List.length_map, List.length_replicate]; omega) (fun _ => rfl) fun i x y H5 hi hy e5 => ?_) fun hp hps H1 L1 e1 => ?_
  · have ey : y = [] := by
      rw [List.getElem?_map, List.getElem?_replicate] at hy
      split at hy
      · exact (Option.some.inj hy).symm
      · cases hy
    rw [ey]
    exact el_lst ea_nil (by decide)
  have h0 : Hps H H1 hp hps (heapsM rows 0) rows.length m 0 := by
    have e0 : heapsM rows 0 = List.replicate rows.length [] := by
      refine List.ext_getElem (by simp [heapsM]) fun k h1 h2 => ?_
      simp [heapsM]
    rw [e0]
    exact ⟨L1, e1, by simp, fun h hh => by rw [(List.mem_replicate.mp hh).2]; exact fun g hg => (by cases hg), by simp⟩
  obtain ⟨q0, hq0, hs0⟩ := ev_row (σ := [some (.ref a), some (.ref hp), none, none]) (ta := tVar 0) (tb := tC (.int 0)) (i := 0) (hA.mono e1) hne (ev_var rfl) ev_c
  refine q_forR1 (n := m) (ea_cons (ev_is (ev_lenI hs0 hq0) (by rw [hb.at_ hne])) ea_nil) ⟨by omega, by omega⟩ (fun i σ H' => ∃ z : Option V, σ = [some (.ref a), some (.ref hp), z, none] ∧ Hps H H' hp hps (heapsM rows i) rows.length m i) (fun H2 e2 => ⟨none, rfl, h0.ext e2⟩) ?_ ?_
  · rintro i σ' H' hi ⟨z, rfl, hH⟩
    refine g_drop ⟨.ref hp, rfl, g_call ?_⟩
    refine ea_cons (ev_var rfl) (ea_cons (ev_var rfl) ea_nil) H' (Ex.refl _) _ fun H2 e2 => ?_
    refine ⟨_, _, rfl, a, rows, m, i, rfl, rfl, hA.mono (hH.ex.trans e2), hb, by omega, fun j H3 e3 hj hf => ?_⟩
    obtain ⟨p, hp1, hp2, happ⟩ := hH.app (i := j) (j := i) hj (by omega)
    have e23 := e2.trans e3
    have hl : ((heapsM rows i).getD j []).length ≤ 1000 := by
      rw [heapsM_at hj, List.length_map]
      have := List.length_filter_le (firstB rows j) (List.range i)
      rw [List.length_range] at this
      omega
    refine ⟨hp, hps.map V.ref, (j : Int), .ref p, rfl, rfl, sq_of (e23 _ _ hH.L.top), at_refs hp1, .inl ⟨rfl, _, sq_of (e23 _ _ hp2)⟩, ?_⟩
    refine ⟨_, rfl, p, _, _, rfl, rfl, e23 _ _ hp2, sz_lt (by rw [List.length_map]; omega), ?_⟩
    have := happ H3 e23
    rw [heapsM_succ hj hf] at this
    exact ⟨_, rfl, this⟩
  · rintro σ' H' ⟨z, rfl, hH⟩
    rw [Int.toNat_natCast] at hH
    exact s_ret (ev_var rfl) fun H2 e2 => q hp hps H2 (hH.L.ext e2) (hH.ex.trans e2)
end
/-! ### in_heaps -/
abbrev s_in_heaps : Stmt := topS 20
theorem sc_in_heaps : FnScope ["bids", "heaps", "worths", "together", "sums", "row", "heap", "own"] ["bids"] (defScope s_in_heaps) := ⟨rfl, rfl, rfl, by decide +kernel, rfl, by decide +kernel, by decide +kernel⟩
def sp_in_heaps (K : PySem.W.Frag) (cl : Nat → Addr) : Sp := sp1X fun x H Q E => ∃ (a : Addr) (yss : List (List V)), x = .ref a ∧ LV K H a yss ∧ (∀ y ∈ yss.flatten, Any H y) ∧
  (dueB yss = 0 → ∀ p hp sp hps H2, DNew H H2 p hp sp hps (heapsM (hsOf yss) (yss.getD 0 []).length) (payM (hsOf yss) (heapsM (hsOf yss) (yss.getD 0 []).length)) → Ex H H2 → Q (.ref p) H2) ∧ (dueB yss ≠ 0 → ∀ H', Ex H H' → E (.ref (cl (dueB yss))) none H')
section
variable {P : Program} {w : World} {K : PySem.W.Frag} {mg : Str → Option Value} {base : Heap} {cl : Nat → Addr} {C : Addr}
theorem ok_in_heaps (D : DnX K mg "in_heaps" s_in_heaps ["bids"]) (B : Bt mg) (h_check_bids : Ok P w K mg base (L2.CX P w) 4 "check_bids" ["bids"] (sp_check_bids K cl)) (h_given : Ok P w K mg base CX0 2 "given" ["bids"] (sp_given K)) (h_worth : Ok P w K mg base CX0 3 "worth" ["row", "heap"] (sp_worth K)) : Ok P w K mg base (L2.CX P w) 5 "in_heaps" ["bids"] (sp_in_heaps K cl) := by
  refine okX_of D sc_in_heaps (fun vs H Q E h => by obtain ⟨_, rfl, _⟩ := h; rfl) (fun f cdv A outer s H vs Q E hr h => ⟨_, (pss_cons (ps_expr (pe_okS h_check_bids hr (by rfl) (fun σ => passAt (takes_of rfl rfl rfl rfl) σ) (pa_cons (pv 0) pa_nil)))
      (pss_cons (ps_set (i := 1) sc_in_heaps.nd rfl (Or.inl rfl) (pe_ok h_given (hr.mono (by decide)) (by rfl) pass0 (pa_cons (pv 0) pa_nil)))
      (pss_cons (ps_setLc (own := [("row", 5), ("heap", 6)]) (i := 2) rfl sc_in_heaps.nd rfl rfl (sw_true rfl rfl rfl (by decide +kernel))  (pi_zip (by rfl) B.zip (pa_cons (pv 0) (pa_cons (pv 1) pa_nil))) (blkOk_by (own := [("row", 5), ("heap", 6)]) (N := ["bids", "heaps", "worths", "together", "sums", "row", "heap", "own"]) (sc := (defScope s_in_heaps)) (by decide +kernel)) (fun _ _ _ _ _ => (pg_tupK (K := K) (n := 2) rfl (pgs_cons (pg_name (i := 5) sc_in_heaps.nd rfl (Or.inl rfl)) (pgs_cons (pg_name (i := 6) sc_in_heaps.nd rfl (Or.inl rfl)) pgs_nil)))) (fun _ _ _ _ _ => pts_nil) (fun _ _ _ _ _ => (pe_ok h_worth (hr.mono (by decide)) (by rfl) pass0 (pa_cons (pv 5) (pa_cons (pv 6) pa_nil)))))
      (pss_cons (ps_set (i := 3) sc_in_heaps.nd rfl (Or.inr rfl) (pe_callB (sumK (K := K) rfl) (by rfl) B.sum (by decide +kernel) (pa_cons (pv 2) pa_nil)))
      (pss_cons (ps_setLc (own := [("own", 7)]) (i := 4) rfl sc_in_heaps.nd rfl rfl (sw_true rfl rfl rfl (by decide +kernel))  (pi_listK (K := K) (pv 2)) (blkOk_by (own := [("own", 7)]) (N := ["bids", "heaps", "worths", "together", "sums", "row", "heap", "own"]) (sc := (defScope s_in_heaps)) (by decide +kernel)) (fun _ _ _ _ _ => (pg_name (i := 7) sc_in_heaps.nd rfl (Or.inl rfl))) (fun _ _ _ _ _ => pts_nil) (fun _ _ _ _ _ => (pe_op op_sub (pe_op op_mul (pv 7) (pe_callB (lenK (K := K)) (by rfl) B.len PySem.boot_len (pa_cons (pv 0) pa_nil))) (pv 3))))
      (pss_one (ps_ret (pe_tup (pa_cons (pv 1) (pa_cons (pv 4) pa_nil)))))))))), ?_⟩)
  obtain ⟨x, rfl, a, yss, rfl, hA', hy, q'⟩ := h
  refine q_dropS (ea_cons (ev_var rfl) ea_nil) fun H0 e0 => ⟨_, rfl, a, yss, rfl, hA'.mono e0, fun y m => (hy y m).mono e0, fun h0 H1 e1 => ?_, fun h0 H1 e1 => q'.2 h0 H1 (e0.trans e1)⟩
  obtain ⟨hiv, hb⟩ := bids_of h0
  have q := q'.1 h0
  generalize (yss.getD 0 []).length = m at q hb
  have hA : LL K H a (hsOf yss) := by
    show LV K H a (iv (hsOf yss))
    rw [hiv]
    exact hA'
  generalize hsOf yss = rows at q hb hA
  replace e1 := e0.trans e1
  clear e0 hiv
  have ll : (iv rows).length = rows.length := List.length_map _
  have l9 := hb.l9
  have F := heaps_fit hb
  refine q_asgN (ys := iv (heapsM rows m)) (fun H2 e2 Q q => g_call (ea_cons (ev_var rfl) ea_nil H2 (Ex.refl _) _ fun H3 e3 => ⟨_, rfl, a, rows, m, rfl, hA.mono ((e1.trans e2).trans e3), hb, fun p ps H4 L e4 => q p ps H4 (L.back e3) (e3.trans e4)⟩)) fun hp hps H2 L2 e2 => ?_
  have e12 := e1.trans e2
  obtain ⟨as, hAs, hAl, hAa⟩ := hA
  have hpl := L2.len
  rw [List.length_map, heapsM_len] at hpl
  refine q_asgL (xs := (ownM rows (heapsM rows m)).map V.int) ?_ fun wp H3 hwp e3 hw => ?_
  · have hz := el_zip (K := K) (σ := [some (.ref a), some (.ref hp), none, none, none, none, none, none]) (H := H2) (te := tCall (sp_worth K) [] E0 (tCons (tVar 5) (tCons (tVar 6) tNil))) (ta := tCons (tVar 0) (tCons (tVar 1) tNil)) (j1 := 5) (j2 := 6) (vs := [5, 6]) (xs := as.map V.ref) (ys := hps.map V.ref) (fun i => .int (worthM (rows.getD i []) ((heapsM rows m).getD i []))) (ea_cons (ev_var rfl) (ea_cons (ev_var rfl) ea_nil)) (ex_l e12 hAs) (sq_of L2.top) (by rw [List.length_map, List.length_map]; omega) (by rw [List.length_map]; omega) (fun _ _ => rfl) (fun i x y H4 hx hy e4 => ?_)
    · have er : (ownM rows (heapsM rows m)).map V.int = (List.range (as.map V.ref).length).map fun i => V.int (worthM (rows.getD i []) ((heapsM rows m).getD i [])) := by
        unfold ownM
        rw [List.map_map, List.length_map, hAl, ll]
        rfl
      rw [er]
      exact hz
    · rw [List.getElem?_map] at hx hy
      cases ex : as[i]? with
      | none =>
        rw [ex] at hx
        cases hx
      | some u =>
        cases ey : hps[i]? with
        | none =>
          rw [ey] at hy
          cases hy
        | some v =>
          rw [ex] at hx
          rw [ey] at hy
          obtain rfl : V.ref u = x := Option.some.inj hx
          obtain rfl : V.ref v = y := Option.some.inj hy
          have hi : i < rows.length := by
            have := (List.getElem?_eq_some_iff.mp ex).1
            omega
          have hi2 : i < (heapsM rows m).length := by rw [heapsM_len]; exact hi
          have r1 : rows.getD i [] = rows[i] := by simp [List.getD_eq_getElem?_getD, hi]
          have r2 : (heapsM rows m).getD i [] = (heapsM rows m)[i] := by simp [List.getD_eq_getElem?_getD, hi2]
          have s1 : SqL K H4 u ((rows.getD i []).map V.int) := ex_l (e12.trans e4) (hAa i u _ ex (by rw [List.getElem?_map, List.getElem?_eq_getElem hi, r1]; rfl))
          have s2 : SqL K H4 v (((heapsM rows m).getD i []).map V.int) := sq_of (e4 _ _ (L2.at_ i v _ ey (by rw [List.getElem?_map, List.getElem?_eq_getElem hi2, r2]; rfl)).2)
          exact ev_call (ea_cons (ev_var rfl) (ea_cons (ev_var rfl) ea_nil)) fun H5 e5 Q q E => ⟨_, _, rfl, u, v, _, _, rfl, rfl, ex_l e5 s1, ex_l e5 s2, F.few_at hi, by rw [hb.at_ hi]; exact F.at_ hi, fun H6 e6 => q H6 e6⟩
  have hA3 : LL K H3 a rows := ⟨as, ex_l (e12.trans e3) hAs, hAl, fun i q y h1 h2 => ex_l (e12.trans e3) (hAa i q y h1 h2)⟩
  refine q_asg (v := .int (ownM rows (heapsM rows m)).sum) (ev_cb (ea_cons (ev_var rfl) ea_nil) fun H4 e4 Q q => ⟨wp, _, rfl, sq_of (e4 _ _ hw), q H4 (Ex.refl H4)⟩) fun H4 e4 => ?_
  refine q_asgL (el_all (xs := ownM rows (heapsM rows m)) (enc := V.int) (fun o => .int (o * rows.length - (ownM rows (heapsM rows m)).sum)) (ev_var rfl) (sq_of (e4 _ _ hw)) (by rw [ownM_len]; omega) (fun _ => rfl) (fun o ho H5 e5 => ?_)) fun sp H5 hsp e5 hs => ?_
  · refine ev_is (ev_op (ev_op (ev_var rfl) (ev_lenLL (hA3.mono (e4.trans e5)) (ev_var rfl)) (rv_I (mulR (by rw [ll]; omega)))) (ev_var rfl) rv_I0) (by rw [ll])
  have e25 := (e3.trans e4).trans e5
  refine g_ret (g_tup ⟨.ref hp, rfl, .ref sp, rfl, sz_of (by show 2 ≤ 100000; omega), fun p hp5 => ?_⟩)
  have x1 := Ex.new (o := .tup [V.ref hp, V.ref sp]) hp5
  have hs' : H5 sp = some (.lst ((payM rows (heapsM rows m)).map V.int)) := by
    rw [hs]
    unfold payM
    rw [List.map_map]
    rfl
  refine q p hp sp hps _ ⟨fresh_back (e12.trans e25) hp5, (L2.back e1).ext (e25.trans x1), fresh_back (((e1.trans e2).trans e3).trans e4) hsp, x1 _ _ hs', upd_same, fun mem => ?_⟩ ((e12.trans e25).trans x1)
  have h2s : H2 sp = none := fresh_back (e3.trans e4) hsp
  rcases List.mem_cons.mp mem with rfl | mem
  · rw [L2.top] at h2s
    cases h2s
  · obtain ⟨k, hk⟩ := List.getElem?_of_mem mem
    have hkl : k < (iv (heapsM rows m)).length := by
      rw [← L2.len]
      exact (List.getElem?_eq_some_iff.mp hk).1
    rw [(L2.at_ k sp _ hk (List.getElem?_eq_getElem hkl)).2] at h2s
    cases h2s
end
/-! ### with_one_more -/
abbrev s_with_one_more : Stmt := topS 28
theorem sc_with_one_more : FnScope ["best", "row", "found", "taken", "together", "rooms", "room", "more", "amount"] ["best", "row"] (defScope s_with_one_more) := ⟨rfl, rfl, rfl, by decide +kernel, rfl, by decide +kernel, by decide +kernel⟩
theorem steps_small {row : List Int} {e : Nat × (Int × List Nat)} {t : Tab} (h : Small t) (he : e.1 < 2 ^ 9) (hl : e.2.2.length < 20) (h9 : row.length ≤ 9) (k : Nat) (hk : k ≤ row.length) : Small (steps row e t k) := by
  have h1 := steps_all (row := row) (e := e) (t := t) (n := row.length) (P := fun x => x.1 < 2 ^ 9 ∧ x.2.2.length ≤ 20) (fun x hx => ⟨h.lt x hx, h.few x hx⟩) (fun j hj _ => ⟨?_, ?_⟩) k hk
  · exact ⟨steps_keys h.keys k, fun x hx => (h1 x hx).1, fun x hx => (h1 x hx).2⟩
  · exact Nat.or_lt_two_pow he (Nat.pow_lt_pow_right (by decide) (by omega))
  · show (e.2.2 ++ [j]).length ≤ 20
    rw [List.length_append]
    show e.2.2.length + 1 ≤ 20
    omega
theorem more_small {row : List Int} (h9 : row.length ≤ 9) : ∀ {t found : Tab}, Small found → (∀ e ∈ t, e.1 < 2 ^ 9 ∧ e.2.2.length < 20) → Small (moreT row found t)
  | [], _, h, _ => h
  | e :: r, _, h, hp => more_small h9 (t := r) (steps_small h (hp e List.mem_cons_self).1 (hp e List.mem_cons_self).2 h9 _ (Nat.le_refl _)) fun x hx => hp x (List.mem_cons_of_mem _ hx)
theorem moreT_snoc (row : List Int) (e : Nat × (Int × List Nat)) : ∀ (t found : Tab), moreT row found (t ++ [e]) = steps row e (moreT row found t) row.length
  | [], _ => rfl
  | _ :: r, _ => moreT_snoc row e r _
theorem small0 : Small [] := ⟨by simp, fun e h => (by cases h), fun e h => (by cases h)⟩
def sp_with_one_more (K : PySem.W.Frag) : Sp := sp2 fun x y H Q => ∃ (d a : Addr) (kvs : List (Key × V)) (t : Tab) (row : List Int), x = .ref d ∧ y = .ref a ∧ H d = some (.dK kvs) ∧ Tb H kvs t ∧ SqL K H a (row.map V.int) ∧ row.length ≤ 9 ∧ (∀ e ∈ t, e.1 < 2 ^ 9 ∧ e.2.2.length < 20) ∧
  ∀ p kvs2 H2, H p = none → Ex H H2 → H2 p = some (.dK kvs2) → Tb H2 kvs2 (oneMore t row) → Q (.ref p) H2
section
variable {P : Program} {w : World} {K : PySem.W.Frag} {mg : Str → Option Value} {base : Heap} {cl : Nat → Addr} {C : Addr}
theorem ok_with_one_more (D : DnX K mg "with_one_more" s_with_one_more ["best", "row"]) (B : Bt mg) : Ok P w K mg base CX0 1 "with_one_more" ["best", "row"] (sp_with_one_more K) := by
  refine ok_of D sc_with_one_more (fun vs H Q E h => by obtain ⟨_, _, rfl, _⟩ := h; rfl) (fun f cdv A outer s H vs Q E hr h => ⟨_, (pss_cons (ps_set (i := 2) sc_with_one_more.nd rfl (Or.inl rfl) pe_dnewK)
      (pss_cons (ps_lock (ps_for PassesOwn.never rfl (pi_items (pv 0)) (pg_tupK (K := K) (n := 2) rfl (pgs_cons (pg_name (i := 3) sc_with_one_more.nd rfl (Or.inl rfl)) (pgs_cons (pg_tupK (K := K) (n := 2) rfl (pgs_cons (pg_name (i := 4) sc_with_one_more.nd rfl (Or.inl rfl)) (pgs_cons (pg_name (i := 5) sc_with_one_more.nd rfl (Or.inl rfl)) pgs_nil))) pgs_nil)))
        (pss_one (ps_for PassesOwn.never rfl (pi_range1 (by rfl) B.range (pa_cons (pe_callB (lenK (K := K)) (by rfl) B.len PySem.boot_len (pa_cons (pv 1) pa_nil)) pa_nil)) (pg_name (i := 6) sc_with_one_more.nd rfl (Or.inl rfl))
          (pss_one (ps_if (pt_cmpR op_eq (pe_op op_and (pv 3) (pe_op op_shl pe_int (pv 6))) pe_int (nomark _))
            (pss_cons (ps_set (i := 7) sc_with_one_more.nd rfl (Or.inl rfl) (pe_op op_or (pv 3) (pe_op op_shl pe_int (pv 6))))
            (pss_cons (ps_set (i := 8) sc_with_one_more.nd rfl (Or.inl rfl) (pe_op op_add (pv 4) (pe_ix (ixL (K := K)) (pv 1) (pv 6) (fun _ _ => rfl))))
            (pss_one (ps_if (PW.pt (pw_or (pt_cmp (pc_dnotin (u1 hr.units) (pv 7) (pv 2))) (pw_or1 (pt_cmpR op_gt (pv 8) (pe_ix (ixT (K := K)) (pe_dget (u1 hr.units) (pv 2) (pv 7) (fun _ _ => rfl)) pe_int (fun _ _ => rfl)) (nomark _)))))
              (pss_one (ps_dput (u1 hr.units) (pv 2) (pv 7) (pe_tup (pa_cons (pv 8) (pa_cons (pe_op op_cat (pv 5) (pe_lst (pa_cons (pv 6) pa_nil))) pa_nil))) (by rfl)))
              pss_nil))))
            pss_nil))))))
      (pss_one (ps_ret (pv 2))))), ?_⟩)
  obtain ⟨x, y, rfl, d, a, kvs, t, row, rfl, rfl, hd, hT, hA, h9, hs, q⟩ := h
  refine q_set fun p hp => ?_
  have dp : d ≠ p := ne_of_none hd hp
  have e0 := Ex.new (o := .dK []) hp
  refine g_seq ⟨d, .dK kvs, e0 _ _ hd, trivial, fun od => ?_⟩
  refine ⟨.ref d, rfl, d, od, kvs, rfl, upd_same, ?_⟩
  generalize hHm : msk H [d] = Hm
  have mp : Hm p = none := by rw [← hHm, msk_at fun m => dp (List.mem_singleton.mp m).symm]; exact hp
  have hTm : Tb Hm kvs t := by rw [← hHm]; exact tb_mskD hd hT
  have hAm : SqL K Hm a (row.map V.int) := by rw [← hHm]; exact sq_mskD hd hA
  have hlen := hT.length
  refine for_it (walk_items (kvs := kvs) (d := d) (o := od)) (fun i σ' H' => ∃ kvs' z3 z4 z5 z6 z7 z8, σ' = [some (.ref d), some (.ref a), some (.ref p), z3, z4, z5, z6, z7, z8] ∧ Ex Hm H' ∧ H' d = some (.frz od (.dK kvs)) ∧ H' p = some (.dK kvs') ∧ Tb H' kvs' (moreT row [] (t.take i))) ?_ ?_ ?_ ?_
  · refine ⟨[], none, none, none, none, none, none, rfl, ?_, upd_same, by rw [upd_ne fun z => dp z.symm, upd_same], .nil⟩
    rw [← hHm]
    exact msk_ex fun b o h n => by
      rw [upd_ne fun z => n (List.mem_singleton.mpr z)]
      exact e0 _ _ h
  · rintro i σ' H' hi ⟨kvs', z3, z4, z5, z6, z7, z8, rfl, hk, hd', hp', hT'⟩
    exact hd'
  · rintro i x σ' H' H'' hi ⟨kvs', z3, z4, z5, z6, z7, z8, rfl, hk, hd', hp', hT'⟩ hy
    obtain ⟨T, k, v, rfl, hTn, rfl, hk1, hv1⟩ := hy
    have hit : i < t.length := by omega
    have hkv : kvs[i]? = some kvs[i] := List.getElem?_eq_getElem hi
    have hte : t[i]? = some t[i] := List.getElem?_eq_getElem hit
    have hk1 : Option.map (fun kv => kV kv.1) kvs[i]? = some k := hk1
    have hv1 : Option.map Prod.snd kvs[i]? = some v := hv1
    rw [hkv] at hk1 hv1
    have hen := paired_at hTm hkv hte
    rcases he : t[i] with ⟨m, amt, ρ⟩
    rw [he] at hen
    obtain ⟨h1, b, l, h2, h3, h4⟩ := hen
    have hke : kV kvs[i].1 = k := Option.some.inj hk1
    have hve : kvs[i].2 = v := Option.some.inj hv1
    rw [h1] at hke
    rw [h2] at hve
    subst hke
    subst hve
    have hmem : (m, amt, ρ) ∈ t := he ▸ List.getElem_mem hit
    have eT := Ex.new (o := .tup [kV (.inl (m : Int)), .ref b]) hTn
    have hkT := hk.trans eT
    refine ⟨T, _, rfl, st_of upd_same, rfl, _, _, rfl, _, _, rfl, b, _, rfl, st_of (hkT _ _ h3), rfl, _, _, rfl, _, _, rfl, rfl, rfl, ?_⟩
    have S0 : Small (moreT row [] (t.take i)) := more_small h9 small0 fun x hx => hs x (List.mem_of_mem_take hx)
    have esn : moreT row [] (t.take (i + 1)) = steps row (m, amt, ρ) (moreT row [] (t.take i)) row.length := by
      rw [List.take_add_one, hte, he]
      exact moreT_snoc row _ _ _
    rw [esn]
    generalize moreT row [] (t.take i) = F at hT' S0
    have hd2 := eT _ _ hd'
    have hp2 := eT _ _ hp'
    have hT2 := hT'.mono eT
    generalize upd H' T (.tup [kV (.inl (m : Int)), .ref b]) = H2 at hkT hd2 hp2 hT2
    refine s_forR1 (n := row.length) (ea_cons (ev_lenI (ex_l hkT hAm) (ev_var rfl)) ea_nil) ⟨by omega, by omega⟩ (fun j σ' H' => ∃ kvs' z6 z7 z8, σ' = [some (.ref d), some (.ref a), some (.ref p), some (.int (m : Int)), some (.int amt), some (.ref l), z6, z7, z8] ∧ Ex Hm H' ∧ H' d = some (.frz od (.dK kvs)) ∧ H' p = some (.dK kvs') ∧ Tb H' kvs' (steps row (m, amt, ρ) F j)) (fun H3 e3 => ⟨kvs', z6, z7, z8, rfl, hkT.trans e3, e3 _ _ hd2, e3 _ _ hp2, hT2.mono e3⟩) ?_ ?_
    · rintro j σ' H3 hj ⟨kvs3, z6, z7, z8, rfl, hk3, hd3, hp3, hT3⟩
      have hj : j < row.length := by omega
      have S3 : Small (steps row (m, amt, ρ) F j) := steps_small S0 (hs _ hmem).1 (hs _ hmem).2 h9 j (by omega)
      have hρ : ρ.length < 20 := (hs _ hmem).2
      have esj := steps_succ row (m, amt, ρ) F j
      have hl3 : kvs3.length ≤ 512 := by rw [hT3.length]; exact S3.len
      generalize steps row (m, amt, ρ) F j = G at hT3 esj S3
      rw [esj]
      refine s_when (b := !m.testBit j) (et_is (et_test (ev_op (ev_op (ev_var rfl) (ev_op ev_c (ev_var rfl) (rv_I ⟨by omega, by omega, by decide⟩)) rv_I0) ev_c (rv_eq rfl))) (by rw [shl_pow]; exact and_bit m j)) (fun hb H4 e4 => ?_) fun hb H4 e4 => ?_
      · have hb : m.testBit j = false := by cases z : m.testBit j with | false => rfl | true => (rw [z] at hb; cases hb)
        refine q_asg (v := .int ((m ||| 2 ^ j : Nat) : Int)) (ev_is (ev_op (ev_var rfl) (ev_op ev_c (ev_var rfl) (rv_I ⟨by omega, by omega, by decide⟩)) rv_I0) (by rw [shl_pow, or_bit])) fun H5 e5 => ?_
        have e35 := e4.trans e5
        refine q_asg (v := .int (amt + row.getD j 0)) (ev_op (ev_var rfl) (ev_op (ev_var rfl) (ev_var rfl) (rv_ixL (ex_l (hk3.trans e35) hAm) (at_ints (i := (j : Int)) (by omega) (by omega)))) rv_I0) fun H6 e6 => ?_
        have e36 := e35.trans e6
        have hT6 := hT3.mono e36
        have hp6 := e36 _ _ hp3
        have put : ∀ H7, Ex H6 H7 → step1 row (m, amt, ρ) G j = putT G (m ||| 2 ^ j) (amt + row.getD j 0, ρ ++ [j]) → ∀ D : Ends, (∀ kvs' H', Ex Hm H' → H' d = some (.frz od (.dK kvs)) → H' p = some (.dK kvs') → Tb H' kvs' (step1 row (m, amt, ρ) G j) → D.nx [some (.ref d), some (.ref a), some (.ref p), some (.int (m : Int)), some (.int amt), some (.ref l), some (.int (j : Int)), some (.int ((m ||| 2 ^ j : Nat) : Int)), some (.int (amt + row.getD j 0))] H') →
            sDPut (tVar 2) (tVar 7) (tTup (tCons (tVar 8) (tCons (tOp rCat (tVar 5) (tLst (tCons (tVar 6) tNil))) tNil))) D [some (.ref d), some (.ref a), some (.ref p), some (.int (m : Int)), some (.int amt), some (.ref l), some (.int (j : Int)), some (.int ((m ||| 2 ^ j : Nat) : Int)), some (.int (amt + row.getD j 0))] H7 := by
          intro H7 e7 es D hD
          have hl7 := ((hk3.trans e36).trans e7) _ _ h4
          refine g_tup ⟨_, rfl, el_catV (ys := [V.int (j : Int)]) (ev_var rfl) hl7 (el_lst (ea_cons (ev_var rfl) ea_nil) (by show 1 ≤ 100000; omega)) (by rw [List.length_map]; show ρ.length + 1 ≤ 100000; omega) H7 (Ex.refl H7) _ fun r H8 hr e8 h8 => ⟨sz_of (by show 2 ≤ 100000; omega), fun tp htp => ?_⟩⟩
          have et := Ex.new (o := .tup [V.int (amt + row.getD j 0), .ref r]) htp
          have e79 := e8.trans et
          have e69 := e7.trans e79
          have hp9 := e69 _ _ hp6
          refine ⟨_, rfl, _, rfl, p, _, rfl, DPut.k (k := .inl ((m ||| 2 ^ j : Nat) : Int)) hp9 (sz_lt (by omega)), hD (putK kvs3 (.inl ((m ||| 2 ^ j : Nat) : Int)) (.ref tp)) _ (Ex.mut (((hk3.trans e36).trans e69)) mp) ?_ upd_same ?_⟩
          · rw [upd_ne dp]
            exact e69 _ _ (e36 _ _ hd3)
          · rw [es]
            have nv2 : nv (ρ ++ [j]) = nv ρ ++ [V.int (j : Int)] := by
              show List.map _ _ = _
              rw [List.map_append]
              rfl
            have := tb_put (m := m ||| 2 ^ j) (v := (amt + row.getD j 0, ρ ++ [j])) (a := tp) (l := r) (hT6.mono e69) (upd_same : upd H8 tp (.tup [V.int (amt + row.getD j 0), .ref r]) tp = _) (by rw [nv2]; exact et _ _ h8) (Ex.refl _)
            exact Paired.mapP this fun _ _ ⟨h1, a, l, h2, h3, h4⟩ => ⟨h1, a, l, h2, by rw [upd_ne (ne_of h3 hp9 (by intro z; cases z))]; exact h3, by rw [upd_ne (ne_of h4 hp9 (by intro z; cases z))]; exact h4⟩
        have keep : ∀ H7, Ex H6 H7 → step1 row (m, amt, ρ) G j = G → Ex Hm H7 ∧ H7 d = some (.frz od (.dK kvs)) ∧ H7 p = some (.dK kvs3) ∧ Tb H7 kvs3 (step1 row (m, amt, ρ) G j) := fun H7 e7 es => by
          rw [es]
          exact ⟨(hk3.trans e36).trans e7, e7 _ _ (e36 _ _ hd3), e7 _ _ hp6, hT6.mono e7⟩
        cases hL : lookT G (m ||| 2 ^ j) with
        | none =>
          have es : step1 row (m, amt, ρ) G j = putT G (m ||| 2 ^ j) (amt + row.getD j 0, ρ ++ [j]) := by
            unfold step1
            rw [if_neg (by rw [hb]; decide), hL]
          have hvn := tb_none hT6 hL
          refine s_when (b := true) (et_is (et_or (a := true) (b := true) (et_B (ev_is (ev_dnin (ev_var rfl) (ev_var rfl) hp6) (by rw [hvn]; rfl))) fun z => by cases z) rfl) (fun _ H7 e7 => put H7 e7 es _ fun kvs' H' a1 a2 a3 a4 => ⟨kvs', _, _, _, rfl, a1, a2, a3, a4⟩) fun z => by cases z
        | some v =>
          obtain ⟨b2, l2, hv, hb2, hl2⟩ := (tb_val hT6).2 v hL
          refine s_when (b := decide (v.1 < amt + row.getD j 0)) (et_is (et_or (a := false) (b := decide (v.1 < amt + row.getD j 0)) (et_B (ev_is (ev_dnin (ev_var rfl) (ev_var rfl) hp6) (by rw [hv]; rfl))) fun _ => et_test (ev_op (ev_var rfl) (ev_op (ev_dget (ev_var rfl) (ev_var rfl) hp6 hv) ev_c (rv_ixT (st_of hb2) rfl)) rv_I0)) rfl) (fun h H7 e7 => put H7 e7 ?_ _ fun kvs' H' a1 a2 a3 a4 => ⟨kvs', _, _, _, rfl, a1, a2, a3, a4⟩) fun h H7 e7 => ?_
          · unfold step1
            rw [if_neg (by rw [hb]; decide), hL]
            exact if_pos (of_decide_eq_true h)
          · obtain ⟨a1, a2, a3, a4⟩ := keep H7 e7 (by
              unfold step1
              rw [if_neg (by rw [hb]; decide), hL]
              exact if_neg (of_decide_eq_false h))
            exact ⟨kvs3, _, _, _, rfl, a1, a2, a3, a4⟩
      · have hs1 : step1 row (m, amt, ρ) G j = G := by
          have hb : m.testBit j = true := by cases z : m.testBit j with | true => rfl | false => (rw [z] at hb; cases hb)
          unfold step1
          rw [if_pos hb]
        rw [hs1]
        exact ⟨kvs3, _, z7, z8, rfl, hk3.trans e4, e4 _ _ hd3, e4 _ _ hp3, hT3.mono e4⟩
    · rintro σ' H3 ⟨kvs3, z6, z7, z8, rfl, hk3, hd3, hp3, hT3⟩
      rw [Int.toNat_natCast] at hT3
      exact ⟨kvs3, _, _, _, z6, z7, z8, rfl, hk3, hd3, hp3, hT3⟩
  · rintro σ' H' ⟨kvs', z3, z4, z5, z6, z7, z8, rfl, hk, hd', hp', hT'⟩
    rw [hlen, List.take_length] at hT'
    refine ⟨hd', ?_⟩
    have ef : Ex H (upd H' d (.dK kvs)) := fun b o h => by
      by_cases z : b = d
      · rw [z, upd_same]
        rw [z, hd] at h
        exact h
      · rw [upd_ne z]
        refine hk _ _ ?_
        rw [← hHm, msk_at fun m => z (List.mem_singleton.mp m)]
        exact h
    have hu : upd H' d (.dK kvs) p = some (.dK kvs') := by rw [upd_ne fun z => dp z.symm]; exact hp'
    have hTu : Tb (upd H' d (.dK kvs)) kvs' (oneMore t row) := Paired.mapP hT' fun _ _ ⟨h1, a, l, h2, h3, h4⟩ =>
      ⟨h1, a, l, h2, by rw [upd_ne (ne_of h3 hd' (by intro z; cases z))]; exact h3, by rw [upd_ne (ne_of h4 hd' (by intro z; cases z))]; exact h4⟩
    refine s_ret (ev_var rfl) fun H2 e2 => q p kvs' H2 hp (ef.trans e2) (e2 _ _ hu) (hTu.mono e2)
end
/-! ### best_rooms -/
abbrev s_best_rooms : Stmt := topS 27
theorem sc_best_rooms : FnScope ["rows", "best", "row", "every_room", "_", "rooms"] ["rows"] (defScope s_best_rooms) := ⟨rfl, rfl, rfl, by decide +kernel, rfl, by decide +kernel, by decide +kernel⟩
def sp_best_rooms (K : PySem.W.Frag) : Sp := sp1 fun x H Q => ∃ (a : Addr) (rows : List (List Int)), x = .ref a ∧ LL K H a rows ∧ rows.length ≤ 9 ∧ (∀ r ∈ rows, r.length = rows.length) ∧
  ∀ l H2, Ex H H2 → H2 l = some (.lst (nv (roomsM rows))) → Q (.ref l) H2
section
variable {P : Program} {w : World} {K : PySem.W.Frag} {mg : Str → Option Value} {base : Heap} {cl : Nat → Addr} {C : Addr}
theorem ok_best_rooms (D : DnX K mg "best_rooms" s_best_rooms ["rows"]) (B : Bt mg) (h_with_one_more : Ok P w K mg base CX0 1 "with_one_more" ["best", "row"] (sp_with_one_more K)) : Ok P w K mg base CX0 2 "best_rooms" ["rows"] (sp_best_rooms K) := by
  refine ok_of D sc_best_rooms (fun vs H Q E h => by obtain ⟨_, rfl, _⟩ := h; rfl) (fun f cdv A outer s H vs Q E hr h => ⟨_, (pss_cons (ps_set (i := 1) sc_best_rooms.nd rfl (Or.inl rfl) (pe_disp (pps_cons pe_int (pe_tup (pa_cons pe_int (pa_cons (pe_lst pa_nil) pa_nil))) pps_nil) rfl rfl (by intro z; cases z) (by decide)))
      (pss_cons (ps_for PassesOwn.never rfl (pi_listK (K := K) (pv 0)) (pg_name (i := 2) sc_best_rooms.nd rfl (Or.inl rfl))
        (pss_one (ps_set (i := 1) sc_best_rooms.nd rfl (Or.inl rfl) (pe_ok h_with_one_more hr (by rfl) pass0 (pa_cons (pv 1) (pa_cons (pv 2) pa_nil))))))
      (pss_cons (ps_set (i := 3) sc_best_rooms.nd rfl (Or.inl rfl) (pe_op op_sub (pe_op op_shl pe_int (pe_callB (lenK (K := K)) (by rfl) B.len PySem.boot_len (pa_cons (pv 0) pa_nil))) pe_int))
      (pss_cons (ps_asg (pe_dget (u1 hr.units) (pv 1) (pv 3) (fun _ _ => rfl)) (pg_tupK (K := K) (n := 2) rfl (pgs_cons (pg_name (i := 4) sc_best_rooms.nd rfl (Or.inl rfl)) (pgs_cons (pg_name (i := 5) sc_best_rooms.nd rfl (Or.inl rfl)) pgs_nil))))
      (pss_one (ps_ret (pv 5))))))), ?_⟩)
  obtain ⟨x, rfl, a, rows, rfl, hA, h9, hl, q⟩ := h
  have ll : (iv rows).length = rows.length := List.length_map _
  refine q_set fun p hp => ?_
  refine ⟨by show 0 ≤ sizeLine; decide, fun l hlf => ⟨sz_of (by show 2 ≤ 100000; omega), fun t ht => ?_⟩⟩
  have e1 := Ex.new (o := .dK []) hp
  have e2 := Ex.new (o := .lst []) hlf
  have e3 := Ex.new (o := .tup [V.int 0, .ref l]) ht
  have hp3 := e3 _ _ (e2 _ _ (upd_same : upd H p (.dK []) p = _))
  refine ⟨hp3, [(.inl 0, .ref t)], rfl, by show 1 ≤ 15; omega, ?_⟩
  have T0 : Tb (upd (upd (upd (upd H p (.dK [])) l (.lst [])) t (.tup [V.int 0, .ref l])) p (.dK [(.inl 0, .ref t)])) [(.inl 0, .ref t)] [(0, (0, []))] := by
    have tp : t ≠ p := fun z => by
      rw [z, e2 _ _ (upd_same : upd H p (.dK []) p = _)] at ht
      cases ht
    have lp : l ≠ p := fun z => by
      rw [z, upd_same] at hlf
      cases hlf
    refine .cons ⟨rfl, t, l, rfl, by rw [upd_ne tp, upd_same], ?_⟩ .nil
    rw [upd_ne lp]
    exact e3 _ _ upd_same
  have eM : mergeK [] [((.inl 0 : Key), V.ref t)] = [(.inl 0, .ref t)] := rfl
  rw [eM]
  have E0 : Ex H (upd (upd (upd (upd H p (.dK [])) l (.lst [])) t (.tup [V.int 0, .ref l])) p (.dK [(.inl 0, .ref t)])) := Ex.mut ((e1.trans e2).trans e3) hp
  have P0 : upd (upd (upd (upd H p (.dK [])) l (.lst [])) t (.tup [V.int 0, .ref l])) p (.dK [(.inl 0, .ref t)]) p = some (.dK [(.inl 0, .ref t)]) := upd_same
  generalize upd (upd (upd (upd H p (.dK [])) l (.lst [])) t (.tup [V.int 0, .ref l])) p (.dK [(.inl 0, .ref t)]) = H1 at T0 E0 P0
  obtain ⟨as, hAs, hAl, hAa⟩ := id hA
  have hok := fun k hk => bestT_ok (rows := rows) (n := rows.length) hl k hk
  refine q_forLn (ev_var rfl) (ex_l E0 hAs) (fun i σ' H' => ∃ d kvs z, σ' = [some (.ref a), some (.ref d), z, none, none, none] ∧ Ex H H' ∧ H' d = some (.dK kvs) ∧ Tb H' kvs (bestT (rows.take i))) (fun H2 e2 => ⟨p, _, none, rfl, E0.trans e2, e2 _ _ P0, T0.mono e2⟩) (fun i σ' H' _ h => by obtain ⟨_, _, _, _, e, _⟩ := h; exact ex_l e hAs) ?_ ?_
  · rintro i x σ' H' hi ⟨d, kvs, z, rfl, ex, hd, hT⟩
    rw [List.getElem?_map] at hi
    cases ei : as[i]? with
    | none =>
      rw [ei] at hi
      cases hi
    | some r =>
      rw [ei] at hi
      obtain rfl : V.ref r = x := Option.some.inj hi
      have hil : i < rows.length := by
        have := (List.getElem?_eq_some_iff.mp ei).1
        omega
      have hs := hAa i r _ ei (by rw [List.getElem?_map, List.getElem?_eq_getElem hil]; rfl)
      have hlr := hl _ (List.getElem_mem hil)
      have ok := hok i (by omega)
      have eb : bestT (rows.take (i + 1)) = oneMore (bestT (rows.take i)) rows[i] := by
        unfold bestT
        rw [List.take_add_one, List.getElem?_eq_getElem hil, List.foldl_append]
        rfl
      refine g_set (g_call (ea_cons (ev_var rfl) (ea_cons (ev_var rfl) ea_nil) H' (Ex.refl _) _ fun H2 e2 => ?_))
      refine ⟨_, _, rfl, d, r, kvs, _, rows[i], rfl, rfl, e2 _ _ hd, hT.mono e2, ex_l (ex.trans e2) hs, by omega, fun e he => ?_, fun p2 kvs2 H3 hp2 e3 h3 hT3 => ?_⟩
      · have g := ok.good e he
        refine ⟨Nat.lt_of_lt_of_le (key_lt g) (Nat.pow_le_pow_right (by decide) h9), ?_⟩
        rw [g.way.len]
        omega
      · rw [← eb] at hT3
        exact ⟨p2, kvs2, _, rfl, (ex.trans e2).trans e3, h3, hT3⟩
  · rintro σ' H' ⟨d, kvs, z, rfl, ex, hd, hT⟩
    rw [List.length_map, hAl, ll, List.take_length] at hT
    obtain ⟨v, hv, hw, _⟩ := best_at (rows := rows) (n := rows.length) hl rfl
    have er : roomsM rows = v.2 := by
      unfold roomsM
      rw [hv]
      rfl
    rw [er] at q
    refine q_asg (v := .int ((2 ^ rows.length - 1 : Nat) : Int)) (ev_is (ev_op (ev_op ev_c (ev_lenLL (hA.mono ex) (ev_var rfl)) (rv_I ⟨by omega, by rw [ll]; omega, by decide⟩)) ev_c rv_I0) ?_) fun H2 e2 => ?_
    · rw [ll, shl_pow]
      have : 1 ≤ 2 ^ rows.length := Nat.one_le_two_pow
      congr 1
      omega
    · obtain ⟨t2, l2, hk, ht2, hl2⟩ := (tb_val hT).2 v hv
      refine g_seq (ev_dget (ev_var rfl) (ev_var rfl) (e2 _ _ hd) hk H2 (Ex.refl _) _ fun H3 e3 => ?_)
      have e23 := e2.trans e3
      refine ⟨t2, _, rfl, st_of (e23 _ _ ht2), rfl, _, _, rfl, _, _, rfl, rfl, ?_⟩
      exact s_ret (ev_var rfl) fun H4 e4 => q l2 H4 ((ex.trans e23).trans e4) ((e23.trans e4) _ _ hl2)
end
/-! ### prices -/
abbrev s_prices : Stmt := topS 29
theorem sc_prices : FnScope ["rows", "rooms", "paid", "_", "person", "other", "dearer", "row"] ["rows", "rooms"] (defScope s_prices) := ⟨rfl, rfl, rfl, by decide +kernel, rfl, by decide +kernel, by decide +kernel⟩
def sp_prices (K : PySem.W.Frag) : Sp := sp2 fun x y H Q => ∃ (a b : Addr) (rows : List (List Int)) (ρ : List Nat), x = .ref a ∧ y = .ref b ∧ LL K H a rows ∧ SqL K H b (nv ρ) ∧ rows.length ≤ 9 ∧ (∀ r ∈ rows, r.length = rows.length) ∧ ρ.length = rows.length ∧ (∀ x ∈ ρ, x < rows.length) ∧
  RetL ((roundsM (dOf (rAt rows) fun i => ρ.getD i 0) rows.length rows.length).map V.int) H Q
section
variable {P : Program} {w : World} {K : PySem.W.Frag} {mg : Str → Option Value} {base : Heap} {cl : Nat → Addr} {C : Addr}
theorem ok_prices (D : DnX K mg "prices" s_prices ["rows", "rooms"]) (B : Bt mg) : Ok P w K mg base CX0 1 "prices" ["rows", "rooms"] (sp_prices K) := by
  refine ok_of D sc_prices (fun vs H Q E h => by obtain ⟨_, _, rfl, _⟩ := h; rfl) (fun f cdv A outer s H vs Q E hr h => ⟨_, (pss_cons (ps_setLc (own := [("row", 7)]) (i := 2) rfl sc_prices.nd rfl rfl (sw_true rfl rfl rfl (by decide +kernel))  (pi_listK (K := K) (pv 0)) (blkOk_by (own := [("row", 7)]) (N := ["rows", "rooms", "paid", "_", "person", "other", "dearer", "row"]) (sc := (defScope s_prices)) (by decide +kernel)) (fun _ _ _ _ _ => (pg_name (i := 7) sc_prices.nd rfl (Or.inl rfl))) (fun _ _ _ _ _ => pts_nil) (fun _ _ _ _ _ => pe_int))
      (pss_cons (ps_for PassesOwn.never rfl (pi_range1 (by rfl) B.range (pa_cons (pe_callB (lenK (K := K)) (by rfl) B.len PySem.boot_len (pa_cons (pv 0) pa_nil)) pa_nil)) (pg_name (i := 3) sc_prices.nd rfl (Or.inl rfl))
        (pss_one (ps_for PassesOwn.never rfl (pi_range1 (by rfl) B.range (pa_cons (pe_callB (lenK (K := K)) (by rfl) B.len PySem.boot_len (pa_cons (pv 0) pa_nil)) pa_nil)) (pg_name (i := 4) sc_prices.nd rfl (Or.inl rfl))
          (pss_one (ps_for PassesOwn.never rfl (pi_range1 (by rfl) B.range (pa_cons (pe_callB (lenK (K := K)) (by rfl) B.len PySem.boot_len (pa_cons (pv 0) pa_nil)) pa_nil)) (pg_name (i := 5) sc_prices.nd rfl (Or.inl rfl))
            (pss_cons (ps_set (i := 6) sc_prices.nd rfl (Or.inl rfl) (pe_op op_sub (pe_ix (ixL (K := K)) (pe_ix (ixL (K := K)) (pv 0) (pv 4) (fun _ _ => rfl)) (pe_ix (ixL (K := K)) (pv 1) (pv 5) (fun _ _ => rfl)) (fun _ _ => rfl)) (pe_ix (ixL (K := K)) (pe_ix (ixL (K := K)) (pv 0) (pv 4) (fun _ _ => rfl)) (pe_ix (ixL (K := K)) (pv 1) (pv 4) (fun _ _ => rfl)) (fun _ _ => rfl))))
            (pss_one (ps_asg (pe_callB (call_max2 rfl) (by rfl) B.max (by decide +kernel) (pa_cons (pe_ix (ixL (K := K)) (pv 2) (pv 5) (fun _ _ => rfl)) (pa_cons (pe_op op_add (pe_ix (ixL (K := K)) (pv 2) (pv 4) (fun _ _ => rfl)) (pv 6)) pa_nil))) (pg_sub (pv 2) (pv 5) set_list)))))))))
      (pss_one (ps_ret (pv 2))))), ?_⟩)
  obtain ⟨x, y, rfl, a, b, rows, ρ, rfl, rfl, hA, hB, h9, hl, hρ, hlt, q⟩ := h
  have ll : (iv rows).length = rows.length := List.length_map _
  generalize hd : dOf (rAt rows) (fun i => ρ.getD i 0) = d at q
  refine q_asgL (xs := (List.replicate rows.length (0 : Int)).map V.int) ?_ fun p H1 hp e1 h1 => ?_
  · have h := el_rows (K := K) (σ := [some (.ref a), some (.ref b), none, none, none, none, none, none]) (H := H) (te := tC (.int 0)) (tl := tVar 0) (j := 7) (vs := [7]) (rows := rows) (fun _ => .int 0) (ev_var rfl) hA (by omega) (fun _ => rfl) fun i p H1 hi hs e1 => ev_c
    have e : (List.replicate rows.length (0 : Int)).map V.int = rows.map fun _ => V.int 0 := by
      rw [List.map_replicate, List.map_const']
    rw [e]
    exact h
  have hlen := rounds_len d rows.length
  refine q_forR1 (n := rows.length) (ea_cons (ev_is (ev_lenLL (hA.mono e1) (ev_var rfl)) (by rw [ll])) ea_nil) ⟨by omega, by omega⟩ (fun i σ' H' => ∃ z3 z4 z5 z6, σ' = [some (.ref a), some (.ref b), some (.ref p), z3, z4, z5, z6, none] ∧ Ex H H' ∧ H' p = some (.lst ((roundsM d rows.length i).map V.int))) (fun H2 e2 => ⟨none, none, none, none, rfl, e1.trans e2, e2 _ _ h1⟩) ?_ ?_
  · rintro i σ' H' hi ⟨z3, z4, z5, z6, rfl, ex, hp'⟩
    have hli := hlen i
    refine s_forR1 (n := rows.length) (ea_cons (ev_is (ev_lenLL (hA.mono ex) (ev_var rfl)) (by rw [ll])) ea_nil) ⟨by omega, by omega⟩ (fun j σ' H' => ∃ z4 z5 z6, σ' = [some (.ref a), some (.ref b), some (.ref p), some (.int (i : Int)), z4, z5, z6, none] ∧ Ex H H' ∧ H' p = some (.lst ((sweepP d rows.length (roundsM d rows.length i) j).map V.int))) (fun H2 e2 => ⟨_, _, _, rfl, ex.trans e2, e2 _ _ hp'⟩) ?_ ?_
    · rintro j σ' H2 hj ⟨z4, z5, z6, rfl, ex2, hp2⟩
      have hlj : (sweepP d rows.length (roundsM d rows.length i) j).length = rows.length := by rw [← (sweepP_le d rows.length (roundsM d rows.length i) j).1]; exact hli
      show tFor _ _ _ { nx := fun σ' H' => ∃ z4 z5 z6, σ' = [some (V.ref a), some (.ref b), some (.ref p), some (.int (i : Int)), z4, z5, z6, none] ∧ Ex H H' ∧ H' p = some (.lst ((sweepO d j (sweepP d rows.length (roundsM d rows.length i) j) rows.length).map V.int)), rt := _, bk := _, ct := _ } _ _
      generalize sweepP d rows.length (roundsM d rows.length i) j = P0 at hp2 hlj
      have hj : j < rows.length := by omega
      refine s_forR1 (n := rows.length) (ea_cons (ev_is (ev_lenLL (hA.mono ex2) (ev_var rfl)) (by rw [ll])) ea_nil) ⟨by omega, by omega⟩ (fun k σ' H' => ∃ z5 z6, σ' = [some (.ref a), some (.ref b), some (.ref p), some (.int (i : Int)), some (.int (j : Int)), z5, z6, none] ∧ Ex H H' ∧ H' p = some (.lst ((sweepO d j P0 k).map V.int))) (fun H3 e3 => ⟨_, _, rfl, ex2.trans e3, e3 _ _ hp2⟩) ?_ ?_
      · rintro k σ' H3 hk ⟨z5, z6, rfl, ex3, hp3⟩
        have hk : k < rows.length := by omega
        have hlk : (sweepO d j P0 k).length = rows.length := by rw [← (sweepO_le d j P0 k).1]; exact hlj
        generalize hsw : sweepO d j P0 k = P1 at hp3 hlk
        have ho : (rows.getD j []).length = rows.length := by
          have e : rows.getD j [] = rows[j] := by simp [List.getD_eq_getElem?_getD, hj]
          rw [e]
          exact hl _ (List.getElem_mem hj)
        have hr : ∀ k, k < rows.length → ρ.getD k 0 < rows.length := fun k hk => by
          have h : k < ρ.length := by omega
          have e : ρ.getD k 0 = ρ[k] := by simp [List.getD_eq_getElem?_getD, h]
          rw [e]
          exact hlt _ (List.getElem_mem h)
        have hB3 := ex_l ex3 hB
        refine q_asg (v := .int (d j k)) (ev_is (ev_op (ev_cell2 (hA.mono ex3) hB3 hj (k := k) (by omega) (by rw [ho]; exact hr k hk) (ev_var rfl) (ev_var rfl) (ev_var rfl) (ev_var rfl)) (ev_cell2 (hA.mono ex3) hB3 hj (k := j) (by omega) (by rw [ho]; exact hr j hj) (ev_var rfl) (ev_var rfl) (ev_var rfl) (ev_var rfl)) rv_I0) (by rw [← hd]; rfl)) fun H4 e4 => ?_
        refine s_setL (j := k) (v := .int (if P1.getD j 0 + d j k > P1.getD k 0 then P1.getD j 0 + d j k else P1.getD k 0)) (e4 _ _ hp3) (ev_max2 (ev_op (ev_var rfl) (ev_var rfl) (rv_ixL (sq_of (e4 _ _ hp3)) (at_ints (i := (k : Int)) (by omega) (by omega)))) (ev_op (ev_op (ev_var rfl) (ev_var rfl) (rv_ixL (sq_of (e4 _ _ hp3)) (at_ints (i := (j : Int)) (by omega) (by omega)))) (ev_var rfl) rv_I0)) (ev_var rfl) (ev_var rfl) (by rw [List.length_map]; omega) fun H5 e5 => ?_
        refine ⟨_, _, rfl, Ex.mut (ex3.trans (e4.trans e5)) hp, ?_⟩
        rw [upd_same, ← List.map_set]
        show _ = some (HO.lst ((relax d (sweepO d j P0 k) j k).map V.int))
        rw [hsw]
        rfl
      · rintro σ' H3 ⟨z5, z6, rfl, ex3, hp3⟩
        rw [Int.toNat_natCast] at hp3
        exact ⟨_, z5, z6, rfl, ex3, hp3⟩
    · rintro σ' H2 ⟨z4, z5, z6, rfl, ex2, hp2⟩
      rw [Int.toNat_natCast] at hp2
      exact ⟨_, z4, z5, z6, rfl, ex2, hp2⟩
  · rintro σ' H' ⟨z3, z4, z5, z6, rfl, ex, hp'⟩
    rw [Int.toNat_natCast] at hp'
    refine s_ret (ev_var rfl) fun H2 e2 => q p H2 hp (ex.trans e2) (e2 _ _ hp')
end
/-! ### in_rooms -/
abbrev s_in_rooms : Stmt := topS 25
theorem sc_in_rooms : FnScope ["bids", "people", "goods", "rows", "rooms", "paid", "heaps", "sums", "row", "room", "price"] ["bids"] (defScope s_in_rooms) := ⟨rfl, rfl, rfl, by decide +kernel, rfl, by decide +kernel, by decide +kernel⟩
def sp_in_rooms (K : PySem.W.Frag) (cl : Nat → Addr) : Sp := sp1X fun x H Q E => ∃ (a : Addr) (yss : List (List V)), x = .ref a ∧ LV K H a yss ∧ (∀ y ∈ yss.flatten, Any H y) ∧ (dueR yss = 0 → TV H a yss) ∧
  (dueR yss = 0 → ∀ p hp sp hps H2, DNew H H2 p hp sp hps (heapsR (hsOf yss) (yss.getD 0 []).length) (payR (hsOf yss) (yss.getD 0 []).length) → Ex H H2 → Q (.ref p) H2) ∧ (dueR yss ≠ 0 → ∀ H', Ex H H' → E (.ref (cl (dueR yss))) none H')
section
variable {P : Program} {w : World} {K : PySem.W.Frag} {mg : Str → Option Value} {base : Heap} {cl : Nat → Addr} {C : Addr}
theorem ok_in_rooms (D : DnX K mg "in_rooms" s_in_rooms ["bids"]) (B : Bt mg) (x_TooMany : ExC K mg "TooMany" (cl 2)) (h_check_bids : Ok P w K mg base (L2.CX P w) 4 "check_bids" ["bids"] (sp_check_bids K cl)) (h_best_rooms : Ok P w K mg base CX0 2 "best_rooms" ["rows"] (sp_best_rooms K)) (h_prices : Ok P w K mg base CX0 1 "prices" ["rows", "rooms"] (sp_prices K)) : Ok P w K mg base (L2.CX P w) 5 "in_rooms" ["bids"] (sp_in_rooms K cl) := by
  refine okX_of D sc_in_rooms (fun vs H Q E h => by obtain ⟨_, rfl, _⟩ := h; rfl) (fun f cdv A outer s H vs Q E hr h => ⟨_, (pss_cons (ps_expr (pe_okS h_check_bids hr (by rfl) (fun σ => passAt (takes_of rfl rfl rfl rfl) σ) (pa_cons (pv 0) pa_nil)))
      (pss_cons (ps_set (i := 1) sc_in_rooms.nd rfl (Or.inr rfl) (pe_callB (lenK (K := K)) (by rfl) B.len PySem.boot_len (pa_cons (pv 0) pa_nil)))
      (pss_cons (ps_set (i := 2) sc_in_rooms.nd rfl (Or.inr rfl) (pe_callB (lenK (K := K)) (by rfl) B.len PySem.boot_len (pa_cons (pe_ix (ixL (K := K)) (pv 0) pe_int (fun _ _ => rfl)) pa_nil)))
      (pss_cons (ps_if (pt_cmpR op_gt (pv 2) (pv 1) (nomark _))
        (pss_one (ps_raiseX x_TooMany (takes_of rfl rfl rfl rfl)))
        pss_nil)
      (pss_cons (ps_setLc (own := [("row", 8)]) (i := 3) rfl sc_in_rooms.nd rfl rfl (sw_true rfl rfl rfl (by decide +kernel))  (pi_listK (K := K) (pv 0)) (blkOk_by (own := [("row", 8)]) (N := ["bids", "people", "goods", "rows", "rooms", "paid", "heaps", "sums", "row", "room", "price"]) (sc := (defScope s_in_rooms)) (by decide +kernel)) (fun _ _ _ _ _ => (pg_name (i := 8) sc_in_rooms.nd rfl (Or.inl rfl))) (fun _ _ _ _ _ => pts_nil) (fun _ _ _ _ _ => (pe_op op_cat (pv 8) (pe_op op_rep (pe_lst (pa_cons pe_int pa_nil)) (pe_op op_sub (pv 1) (pv 2))))))
      (pss_cons (ps_set (i := 4) sc_in_rooms.nd rfl (Or.inl rfl) (pe_ok h_best_rooms (hr.mono (by decide)) (by rfl) pass0 (pa_cons (pv 3) pa_nil)))
      (pss_cons (ps_set (i := 5) sc_in_rooms.nd rfl (Or.inr rfl) (pe_ok h_prices (hr.mono (by decide)) (by rfl) pass0 (pa_cons (pv 3) (pa_cons (pv 4) pa_nil))))
      (pss_cons (ps_setLc (own := [("room", 9)]) (i := 6) rfl sc_in_rooms.nd rfl rfl (sw_true rfl rfl rfl (by decide +kernel))  (pi_listK (K := K) (pv 4)) (blkOk_by (own := [("room", 9)]) (N := ["bids", "people", "goods", "rows", "rooms", "paid", "heaps", "sums", "row", "room", "price"]) (sc := (defScope s_in_rooms)) (by decide +kernel)) (fun _ _ _ _ _ => (pg_name (i := 9) sc_in_rooms.nd rfl (Or.inl rfl))) (fun _ _ _ _ _ => pts_nil) (fun _ _ _ _ _ => (pe_ifExp (pt_cmpR op_lt (pv 9) (pv 2) (nomark _)) (pe_lst (pa_cons (pv 9) pa_nil)) (pe_lst pa_nil))))
      (pss_cons (ps_setLc (own := [("price", 10)]) (i := 7) rfl sc_in_rooms.nd rfl rfl (sw_true rfl rfl rfl (by decide +kernel))  (pi_listK (K := K) (pv 5)) (blkOk_by (own := [("price", 10)]) (N := ["bids", "people", "goods", "rows", "rooms", "paid", "heaps", "sums", "row", "room", "price"]) (sc := (defScope s_in_rooms)) (by decide +kernel)) (fun _ _ _ _ _ => (pg_name (i := 10) sc_in_rooms.nd rfl (Or.inl rfl))) (fun _ _ _ _ _ => pts_nil) (fun _ _ _ _ _ => (pe_op op_sub (pe_op op_mul (pv 10) (pv 1)) (pe_callB (sumK (K := K) rfl) (by rfl) B.sum (by decide +kernel) (pa_cons (pv 5) pa_nil)))))
      (pss_one (ps_ret (pe_tup (pa_cons (pv 6) (pa_cons (pv 7) pa_nil)))))))))))))), ?_⟩)
  obtain ⟨x, rfl, a, yss, rfl, hA', hy, hT', q'⟩ := h
  refine q_dropS (ea_cons (ev_var rfl) ea_nil) fun H0 e0 => ⟨_, rfl, a, yss, rfl, hA'.mono e0, fun y m => (hy y m).mono e0, fun h0 H1 e1 => ?_, fun h0 H1 e1 => by
    have e : dueR yss = dueB yss := if_neg h0
    rw [e] at q'
    exact q'.2 h0 H1 (e0.trans e1)⟩
  obtain ⟨hiv, hb⟩ := bids_of h0
  have ed : dueR yss = if yss.length < (yss.getD 0 []).length then 2 else 0 := if_pos h0
  rw [ed] at q' hT'
  have hA : ∀ {H'}, Ex H H' → LL K H' a (hsOf yss) := fun e => by
    show LV K _ a (iv (hsOf yss))
    rw [hiv]
    exact hA'.mono e
  have hlen : (hsOf yss).length = yss.length := List.length_map _
  have hT0 : yss.length < (yss.getD 0 []).length ∨ TV H a (iv (hsOf yss)) := by
    by_cases z : yss.length < (yss.getD 0 []).length
    · exact .inl z
    · rw [hiv]
      exact .inr (hT' (if_neg z))
  generalize (yss.getD 0 []).length = m at q' hb hT0
  rw [← hlen] at q' hT0
  generalize hsOf yss = rows at q' hb hA hT0
  replace e1 := e0.trans e1
  clear e0 hiv hT'
  have ll : (iv rows).length = rows.length := List.length_map _
  have l9 := hb.l9
  have hne := hb.ne
  refine q_asg (v := .int (rows.length : Int)) (ev_is (ev_lenLL (hA e1) (ev_var rfl)) (by rw [ll])) fun H2 e2 => ?_
  have e12 := e1.trans e2
  obtain ⟨q0, hq0, hs0⟩ := ev_row (σ := [some (.ref a), some (.int (rows.length : Int)), none, none, none, none, none, none, none, none, none]) (ta := tVar 0) (tb := tC (.int 0)) (i := 0) (hA e12) hne (ev_var rfl) ev_c
  refine q_asg (v := .int (m : Int)) (ev_is (ev_lenI hs0 hq0) (by rw [hb.at_ hne])) fun H3 e3 => ?_
  have e13 := e12.trans e3
  refine q_when (et_test (ev_op (ev_var rfl) (ev_var rfl) rv_I0)) (fun h H4 e4 => ?_) fun h H4 e4 => ?_
  · have h := of_decide_eq_true h
    have h2 : rows.length < m := by omega
    rw [if_pos h2] at q'
    exact q'.2 (by decide) H4 (e13.trans e4)
  have hm : m ≤ rows.length := by
    have := of_decide_eq_false h
    omega
  rw [if_neg (by omega)] at q'
  have q := q'.1 rfl
  have hT : TV H a (iv rows) := hT0.resolve_left (by omega)
  have e14 := e13.trans e4
  obtain ⟨as, hAs, hAl, hAa⟩ := hT.mono e14
  refine q_asgN (ys := iv (padM rows m)) (en_ys (xs := as) (enc := V.ref) (ev_var rfl) (sq_of hAs) (by omega) (by rw [List.length_map, pad_len]; omega) (fun _ => rfl) fun i x y H5 hi hy e5 => ?_) fun pp pps H5 L5 e5 => ?_
  · rw [List.getElem?_map] at hy
    have hil : i < rows.length := by
      have := (List.getElem?_eq_some_iff.mp hi).1
      omega
    unfold padM at hy
    rw [List.getElem?_map, List.getElem?_eq_getElem hil] at hy
    have ey : (rows[i] ++ List.replicate (rows.length - m) 0).map V.int = y := Option.some.inj hy
    rw [← ey, List.map_append]
    have hr := hAa i x _ hi (by rw [List.getElem?_map, List.getElem?_eq_getElem hil]; rfl)
    have hlr := hb.len _ (List.getElem_mem hil)
    refine el_catV (ev_var rfl) (e5 _ _ hr) (el_rep (g := rows.length - m) (ev_is (ev_op (ev_var rfl) (ev_var rfl) rv_I0) (by congr 1; omega)) (by omega)) (by rw [List.length_map, List.length_map, List.length_replicate]; omega)
  have hpl := pad_row hb.len hm
  have ok := rm_ok hb.len hm
  have hL : ∀ {H'}, Ex H5 H' → LL K H' pp (padM rows m) := fun e => (L5.ext e).lv
  refine q_set (g_call (ea_cons (ev_var rfl) ea_nil H5 (Ex.refl _) _ fun H6 e6 => ?_))
  refine ⟨_, rfl, pp, padM rows m, rfl, hL e6, by rw [pad_len]; omega, hpl, fun rl H7 e7 h7 => ?_⟩
  replace h7 : H7 rl = some (.lst (nv (rmOf rows m))) := h7
  have e57 := e6.trans e7
  refine q_asgL (xs := (paidM rows m).map V.int) (el_call (ea_cons (ev_var rfl) (ea_cons (ev_var rfl) ea_nil)) fun H8 e8 Q q E => ?_) fun dp H9 hdp e9 h9 => ?_
  · refine ⟨_, _, rfl, pp, rl, padM rows m, rmOf rows m, rfl, rfl, hL (e57.trans e8), sq_of (e8 _ _ h7), by rw [pad_len]; omega, hpl, by rw [pad_len, ok.way.len], fun x hx => by rw [pad_len]; exact ok.way.lt x hx, fun p H10 hp e10 h10 => q p H10 hp e10 ?_⟩
    rw [pad_len] at h10
    exact h10
  have hln := ok.way.len
  have hpd := paid_len rows m
  refine q_asgN (ys := iv (heapsR rows m)) (en_ys (xs := rmOf rows m) (enc := fun n : Nat => V.int (n : Int)) (ev_var rfl) (sq_of (e9 _ _ h7)) (by omega) (by rw [List.length_map]; unfold heapsR; rw [List.length_map]) (fun _ => rfl) fun i x y H10 hi hy e10 => ?_) fun hp hps H10 L10 e10 => ?_
  · unfold heapsR at hy
    rw [List.getElem?_map, List.getElem?_map, hi] at hy
    have ey : (if x < m then [(x : Int)] else []).map V.int = y := Option.some.inj hy
    subst ey
    refine el_if (b := decide (x < m)) (et_is (et_test (ev_op (ev_var rfl) (ev_var rfl) rv_I0)) (decide_eq_decide.mpr (by omega))) (fun h => ?_) fun h => ?_
    · rw [if_pos (of_decide_eq_true h)]
      exact el_lst (ea_cons (ev_var rfl) ea_nil) (by show 1 ≤ 100000; omega)
    · rw [if_neg (of_decide_eq_false h)]
      exact el_lst ea_nil (by decide)
  have e9x := e9.trans e10
  refine q_asgL (el_all (xs := paidM rows m) (enc := V.int) (fun z => .int (z * rows.length - (paidM rows m).sum)) (ev_var rfl) (sq_of (e10 _ _ h9)) (by omega) (fun _ => rfl) (fun z hz H11 e11 => ?_)) fun sp H11 hsp e11 hs => ?_
  · exact ev_op (ev_op (ev_var rfl) (ev_var rfl) (rv_I (mulR (by omega)))) (ev_cb (ea_cons (ev_var rfl) ea_nil) fun H12 e12 Q q => ⟨dp, _, rfl, sq_of ((e10.trans (e11.trans e12)) _ _ h9), q H12 (Ex.refl H12)⟩) rv_I0
  have e5x := (e57.trans e9).trans (e10.trans e11)
  have eHx := (e14.trans e5).trans e5x
  refine g_ret (g_tup ⟨.ref hp, rfl, .ref sp, rfl, sz_of (by show 2 ≤ 100000; omega), fun p hpn => ?_⟩)
  have x1 := Ex.new (o := .tup [V.ref hp, V.ref sp]) hpn
  have hs' : H11 sp = some (.lst ((payR rows m).map V.int)) := by
    rw [hs]
    unfold payR
    rw [List.map_map]
    rfl
  refine q p hp sp hps _ ⟨fresh_back eHx hpn, (L10.back ((e14.trans e5).trans (e57.trans e9))).ext (e11.trans x1), fresh_back (((e14.trans e5).trans (e57.trans e9)).trans e10) hsp, x1 _ _ hs', upd_same, fun mem => ?_⟩ (eHx.trans x1)
  obtain ⟨_, zs, hz⟩ := L10.out sp mem
  rw [hsp] at hz
  cases hz
end
/-! ### Table___init__ -/
abbrev s_Table___init__ : Stmt := inClass (topS 31) 0
theorem sc_Table___init__ : FnScope ["self"] ["self"] (defScope s_Table___init__) := ⟨rfl, rfl, rfl, by decide +kernel, rfl, by decide +kernel, by decide +kernel⟩
section
variable {P : Program} {w : World} {K : PySem.W.Frag} {mg : Str → Option Value} {base : Heap} {cl : Nat → Addr} {C : Addr}
theorem ok_Table___init__ (D : DnM K C "__init__" "Table.__init__" s_Table___init__ ["self"]) (B : Bt mg) (T : TabC K mg C) : OkM P w K mg base CX0 1 C "__init__" ["self"] (sp_Table___init__ K C) := by
  refine okM_of D sc_Table___init__ (fun vs H Q E h => by obtain ⟨_, rfl, _⟩ := h; rfl) (fun f cdv A outer s H vs Q E hr h => ⟨_, (pss_cons (ps_fld (pv 0) (pe_lst pa_nil) rfl)
      (pss_cons (ps_fld (pv 0) pe_int rfl)
      (pss_one (ps_fld (pv 0) (pe_lst pa_nil) rfl)))), ?_⟩)
  obtain ⟨x, rfl, p, dx, rfl, hp, q⟩ := h
  refine q_fldL (el_lst ea_nil (by decide)) (fun H1 e1 => ev_var rfl) hp T.cl T.nr (by decide) fun r H1 hr e1 h1 => ?_
  have npr : p ≠ r := ne_of_none hp hr
  refine q_fld (v := .int 0) ev_c (ev_var rfl) upd_same T.cl T.ng (by show 1 < 1000; decide) fun H2 e2 => ?_
  refine s_fldL (el_lst ea_nil (by decide)) (fun H3 e3 => ev_var rfl) upd_same T.cl T.nb (by show 2 < 1000; decide) fun b H3 hb e3 h3 => ?_
  have hbp : b ≠ p := fun z => by
    rw [z, upd_same] at hb
    cases hb
  have hb2 : H2 b = none := by rwa [upd_ne hbp] at hb
  have hr3 : H3 r = some (.lst []) := e3 _ _ (by rw [upd_ne npr.symm]; exact e2 _ _ (by rw [upd_ne npr.symm]; exact h1))
  have hbr : b ≠ r := fun z => by
    rw [z] at hb2
    have : H2 r = some (.lst []) := e2 _ _ (by rw [upd_ne npr.symm]; exact h1)
    rw [this] at hb2
    cases hb2
  have hH : Ex (Fs.msk H [p]) (upd H3 p (.ins C dx (putF "_before" (.ref b) (putF "_goods" (.int 0) (putF "_rows" (.ref r) []))))) := fun a o h => by
    obtain ⟨ha, hn⟩ := msk_of h
    have hn : a ≠ p := fun z => hn (by rw [z]; exact List.mem_cons_self)
    rw [upd_ne hn]
    refine e3 _ _ ?_
    rw [upd_ne hn]
    refine e2 _ _ ?_
    rw [upd_ne hn]
    exact e1 _ _ ha
  have hb0 : H b = none := by
    cases z : H b with
    | none => rfl
    | some o =>
      have : H2 b = some o := e2 _ _ (by rw [upd_ne hbp]; exact e1 _ _ z)
      rw [hb2] at this
      cases this
  refine q b _ hb0 (fun ms km pm => ⟨⟨dx, r, ?_, ⟨[], ?_, rfl, fun i q y h => by simp at h⟩⟩, ⟨[], ?_, rfl, fun i t x h => by simp at h⟩, fun c m => ?_⟩) hH
  · rw [upd_same]
    exact congrArg (fun l => some (HO.ins C dx l)) (fldT_put r b 0)
  · rw [msk_at (by simp only [List.mem_cons]; exact fun z => z.elim npr.symm fun z => z.elim hbr.symm fun z => km r z hr), upd_ne npr.symm]
    exact hr3
  · rw [upd_ne hbp]
    exact h3
  · have hc := km c m
    cases z : H c with
    | none => exact absurd z hc
    | some o =>
      rw [hH c o (by rw [msk_at fun y => pm (by rw [← List.mem_singleton.mp y]; exact m)]; exact z)]
      intro y
      cases y
end
/-! ### Table__change -/
abbrev s_Table__change : Stmt := inClass (topS 31) 10
theorem sc_Table__change : FnScope ["self", "rows", "goods"] ["self", "rows", "goods"] (defScope s_Table__change) := ⟨rfl, rfl, rfl, by decide +kernel, rfl, by decide +kernel, by decide +kernel⟩
section
variable {P : Program} {w : World} {K : PySem.W.Frag} {mg : Str → Option Value} {base : Heap} {cl : Nat → Addr} {C : Addr}
theorem ok_Table__change (D : DnM K C "_change" "Table._change" s_Table__change ["self", "rows", "goods"]) (B : Bt mg) (T : TabC K mg C) : OkM P w K mg base CX0 1 C "_change" ["self", "rows", "goods"] (sp_Table__change K C) := by
  refine okM_of D sc_Table__change (fun vs H Q E h => by obtain ⟨_, _, _, rfl, _⟩ := h; rfl) (fun f cdv A outer s H vs Q E hr h => ⟨_, (pss_cons (ps_expr (pe_bm PySem.F.plainAttrs_list PySem.F.slot_list_append PySem.F.type_list_append mt_append (pe_fld (pv 0) rfl) (pa_cons (pe_tup (pa_cons (pe_fld (pv 0) rfl) (pa_cons (pe_fld (pv 0) rfl) pa_nil))) pa_nil)))
      (pss_cons (ps_fld (pv 0) (pv 1) rfl)
      (pss_one (ps_fld (pv 0) (pv 2) rfl)))), ?_⟩)
  obtain ⟨x, y, z, rfl, ms, p, b, r2, rows, rows2, g, g2, past, rfl, rfl, rfl, A, hr2, hpl, q⟩ := h
  have npb := A.ne
  have A0 := A
  obtain ⟨⟨dx, r, hp, hr⟩, ⟨ts, hb, hl, hpast⟩, hkn⟩ := A
  have htl : (ts.map V.ref).length < 100000 := by rw [List.length_map]; omega
  have fld : ∀ {f v}, NoAttr K C f → (fldT r b (g : Int)).lookup f = some v → ∀ {H1}, Ex H H1 → Ev (tFld K (tVar 0) f) [some (.ref p), some (.ref r2), some (.int (g2 : Int))] H1 v := fun {f v} n l {H1} e => ev_fld (ev_var rfl) (e _ _ hp) T.cl n l
  refine q_appU hb (fld T.nb (fldT_b r b g) (Ex.refl _)) (eu_tup (ea_cons (fld T.nr (fldT_r r b g) (Ex.refl _)) (ea_cons (fld T.ng (fldT_g r b g) (Ex.refl _)) ea_nil)) (by show 2 ≤ 100000; decide)) htl fun t H1 ht e1 h1 => ?_
  have ntp : t ≠ p := fun z => by rw [z, hp] at ht; cases ht
  have ntb : t ≠ b := fun z => by rw [z, hb] at ht; cases ht
  refine q_fld (ev_var rfl) (ev_var rfl) (by rw [upd_ne npb]; exact e1 _ _ hp) T.cl T.nr (by show 3 < 1000; decide) fun H2 e2 => ?_
  rw [fldT_setr]
  refine s_fld (ev_var rfl) (ev_var rfl) upd_same T.cl T.ng (by show 3 < 1000; decide) fun H3 e3 => ?_
  rw [fldT_setg]
  have hH : ∀ a o, H1 a = some o → a ≠ p → a ≠ b → (upd H3 p (.ins C dx (fldT r2 b (g2 : Int)))) a = some o := fun a o ha hap hab => by
    rw [upd_ne hap]
    refine e3 _ _ ?_
    rw [upd_ne hap]
    refine e2 _ _ ?_
    rw [upd_ne hab]
    exact ha
  have ex : Ex (Fs.msk H [p, b]) (upd H3 p (.ins C dx (fldT r2 b (g2 : Int)))) := fun a o h => by
    obtain ⟨ha, hn⟩ := msk_of h
    exact hH a o (e1 _ _ ha) (fun z => hn (by rw [z]; exact List.mem_cons_self)) fun z => hn (by rw [z]; exact List.mem_cons_of_mem _ List.mem_cons_self)
  have exm := ex_mm ex (two_in (ms := ms))
  have hbb : (upd H3 p (.ins C dx (fldT r2 b (g2 : Int)))) b = some (.lst ((ts ++ [t]).map V.ref)) := by
    rw [upd_ne npb.symm]
    have : H3 b = some (.lst (ts.map V.ref ++ [.ref t])) := e3 _ _ (by rw [upd_ne npb.symm]; exact e2 _ _ upd_same)
    rw [this, List.map_append]
    rfl
  refine q _ ex ⟨⟨dx, r2, upd_same, hr2.mono exm⟩, ⟨ts ++ [t], hbb, by rw [List.length_append, List.length_append, hl]; rfl, fun i a x h2 h3 => ?_⟩, A0.kn3 (by rw [upd_same]; intro z; cases z) (by rw [hbb]; intro z; cases z) ex⟩
  · by_cases z : i < ts.length
    · rw [List.getElem?_append_left z] at h2
      rw [List.getElem?_append_left (by omega)] at h3
      obtain ⟨r3, h4, h5⟩ := hpast i a x h2 h3
      exact ⟨r3, exm _ _ h4, h5.mono exm⟩
    · have hi : i = ts.length := by
        have := (List.getElem?_eq_some_iff.mp h2).1
        rw [List.length_append] at this
        have h1 : [t].length = 1 := rfl
        omega
      subst hi
      rw [List.getElem?_append_right (Nat.le_refl _), Nat.sub_self] at h2
      obtain rfl : t = a := Option.some.inj h2
      rw [hl, List.getElem?_append_right (Nat.le_refl _), Nat.sub_self] at h3
      obtain rfl : (rows, g) = x := Option.some.inj h3
      refine ⟨r, ?_, hr.mono exm⟩
      rw [msk_at (by simp only [List.mem_cons]; exact fun z => z.elim ntp fun z => z.elim ntb fun z => hkn t z ht)]
      exact hH t _ h1 ntp ntb
end
/-! ### Table_come -/
abbrev s_Table_come : Stmt := inClass (topS 31) 1
theorem sc_Table_come : FnScope ["self", "row"] ["self", "row"] (defScope s_Table_come) := ⟨rfl, rfl, rfl, by decide +kernel, rfl, by decide +kernel, by decide +kernel⟩
def sp_Table_come (K : PySem.W.Frag) (C : Addr) (cl : Nat → Addr) : Sp := sp2X fun x y H Q E => ∃ (ms : List Addr) (p b a : Addr) (rows : List (List Int)) (g : Nat) (past : List (List (List Int) × Nat)) (ys : List V), x = .ref p ∧ y = .ref a ∧ TabAt C ms H p b rows g past ∧ SqL K H a ys ∧ (∀ y ∈ ys, Any H y) ∧ past.length < 90000 ∧
  (dueC rows.length g ys = 0 → ∀ r, ys = r.map V.int → ∀ H', Ex (Fs.msk H [p, b]) H' → TabAt C ms H' p b (rows ++ [r]) g (past ++ [(rows, g)]) → Q .non H') ∧ (dueC rows.length g ys ≠ 0 → ∀ H', Ex H H' → E (.ref (cl (dueC rows.length g ys))) none H')
section
variable {P : Program} {w : World} {K : PySem.W.Frag} {mg : Str → Option Value} {base : Heap} {cl : Nat → Addr} {C : Addr}
theorem ok_Table_come (D : DnM K C "come" "Table.come" s_Table_come ["self", "row"]) (B : Bt mg) (T : TabC K mg C) (x_TooMany : ExC K mg "TooMany" (cl 2)) (c_MOST_PEOPLE : KInt mg "MOST_PEOPLE" 9) (h_check_line : Ok P w K mg base (L2.CX P w) 3 "check_line" ["line", "many"] (sp_check_line K cl)) (h_Table__change : OkM P w K mg base CX0 1 C "_change" ["self", "rows", "goods"] (sp_Table__change K C)) : OkM P w K mg base (L2.CX P w) 4 C "come" ["self", "row"] (sp_Table_come K C cl) := by
  refine okMX_of D sc_Table_come (fun vs H Q E h => by obtain ⟨_, _, rfl, _⟩ := h; rfl) (fun f cdv A outer s H vs Q E hr h => ⟨_, (pss_cons (ps_if (pt_cmpR op_ge (pe_callB (lenK (K := K)) (by rfl) B.len PySem.boot_len (pa_cons (pe_fld (pv 0) rfl) pa_nil)) (pe_const (by rfl) c_MOST_PEOPLE) (nomark _))
        (pss_one (ps_raiseX x_TooMany (takes_of rfl rfl rfl rfl)))
        pss_nil)
      (pss_cons (ps_expr (pe_okS h_check_line hr (by rfl) (fun σ => passAt (takes_of rfl rfl rfl rfl) σ) (pa_cons (pv 1) (pa_cons (pe_fld (pv 0) rfl) pa_nil))))
      (pss_one (ps_expr (pe_okM h_Table__change T (hr.mono (by decide)) (pv 0) pass0 (pa_cons (pe_op op_cat (pe_fld (pv 0) rfl) (pe_lst (pa_cons (pe_callTy (listK (K := K)) (by rfl) B.list (by decide +kernel) (pa_cons (pv 1) pa_nil)) pa_nil))) (pa_cons (pe_fld (pv 0) rfl) pa_nil))))))), ?_⟩)
  obtain ⟨x, y, rfl, ms, p, b, a, rows, g, past, ys, rfl, rfl, A, hys, hy, hpl, q, qe⟩ := h
  obtain ⟨⟨dx, r, hp, hr⟩, ⟨ts, hb, _⟩, _⟩ := id A
  have hl : (iv rows).length = rows.length := List.length_map _
  unfold dueC at q qe
  refine q_when (et_test (ev_op (ev_is (ev_lenLL ((hr.mono msk_le).lv) (ev_fld (ev_var rfl) hp T.cl T.nr (fldT_r r b g))) (by rw [hl])) ev_c rv_I0)) (fun h H1 e1 => ?_) fun h H1 e1 => ?_
  · have h9 : 9 ≤ rows.length := by
      have := of_decide_eq_true h
      omega
    rw [if_pos h9] at qe
    exact qe (by decide) H1 e1
  have h9 : ¬ 9 ≤ rows.length := by
    have := of_decide_eq_false h
    omega
  rw [if_neg h9] at q qe
  refine q_dropS (ea_cons (ev_var rfl) (ea_cons (ev_fld (ev_var rfl) (e1 _ _ hp) T.cl T.ng (fldT_g r b g)) ea_nil)) fun H2 e2 => ⟨_, _, rfl, a, ys, g, rfl, rfl, ex_l (e1.trans e2) hys, fun y m => (hy y m).mono (e1.trans e2), fun h0 H3 e3 => ?_, fun h0 H3 e3 => qe h0 H3 ((e1.trans e2).trans e3)⟩
  have e13 := (e1.trans e2).trans e3
  obtain ⟨ns, hns, _⟩ := ints_of (lineD_zero h0).2
  have q := q h0 ns hns
  have A3 := A.mono e13
  obtain ⟨ps, hps, tps⟩ := tv_p hr
  have hps0 : H r = some (.lst (ps.map V.ref)) := msk_le _ _ hps
  have hpsl : ps.length ≤ 9 := by
    rw [tps.1, hl]
    omega
  refine g_drop (g_meth (ev_var rfl) (e13 _ _ hp) (fldT_no r b g (by decide +kernel) (by decide +kernel) (by decide +kernel)) fun H4 e4 => ?_)
  have e14 := e13.trans e4
  refine g_cons (g_catN (ev_fld (ev_var rfl) (e14 _ _ hp) T.cl T.nr (fldT_r r b g)) (e14 _ _ hps0) (el_list (ev_var rfl) (ex_l e14 hys)) (by rw [List.length_map]; omega) fun n r2 H5 hn hr2 e5 h5 hn5 => ?_)
  have e15 := e14.trans e5
  have nP : ∀ {c : Addr}, H4 c = none → c ∉ p :: b :: ms := fun {c} hc => ne_in (A.mono e14).kn2 hc
  refine g_cons (ev_fld (ev_var rfl) (e15 _ _ hp) T.cl T.ng (fldT_g r b g) H5 (Ex.refl _) _ fun H6 e6 => g_nil ?_)
  have e16 := e15.trans e6
  refine ⟨_, _, _, rfl, ms, p, b, n, rows, rows ++ [ns], g, g, past, rfl, rfl, rfl, A.mono e16, ?_, hpl, fun H7 e7 A7 => q H7 (fun c o h => ?_) A7⟩
  · refine tv_of (ps := ps ++ [r2]) ?_ ?_
    · rw [msk_at (nP hn), e6 _ _ hn5, List.map_append]
      rfl
    · have t1 : TVp (Fs.msk H6 (p :: b :: ms)) ps (iv rows) := tps.mono (Ex.msk e16)
      have t2 : TVp (Fs.msk H6 (p :: b :: ms)) [r2] [ns.map V.int] := TVp.one (by rw [msk_at (nP hr2), e6 _ _ h5, hns])
      have e : iv (rows ++ [ns]) = iv rows ++ [ns.map V.int] := by show List.map _ _ = _; rw [List.map_append]; rfl
      rw [e]
      exact t1.app t2
  · obtain ⟨h1, h2⟩ := msk_of h
    exact e7 _ _ (by rw [msk_at h2]; exact e16 _ _ h1)
end
/-! ### Table__check_person -/
abbrev s_Table__check_person : Stmt := inClass (topS 31) 11
theorem sc_Table__check_person : FnScope ["self", "person"] ["self", "person"] (defScope s_Table__check_person) := ⟨rfl, rfl, rfl, by decide +kernel, rfl, by decide +kernel, by decide +kernel⟩
def sp_Table__check_person (K : PySem.W.Frag) (C : Addr) (cl : Nat → Addr) : Sp := sp2X fun x y H Q E => ∃ (ms : List Addr) (p b : Addr) (rows : List (List Int)) (g : Nat) (past : List (List (List Int) × Nat)), x = .ref p ∧ TabAt C ms H p b rows g past ∧ Any H y ∧
  (place y rows.length = true → RetV .non H Q) ∧ (place y rows.length = false → ∀ H', Ex H H' → E (.ref (cl 6)) none H')
section
variable {P : Program} {w : World} {K : PySem.W.Frag} {mg : Str → Option Value} {base : Heap} {cl : Nat → Addr} {C : Addr}
theorem ok_Table__check_person (D : DnM K C "_check_person" "Table._check_person" s_Table__check_person ["self", "person"]) (B : Bt mg) (T : TabC K mg C) (x_NoPerson : ExC K mg "NoPerson" (cl 6)) (h_is_place : Ok P w K mg base CX0 2 "is_place" ["thing", "many"] (sp_is_place K)) : OkM P w K mg base (L2.CX P w) 3 C "_check_person" ["self", "person"] (sp_Table__check_person K C cl) := by
  refine okMX_of D sc_Table__check_person (fun vs H Q E h => by obtain ⟨_, _, rfl, _⟩ := h; rfl) (fun f cdv A outer s H vs Q E hr h => ⟨_, (pss_one (ps_if (pt_not (pt_val (pe_ok h_is_place hr (by rfl) pass0 (pa_cons (pv 1) (pa_cons (pe_callB (lenK (K := K)) (by rfl) B.len PySem.boot_len (pa_cons (pe_fld (pv 0) rfl) pa_nil)) pa_nil)))))
        (pss_one (ps_raiseX x_NoPerson (takes_of rfl rfl rfl rfl)))
        pss_nil)), ?_⟩)
  obtain ⟨x, y, rfl, ms, p, b, rows, g, past, rfl, A, hy, q, qe⟩ := h
  obtain ⟨⟨dx, r, hp, hr⟩, _⟩ := id A
  have hl : (iv rows).length = rows.length := List.length_map _
  refine s_when (et_not (et_B (b := place y rows.length) (ev_call (ea_cons (ev_var rfl) (ea_cons (ev_is (ev_lenLL ((hr.mono msk_le).lv) (ev_fld (ev_var rfl) hp T.cl T.nr (fldT_r r b g))) (by rw [hl])) ea_nil)) fun H1 e1 Q q E => ⟨_, _, rfl, _, rfl, hy.mono e1, q H1 (Ex.refl _)⟩))) (fun h H1 e1 => ?_) fun h H1 e1 => ?_
  · exact qe (by simpa using h) H1 e1
  · exact q (by simpa using h) H1 e1
end
/-! ### Table_leave -/
abbrev s_Table_leave : Stmt := inClass (topS 31) 2
theorem sc_Table_leave : FnScope ["self", "person"] ["self", "person"] (defScope s_Table_leave) := ⟨rfl, rfl, rfl, by decide +kernel, rfl, by decide +kernel, by decide +kernel⟩
def sp_Table_leave (K : PySem.W.Frag) (C : Addr) (cl : Nat → Addr) : Sp := sp2X fun x y H Q E => ∃ (ms : List Addr) (p b : Addr) (rows : List (List Int)) (g : Nat) (past : List (List (List Int) × Nat)), x = .ref p ∧ TabAt C ms H p b rows g past ∧ Few rows ∧ Any H y ∧ past.length < 90000 ∧
  (∀ i : Nat, y = .int i → i < rows.length → ∀ H', Ex (Fs.msk H [p, b]) H' → TabAt C ms H' p b (rows.take i ++ rows.drop (i + 1)) g (past ++ [(rows, g)]) → Q .non H') ∧ (place y rows.length = false → ∀ H', Ex H H' → E (.ref (cl 6)) none H')
section
variable {P : Program} {w : World} {K : PySem.W.Frag} {mg : Str → Option Value} {base : Heap} {cl : Nat → Addr} {C : Addr}
theorem ok_Table_leave (D : DnM K C "leave" "Table.leave" s_Table_leave ["self", "person"]) (B : Bt mg) (T : TabC K mg C) (h_Table__check_person : OkM P w K mg base (L2.CX P w) 3 C "_check_person" ["self", "person"] (sp_Table__check_person K C cl)) (h_Table__change : OkM P w K mg base CX0 1 C "_change" ["self", "rows", "goods"] (sp_Table__change K C)) : OkM P w K mg base (L2.CX P w) 4 C "leave" ["self", "person"] (sp_Table_leave K C cl) := by
  refine okMX_of D sc_Table_leave (fun vs H Q E h => by obtain ⟨_, _, rfl, _⟩ := h; rfl) (fun f cdv A outer s H vs Q E hr h => ⟨_, (pss_cons (ps_expr (pe_okM h_Table__check_person T hr (pv 0) (passes_call (takes_of rfl rfl rfl rfl) (fun _ _ _ _ h => h)) (pa_cons (pv 1) pa_nil)))
      (pss_one (ps_expr (pe_okM h_Table__change T (hr.mono (by decide)) (pv 0) pass0 (pa_cons (pe_op op_cat (pe_slice (slK (K := K)) (pe_fld (pv 0) rfl) po_none (po_some (pv 1))) (pe_slice (slK (K := K)) (pe_fld (pv 0) rfl) (po_some (pe_op op_add (pv 1) pe_int)) po_none)) (pa_cons (pe_fld (pv 0) rfl) pa_nil)))))), ?_⟩)
  obtain ⟨x, y, rfl, ms, p, b, rows, g, past, rfl, A, few, hy, hpl, q, qe⟩ := h
  obtain ⟨⟨dx, r, hp, hr⟩, ⟨ts, hb, _⟩, _⟩ := id A
  have nm : ∀ {m : Str}, ¬ m = "_rows" → ¬ m = "_goods" → ¬ m = "_before" → (fldT r b g).lookup m = none := fldT_no r b g
  refine q_dr (g_meth (ev_var rfl) hp (nm (by decide +kernel) (by decide +kernel) (by decide +kernel)) fun H1 e1 => ea_cons (ev_var rfl) ea_nil H1 (Ex.refl _) _ fun H2 e2 => ?_)
  have e12 := e1.trans e2
  refine ⟨_, _, rfl, ms, p, b, rows, g, past, rfl, A.mono e12, hy.mono e12, fun h0 H3 e3 => ?_, fun h0 H3 e3 => qe h0 H3 (e12.trans e3)⟩
  have e13 := e12.trans e3
  obtain ⟨i, rfl, hi⟩ := place_int h0
  have q := q i rfl hi
  obtain ⟨ps, hps, tps⟩ := tv_p hr
  have hps0 : H r = some (.lst (ps.map V.ref)) := msk_le _ _ hps
  have hpsl : ps.length ≤ 9 := by
    have := few.1
    have hl : (iv rows).length = rows.length := List.length_map _
    rw [tps.1, hl]
    omega
  refine g_drop (g_meth (ev_var rfl) (e13 _ _ hp) (nm (by decide +kernel) (by decide +kernel) (by decide +kernel)) fun H4 e4 => ?_)
  have e14 := e13.trans e4
  have hsq : SqL K H4 r (ps.map V.ref) := sq_of (e14 _ _ hps0)
  have frw : Ev (tFld K (tVar 0) "_rows") [some (.ref p), some (.int (i : Int))] H4 (.ref r) := ev_fld (ev_var rfl) (e14 _ _ hp) T.cl T.nr (fldT_r r b g)
  refine g_cons (el_cat (el_slT frw hsq (ev_var rfl)) (el_slF (k := i + 1) frw hsq (ev_is (ev_op (ev_var rfl) ev_c rv_I0) (by congr 1))) (by rw [List.length_take, List.length_drop, List.length_map]; omega) H4 (Ex.refl _) _ fun n H5 hn e5 hn5 => ?_)
  have e15 := e14.trans e5
  have nP : ∀ {c : Addr}, H4 c = none → c ∉ p :: b :: ms := fun {c} hc => ne_in (A.mono e14).kn2 hc
  refine g_cons (ev_fld (ev_var rfl) (e15 _ _ hp) T.cl T.ng (fldT_g r b g) H5 (Ex.refl _) _ fun H6 e6 => g_nil ?_)
  have e16 := e15.trans e6
  refine ⟨_, _, _, rfl, ms, p, b, n, rows, rows.take i ++ rows.drop (i + 1), g, g, past, rfl, rfl, rfl, A.mono e16, ?_, hpl, fun H7 e7 A7 => q H7 (fun c o h => ?_) A7⟩
  · have t1 : TVp (Fs.msk H6 (p :: b :: ms)) ps (iv rows) := tps.mono (Ex.msk e16)
    refine tv_of (ps := ps.take i ++ ps.drop (i + 1)) ?_ ?_
    · rw [msk_at (nP hn), e6 _ _ hn5, List.map_append, List.map_take, List.map_drop]
    · have e : iv (rows.take i ++ rows.drop (i + 1)) = (iv rows).take i ++ (iv rows).drop (i + 1) := by
        show List.map _ _ = _
        rw [List.map_append, List.map_take, List.map_drop]
      rw [e]
      exact (t1.take i).app (t1.drop (i + 1))
  · obtain ⟨h1, h2⟩ := msk_of h
    exact e7 _ _ (by rw [msk_at h2]; exact e16 _ _ h1)
end
/-! ### Table_put -/
abbrev s_Table_put : Stmt := inClass (topS 31) 3
theorem sc_Table_put : FnScope ["self", "column", "row", "amount"] ["self", "column"] (defScope s_Table_put) := ⟨rfl, rfl, rfl, by decide +kernel, rfl, by decide +kernel, by decide +kernel⟩
def sp_Table_put (K : PySem.W.Frag) (C : Addr) (cl : Nat → Addr) : Sp := sp2X fun x y H Q E => ∃ (ms : List Addr) (p b a : Addr) (rows : List (List Int)) (g : Nat) (past : List (List (List Int) × Nat)) (ys : List V), x = .ref p ∧ y = .ref a ∧ TabAt C ms H p b rows g past ∧ Few rows ∧ SqL K H a ys ∧ (∀ y ∈ ys, Any H y) ∧ past.length < 90000 ∧
  (dueP rows.length g ys = 0 → ∀ c, ys = c.map V.int → ∀ H', Ex (Fs.msk H [p, b]) H' → TabAt C ms H' p b (putM rows c) (g + 1) (past ++ [(rows, g)]) → Q .non H') ∧ (dueP rows.length g ys ≠ 0 → ∀ H', Ex H H' → E (.ref (cl (dueP rows.length g ys))) none H')
section
variable {P : Program} {w : World} {K : PySem.W.Frag} {mg : Str → Option Value} {base : Heap} {cl : Nat → Addr} {C : Addr}
theorem ok_Table_put (D : DnM K C "put" "Table.put" s_Table_put ["self", "column"]) (B : Bt mg) (T : TabC K mg C) (x_TooMany : ExC K mg "TooMany" (cl 2)) (c_MOST_GOODS : KInt mg "MOST_GOODS" 40) (h_check_line : Ok P w K mg base (L2.CX P w) 3 "check_line" ["line", "many"] (sp_check_line K cl)) (h_Table__change : OkM P w K mg base CX0 1 C "_change" ["self", "rows", "goods"] (sp_Table__change K C)) : OkM P w K mg base (L2.CX P w) 4 C "put" ["self", "column"] (sp_Table_put K C cl) := by
  refine okMX_of D sc_Table_put (fun vs H Q E h => by obtain ⟨_, _, rfl, _⟩ := h; rfl) (fun f cdv A outer s H vs Q E hr h => ⟨_, (pss_cons (ps_if (pt_cmpR op_ge (pe_fld (pv 0) rfl) (pe_const (by rfl) c_MOST_GOODS) (nomark _))
        (pss_one (ps_raiseX x_TooMany (takes_of rfl rfl rfl rfl)))
        pss_nil)
      (pss_cons (ps_expr (pe_okS h_check_line hr (by rfl) (fun σ => passAt (takes_of rfl rfl rfl rfl) σ) (pa_cons (pv 1) (pa_cons (pe_callB (lenK (K := K)) (by rfl) B.len PySem.boot_len (pa_cons (pe_fld (pv 0) rfl) pa_nil)) pa_nil))))
      (pss_one (ps_expr (pe_okM h_Table__change T (hr.mono (by decide)) (pv 0) pass0 (pa_cons (pe_lc (own := [("row", 2), ("amount", 3)]) rfl sc_Table_put.nd  (pi_zip (by rfl) B.zip (pa_cons (pe_fld (pv 0) rfl) (pa_cons (pv 1) pa_nil))) (blkOk_by (own := [("row", 2), ("amount", 3)]) (N := ["self", "column", "row", "amount"]) (sc := (defScope s_Table_put)) (by decide +kernel)) (fun _ _ _ _ _ => (pg_tupK (K := K) (n := 2) rfl (pgs_cons (pg_name (i := 2) sc_Table_put.nd rfl (Or.inl rfl)) (pgs_cons (pg_name (i := 3) sc_Table_put.nd rfl (Or.inl rfl)) pgs_nil)))) (fun _ _ _ _ _ => pts_nil) (fun _ _ _ _ _ => (pe_op op_cat (pv 2) (pe_lst (pa_cons (pv 3) pa_nil))))) (pa_cons (pe_op op_add (pe_fld (pv 0) rfl) pe_int) pa_nil))))))), ?_⟩)
  obtain ⟨x, y, rfl, ms, p, b, a, rows, g, past, ys, rfl, rfl, A, few, hys, hy, hpl, q, qe⟩ := h
  obtain ⟨⟨dx, r, hp, hr⟩, ⟨ts, hb, _⟩, _⟩ := id A
  have hl : (iv rows).length = rows.length := List.length_map _
  unfold dueP at q qe
  refine q_when (et_test (ev_op (ev_fld (ev_var rfl) hp T.cl T.ng (fldT_g r b g)) ev_c rv_I0)) (fun h H1 e1 => ?_) fun h H1 e1 => ?_
  · have h9 : 40 ≤ g := by
      have := of_decide_eq_true h
      omega
    rw [if_pos h9] at qe
    exact qe (by decide) H1 e1
  have h9 : ¬ 40 ≤ g := by
    have := of_decide_eq_false h
    omega
  rw [if_neg h9] at q qe
  refine q_dropS (ea_cons (ev_var rfl) (ea_cons (ev_is (ev_lenLL (((hr.mono msk_le).mono e1).lv) (ev_fld (ev_var rfl) (e1 _ _ hp) T.cl T.nr (fldT_r r b g))) (by rw [hl])) ea_nil)) fun H2 e2 => ⟨_, _, rfl, a, ys, rows.length, rfl, rfl, ex_l (e1.trans e2) hys, fun y m => (hy y m).mono (e1.trans e2), fun h0 H3 e3 => ?_, fun h0 H3 e3 => qe h0 H3 ((e1.trans e2).trans e3)⟩
  have e13 := (e1.trans e2).trans e3
  obtain ⟨ns, hns, _⟩ := ints_of (lineD_zero h0).2
  have hnl : ns.length = rows.length := by
    have := (lineD_zero h0).1
    rw [hns, List.length_map] at this
    omega
  have q := q h0 ns hns
  obtain ⟨ps, hps, tps⟩ := tv_p hr
  have hps0 : H r = some (.lst (ps.map V.ref)) := msk_le _ _ hps
  have hpsl : ps.length = rows.length := by rw [tps.1, hl]
  have f9 := few.1
  refine g_drop (g_meth (ev_var rfl) (e13 _ _ hp) (fldT_no r b g (by decide +kernel) (by decide +kernel) (by decide +kernel)) fun H4 e4 => ?_)
  have e14 := e13.trans e4
  have hpl2 : (putM rows ns).length = rows.length := by
    unfold putM
    rw [List.length_zipWith, hnl, Nat.min_self]
  refine g_cons (en_zip (xs := ps) (ys := ns) (ea := V.ref) (eb := V.int) (zs := iv (putM rows ns)) (ea_cons (ev_fld (ev_var rfl) (e14 _ _ hp) T.cl T.nr (fldT_r r b g)) (ea_cons (ev_var rfl) ea_nil)) (sq_of (e14 _ _ hps0)) (by rw [← hns]; exact ex_l e14 hys) (by omega) (by omega) (by rw [hpsl, ← hpl2]; exact List.length_map _) (fun _ _ => rfl) (fun i u x z H5 hi hx hz e5 => ?_) H4 (Ex.refl _) _ fun n bs H5 L e5 => ?_)
  · have hi2 : i < rows.length := by
      have := (List.getElem?_eq_some_iff.mp hi).1
      omega
    have hir : (iv rows)[i]? = some (rows[i].map V.int) := by
      show (rows.map _)[i]? = _
      rw [List.getElem?_map, List.getElem?_eq_getElem hi2]
      rfl
    have hu := e5 _ _ (e14 _ _ (msk_le _ _ (tps.2 i u _ hi hir)))
    have ez : z = rows[i].map V.int ++ [V.int x] := by
      have hz : ((putM rows ns).map (·.map V.int))[i]? = some z := hz
      rw [List.getElem?_map] at hz
      have : (putM rows ns)[i]? = some (rows[i] ++ [x]) := by
        unfold putM
        rw [List.getElem?_zipWith, List.getElem?_eq_getElem hi2, hx]
      rw [this] at hz
      obtain rfl := Option.some.inj hz
      show (rows[i] ++ [x]).map V.int = _
      rw [List.map_append]
      rfl
    rw [ez]
    have fr := few.2 _ (List.getElem_mem hi2)
    exact el_catV (ev_var rfl) hu (el_lst (ea_cons (ev_var rfl) ea_nil) (by show 1 ≤ 100000; decide)) (by rw [List.length_map]; show _ + 1 ≤ _; omega)
  have e15 := e14.trans e5
  have nP : ∀ {c : Addr}, H4 c = none → c ∉ p :: b :: ms := fun {c} hc => ne_in (A.mono e14).kn2 hc
  refine g_cons (ev_op (ev_fld (ev_var rfl) (e15 _ _ hp) T.cl T.ng (fldT_g r b g)) ev_c rv_I0 H5 (Ex.refl _) _ fun H6 e6 => g_nil ?_)
  have e16 := e15.trans e6
  refine ⟨_, _, _, rfl, ms, p, b, n, rows, putM rows ns, g, g + 1, past, rfl, rfl, rfl, A.mono e16, ?_, hpl, fun H7 e7 A7 => q H7 (fun c o h => ?_) A7⟩
  · have L6 := L.ext e6
    refine tv_of (ps := bs) ?_ ⟨L6.len, fun i q y h1 h2 => ?_⟩
    · rw [msk_at (nP L.new)]
      exact L6.top
    · have := L6.at_ i q y h1 h2
      rw [msk_at (nP this.1)]
      exact this.2
  · obtain ⟨h1, h2⟩ := msk_of h
    exact e7 _ _ (by rw [msk_at h2]; exact e16 _ _ h1)
end
/-! ### Table__check_good -/
abbrev s_Table__check_good : Stmt := inClass (topS 31) 12
theorem sc_Table__check_good : FnScope ["self", "good"] ["self", "good"] (defScope s_Table__check_good) := ⟨rfl, rfl, rfl, by decide +kernel, rfl, by decide +kernel, by decide +kernel⟩
def sp_Table__check_good (K : PySem.W.Frag) (C : Addr) (cl : Nat → Addr) : Sp := sp2X fun x y H Q E => ∃ (ms : List Addr) (p b : Addr) (rows : List (List Int)) (g : Nat) (past : List (List (List Int) × Nat)), x = .ref p ∧ TabAt C ms H p b rows g past ∧ Any H y ∧
  (place y g = true → RetV .non H Q) ∧ (place y g = false → ∀ H', Ex H H' → E (.ref (cl 7)) none H')
section
variable {P : Program} {w : World} {K : PySem.W.Frag} {mg : Str → Option Value} {base : Heap} {cl : Nat → Addr} {C : Addr}
theorem ok_Table__check_good (D : DnM K C "_check_good" "Table._check_good" s_Table__check_good ["self", "good"]) (B : Bt mg) (T : TabC K mg C) (x_NoGood : ExC K mg "NoGood" (cl 7)) (h_is_place : Ok P w K mg base CX0 2 "is_place" ["thing", "many"] (sp_is_place K)) : OkM P w K mg base (L2.CX P w) 3 C "_check_good" ["self", "good"] (sp_Table__check_good K C cl) := by
  refine okMX_of D sc_Table__check_good (fun vs H Q E h => by obtain ⟨_, _, rfl, _⟩ := h; rfl) (fun f cdv A outer s H vs Q E hr h => ⟨_, (pss_one (ps_if (pt_not (pt_val (pe_ok h_is_place hr (by rfl) pass0 (pa_cons (pv 1) (pa_cons (pe_fld (pv 0) rfl) pa_nil)))))
        (pss_one (ps_raiseX x_NoGood (takes_of rfl rfl rfl rfl)))
        pss_nil)), ?_⟩)
  obtain ⟨x, y, rfl, ms, p, b, rows, g, past, rfl, A, hy, q, qe⟩ := h
  obtain ⟨⟨dx, r, hp, hr⟩, _⟩ := id A
  refine s_when (et_not (et_B (b := place y g) (ev_call (ea_cons (ev_var rfl) (ea_cons (ev_fld (ev_var rfl) hp T.cl T.ng (fldT_g r b g)) ea_nil)) fun H1 e1 Q q E => ⟨_, _, rfl, _, rfl, hy.mono e1, q H1 (Ex.refl _)⟩))) (fun h H1 e1 => ?_) fun h H1 e1 => ?_
  · exact qe (by simpa using h) H1 e1
  · exact q (by simpa using h) H1 e1
end
/-! ### Table_take -/
abbrev s_Table_take : Stmt := inClass (topS 31) 4
theorem sc_Table_take : FnScope ["self", "good", "row"] ["self", "good"] (defScope s_Table_take) := ⟨rfl, rfl, rfl, by decide +kernel, rfl, by decide +kernel, by decide +kernel⟩
def sp_Table_take (K : PySem.W.Frag) (C : Addr) (cl : Nat → Addr) : Sp := sp2X fun x y H Q E => ∃ (ms : List Addr) (p b : Addr) (rows : List (List Int)) (g : Nat) (past : List (List (List Int) × Nat)), x = .ref p ∧ TabAt C ms H p b rows g past ∧ Few rows ∧ Any H y ∧ past.length < 90000 ∧
  (∀ i : Nat, y = .int i → i < g → ∀ H', Ex (Fs.msk H [p, b]) H' → TabAt C ms H' p b (takeM rows i) (g - 1) (past ++ [(rows, g)]) → Q .non H') ∧ (place y g = false → ∀ H', Ex H H' → E (.ref (cl 7)) none H')
section
variable {P : Program} {w : World} {K : PySem.W.Frag} {mg : Str → Option Value} {base : Heap} {cl : Nat → Addr} {C : Addr}
theorem ok_Table_take (D : DnM K C "take" "Table.take" s_Table_take ["self", "good"]) (B : Bt mg) (T : TabC K mg C) (h_Table__check_good : OkM P w K mg base (L2.CX P w) 3 C "_check_good" ["self", "good"] (sp_Table__check_good K C cl)) (h_Table__change : OkM P w K mg base CX0 1 C "_change" ["self", "rows", "goods"] (sp_Table__change K C)) : OkM P w K mg base (L2.CX P w) 4 C "take" ["self", "good"] (sp_Table_take K C cl) := by
  refine okMX_of D sc_Table_take (fun vs H Q E h => by obtain ⟨_, _, rfl, _⟩ := h; rfl) (fun f cdv A outer s H vs Q E hr h => ⟨_, (pss_cons (ps_expr (pe_okM h_Table__check_good T hr (pv 0) (passes_call (takes_of rfl rfl rfl rfl) (fun _ _ _ _ h => h)) (pa_cons (pv 1) pa_nil)))
      (pss_one (ps_expr (pe_okM h_Table__change T (hr.mono (by decide)) (pv 0) pass0 (pa_cons (pe_lc (own := [("row", 2)]) rfl sc_Table_take.nd  (pi_listK (K := K) (pe_fld (pv 0) rfl)) (blkOk_by (own := [("row", 2)]) (N := ["self", "good", "row"]) (sc := (defScope s_Table_take)) (by decide +kernel)) (fun _ _ _ _ _ => (pg_name (i := 2) sc_Table_take.nd rfl (Or.inl rfl))) (fun _ _ _ _ _ => pts_nil) (fun _ _ _ _ _ => (pe_op op_cat (pe_slice (slK (K := K)) (pv 2) po_none (po_some (pv 1))) (pe_slice (slK (K := K)) (pv 2) (po_some (pe_op op_add (pv 1) pe_int)) po_none)))) (pa_cons (pe_op op_sub (pe_fld (pv 0) rfl) pe_int) pa_nil)))))), ?_⟩)
  obtain ⟨x, y, rfl, ms, p, b, rows, g, past, rfl, A, few, hy, hpl, q, qe⟩ := h
  obtain ⟨⟨dx, r, hp, hr⟩, ⟨ts, hb, _⟩, _⟩ := id A
  have nm : ∀ {m : Str}, ¬ m = "_rows" → ¬ m = "_goods" → ¬ m = "_before" → (fldT r b g).lookup m = none := fldT_no r b g
  refine q_dr (g_meth (ev_var rfl) hp (nm (by decide +kernel) (by decide +kernel) (by decide +kernel)) fun H1 e1 => ea_cons (ev_var rfl) ea_nil H1 (Ex.refl _) _ fun H2 e2 => ?_)
  have e12 := e1.trans e2
  refine ⟨_, _, rfl, ms, p, b, rows, g, past, rfl, A.mono e12, hy.mono e12, fun h0 H3 e3 => ?_, fun h0 H3 e3 => qe h0 H3 (e12.trans e3)⟩
  have e13 := e12.trans e3
  obtain ⟨i, rfl, hi⟩ := place_int h0
  have q := q i rfl hi
  obtain ⟨ps, hps, tps⟩ := tv_p hr
  have hps0 : H r = some (.lst (ps.map V.ref)) := msk_le _ _ hps
  have hl : (iv rows).length = rows.length := List.length_map _
  have hpsl : ps.length = rows.length := by rw [tps.1, hl]
  have f9 := few.1
  refine g_drop (g_meth (ev_var rfl) (e13 _ _ hp) (nm (by decide +kernel) (by decide +kernel) (by decide +kernel)) fun H4 e4 => ?_)
  have e14 := e13.trans e4
  refine g_cons (en_ys (xs := ps) (enc := V.ref) (ys := iv (takeM rows i)) (ev_fld (ev_var rfl) (e14 _ _ hp) T.cl T.nr (fldT_r r b g)) (sq_of (e14 _ _ hps0)) (by omega) (by rw [hpsl]; show List.length (List.map _ (List.map _ _)) = _; rw [List.length_map, List.length_map]) (fun _ => rfl) (fun k u z H5 hk hz e5 => ?_) H4 (Ex.refl _) _ fun n bs H5 L e5 => ?_)
  · have hk2 : k < rows.length := by
      have := (List.getElem?_eq_some_iff.mp hk).1
      omega
    have hir : (iv rows)[k]? = some (rows[k].map V.int) := by
      show (rows.map _)[k]? = _
      rw [List.getElem?_map, List.getElem?_eq_getElem hk2]
      rfl
    have hu : SqL K H5 u (rows[k].map V.int) := sq_of (e5 _ _ (e14 _ _ (msk_le _ _ (tps.2 k u _ hk hir))))
    have ez : z = (rows[k].map V.int).take i ++ (rows[k].map V.int).drop (i + 1) := by
      have hz : ((rows.map fun r => r.take i ++ r.drop (i + 1)).map (·.map V.int))[k]? = some z := hz
      rw [List.getElem?_map, List.getElem?_map, List.getElem?_eq_getElem hk2] at hz
      obtain rfl := Option.some.inj hz
      show (rows[k].take i ++ rows[k].drop (i + 1)).map V.int = _
      rw [List.map_append, List.map_take, List.map_drop]
    rw [ez]
    have fr := few.2 _ (List.getElem_mem hk2)
    exact el_cat (el_slT (ev_var rfl) hu (ev_var rfl)) (el_slF (k := i + 1) (ev_var rfl) hu (ev_is (ev_op (ev_var rfl) ev_c rv_I0) (by congr 1))) (by rw [List.length_take, List.length_drop, List.length_map]; omega)
  have e15 := e14.trans e5
  have nP : ∀ {c : Addr}, H4 c = none → c ∉ p :: b :: ms := fun {c} hc => ne_in (A.mono e14).kn2 hc
  refine g_cons (ev_is (ev_op (ev_fld (ev_var rfl) (e15 _ _ hp) T.cl T.ng (fldT_g r b g)) ev_c rv_I0) (show V.int ((g : Int) - 1) = V.int ((g - 1 : Nat) : Int) by congr 1; omega) H5 (Ex.refl _) _ fun H6 e6 => g_nil ?_)
  have e16 := e15.trans e6
  refine ⟨_, _, _, rfl, ms, p, b, n, rows, takeM rows i, g, g - 1, past, rfl, rfl, rfl, A.mono e16, ?_, hpl, fun H7 e7 A7 => q H7 (fun c o h => ?_) A7⟩
  · have L6 := L.ext e6
    refine tv_of (ps := bs) ?_ ⟨L6.len, fun i q y h1 h2 => ?_⟩
    · rw [msk_at (nP L.new)]
      exact L6.top
    · have := L6.at_ i q y h1 h2
      rw [msk_at (nP this.1)]
      exact this.2
  · obtain ⟨h1, h2⟩ := msk_of h
    exact e7 _ _ (by rw [msk_at h2]; exact e16 _ _ h1)
end
/-! ### Table_bid -/
abbrev s_Table_bid : Stmt := inClass (topS 31) 5
theorem sc_Table_bid : FnScope ["self", "person", "good", "amount", "row"] ["self", "person", "good", "amount"] (defScope s_Table_bid) := ⟨rfl, rfl, rfl, by decide +kernel, rfl, by decide +kernel, by decide +kernel⟩
def sp_Table_bid (K : PySem.W.Frag) (C : Addr) (cl : Nat → Addr) : Sp := sp4X fun x y z w H Q E => ∃ (ms : List Addr) (p b : Addr) (rows : List (List Int)) (g : Nat) (past : List (List (List Int) × Nat)), x = .ref p ∧ TabAt C ms H p b rows g past ∧ Few rows ∧ (∀ r ∈ rows, r.length = g) ∧ Any H y ∧ Any H z ∧ Any H w ∧ past.length < 90000 ∧
  (∀ (i j : Nat) (a : Int), y = .int i → z = .int j → w = .int a → i < rows.length → j < g → 0 ≤ a ∧ a ≤ 1000000000000 → ∀ H', Ex (Fs.msk H [p, b]) H' → TabAt C ms H' p b (setM rows i j a) g (past ++ [(rows, g)]) → Q .non H') ∧
  (dueG y z w rows.length g ≠ 0 → ∀ H', Ex H H' → E (.ref (cl (dueG y z w rows.length g))) none H')
section
variable {P : Program} {w : World} {K : PySem.W.Frag} {mg : Str → Option Value} {base : Heap} {cl : Nat → Addr} {C : Addr}
theorem ok_Table_bid (D : DnM K C "bid" "Table.bid" s_Table_bid ["self", "person", "good", "amount"]) (B : Bt mg) (T : TabC K mg C) (x_BadBid : ExC K mg "BadBid" (cl 4)) (h_Table__check_person : OkM P w K mg base (L2.CX P w) 3 C "_check_person" ["self", "person"] (sp_Table__check_person K C cl)) (h_Table__check_good : OkM P w K mg base (L2.CX P w) 3 C "_check_good" ["self", "good"] (sp_Table__check_good K C cl)) (h_Table__change : OkM P w K mg base CX0 1 C "_change" ["self", "rows", "goods"] (sp_Table__change K C)) (h_is_bid : Ok P w K mg base CX0 2 "is_bid" ["thing"] (sp_is_bid K)) : OkM P w K mg base (L2.CX P w) 4 C "bid" ["self", "person", "good", "amount"] (sp_Table_bid K C cl) := by
  refine okMX_of D sc_Table_bid (fun vs H Q E h => by obtain ⟨_, _, _, _, rfl, _⟩ := h; rfl) (fun f cdv A outer s H vs Q E hr h => ⟨_, (pss_cons (ps_expr (pe_okM h_Table__check_person T hr (pv 0) (passes_call (takes_of rfl rfl rfl rfl) (fun _ _ _ _ h => h)) (pa_cons (pv 1) pa_nil)))
      (pss_cons (ps_expr (pe_okM h_Table__check_good T hr (pv 0) (passes_call (takes_of rfl rfl rfl rfl) (fun _ _ _ _ h => h)) (pa_cons (pv 2) pa_nil)))
      (pss_cons (ps_if (pt_not (pt_val (pe_ok h_is_bid (hr.mono (by decide)) (by rfl) pass0 (pa_cons (pv 3) pa_nil))))
        (pss_one (ps_raiseX x_BadBid (takes_of rfl rfl rfl rfl)))
        pss_nil)
      (pss_cons (ps_set (i := 4) sc_Table_bid.nd rfl (Or.inl rfl) (pe_callTy (listK (K := K)) (by rfl) B.list (by decide +kernel) (pa_cons (pe_ix (ixL (K := K)) (pe_fld (pv 0) rfl) (pv 1) (fun _ _ => rfl)) pa_nil)))
      (pss_cons (ps_asg (pv 3) (pg_sub (pv 4) (pv 2) set_list))
      (pss_one (ps_expr (pe_okM h_Table__change T (hr.mono (by decide)) (pv 0) pass0 (pa_cons (pe_op op_cat (pe_op op_cat (pe_slice (slK (K := K)) (pe_fld (pv 0) rfl) po_none (po_some (pv 1))) (pe_lst (pa_cons (pv 4) pa_nil))) (pe_slice (slK (K := K)) (pe_fld (pv 0) rfl) (po_some (pe_op op_add (pv 1) pe_int)) po_none)) (pa_cons (pe_fld (pv 0) rfl) pa_nil)))))))))), ?_⟩)
  obtain ⟨x, y, z, w, rfl, ms, p, b, rows, g, past, rfl, A, few, hg, hy, hz, hw, hpl, q, qe⟩ := h
  obtain ⟨⟨dx, r, hp, hr⟩, ⟨ts, hb, _⟩, _⟩ := id A
  have nm : ∀ {m : Str}, ¬ m = "_rows" → ¬ m = "_goods" → ¬ m = "_before" → (fldT r b g).lookup m = none := fldT_no r b g
  unfold dueG at qe
  refine q_dr (g_meth (ev_var rfl) hp (nm (by decide +kernel) (by decide +kernel) (by decide +kernel)) fun H1 e1 => ea_cons (ev_var rfl) ea_nil H1 (Ex.refl _) _ fun H2 e2 => ?_)
  have e12 := e1.trans e2
  refine ⟨_, _, rfl, ms, p, b, rows, g, past, rfl, A.mono e12, hy.mono e12, fun h0 H3 e3 => ?_, fun h0 H3 e3 => (by rw [if_neg (show ¬ place y rows.length = true by rw [h0]; decide)] at qe; exact qe (by decide) H3 (e12.trans e3))⟩
  rw [if_pos h0] at qe
  have e13 := e12.trans e3
  refine q_dr (g_meth (ev_var rfl) (e13 _ _ hp) (nm (by decide +kernel) (by decide +kernel) (by decide +kernel)) fun H4 e4 => ea_cons (ev_var rfl) ea_nil H4 (Ex.refl _) _ fun H5 e5 => ?_)
  have e15 := (e13.trans e4).trans e5
  refine ⟨_, _, rfl, ms, p, b, rows, g, past, rfl, A.mono e15, hz.mono e15, fun h1 H6 e6 => ?_, fun h1 H6 e6 => (by rw [if_neg (show ¬ place z g = true by rw [h1]; decide)] at qe; exact qe (by decide) H6 (e15.trans e6))⟩
  rw [if_pos h1] at qe
  have e16 := e15.trans e6
  refine q_when (et_not (et_B (b := bidOk w) (ev_call (ea_cons (ev_var rfl) ea_nil) fun H7 e7 Q q E => ⟨_, rfl, hw.mono (e16.trans e7), q H7 (Ex.refl _)⟩))) (fun h2 H7 e7 => ?_) fun h2 H7 e7 => ?_
  · have h2 : bidOk w = false := by simpa using h2
    rw [h2] at qe
    exact qe (by decide) H7 (e16.trans e7)
  have h2 : bidOk w = true := by simpa using h2
  obtain ⟨i, rfl, hi⟩ := place_int h0
  obtain ⟨j, rfl, hj⟩ := place_int h1
  obtain ⟨a, rfl, ha⟩ : ∃ a : Int, w = .int a ∧ 0 ≤ a ∧ a ≤ 1000000000000 := by
    cases w with
    | int a => exact ⟨a, rfl, of_decide_eq_true h2⟩
    | _ => cases h2
  have q := q i j a rfl rfl rfl hi hj ha
  have e17 := e16.trans e7
  obtain ⟨ps, hps, tps⟩ := tv_p hr
  have hps0 : H r = some (.lst (ps.map V.ref)) := msk_le _ _ hps
  have hl : (iv rows).length = rows.length := List.length_map _
  have hpsl : ps.length = rows.length := by rw [tps.1, hl]
  have f9 := few.1
  have hip : ps[i]? = some ps[i] := List.getElem?_eq_getElem (by omega)
  have hir : (iv rows)[i]? = some (rows[i].map V.int) := by
    show (rows.map _)[i]? = _
    rw [List.getElem?_map, List.getElem?_eq_getElem hi]
    rfl
  have hrow : H ps[i] = some (.lst (rows[i].map V.int)) := msk_le _ _ (tps.2 i _ _ hip hir)
  have hrl : rows[i].length = g := hg _ (List.getElem_mem hi)
  have ixr : atI (ps.map V.ref) (i : Int) = some (.ref ps[i]) := atI_nat (by rw [List.getElem?_map, hip]; rfl)
  refine q_asgL (el_list (ev_op (ev_fld (ev_var rfl) (e17 _ _ hp) T.cl T.nr (fldT_r r b g)) (ev_var rfl) (rv_ixL (sq_of (e17 _ _ hps0)) ixr)) (sq_of (e17 _ _ hrow))) fun c H8 hc e8 h8 => ?_
  have e18 := e17.trans e8
  refine q_setL h8 (ev_var rfl) (ev_var rfl) (ev_var rfl) (by rw [List.length_map]; omega) fun H9 e9 => ?_
  have e19 : Ex H (upd H9 c (.lst ((rows[i].map V.int).set j (.int a)))) := Ex.mut (e18.trans e9) (fresh_back e17 hc)
  have hc9 : (upd H9 c (.lst ((rows[i].map V.int).set j (.int a)))) c = some (.lst ((rows[i].map V.int).set j (.int a))) := upd_same
  generalize upd H9 c (.lst ((rows[i].map V.int).set j (.int a))) = H10 at e19 hc9
  refine g_drop (g_meth (ev_var rfl) (e19 _ _ hp) (nm (by decide +kernel) (by decide +kernel) (by decide +kernel)) fun H11 e11 => ?_)
  have e111 := e19.trans e11
  have hsq : SqL K H11 r (ps.map V.ref) := sq_of (e111 _ _ hps0)
  have frw : Ev (tFld K (tVar 0) "_rows") [some (.ref p), some (.int (i : Int)), some (.int (j : Int)), some (.int a), some (.ref c)] H11 (.ref r) := ev_fld (ev_var rfl) (e111 _ _ hp) T.cl T.nr (fldT_r r b g)
  refine g_cons (el_cat (el_cat (el_slT frw hsq (ev_var rfl)) (el_lst (ea_cons (ev_var rfl) ea_nil) (by show 1 ≤ 100000; decide)) (by rw [List.length_take, List.length_map]; show _ + 1 ≤ _; omega)) (el_slF (k := i + 1) frw hsq (ev_is (ev_op (ev_var rfl) ev_c rv_I0) (by congr 1))) (by rw [List.length_append, List.length_take, List.length_drop, List.length_map]; show _ + 1 + _ ≤ _; omega) H11 (Ex.refl _) _ fun n H12 hn e12' hn12 => ?_)
  have e112 := e111.trans e12'
  have hcP : c ∉ p :: b :: ms := ne_in (A.mono e17).kn2 hc
  have nP : ∀ {c : Addr}, H11 c = none → c ∉ p :: b :: ms := fun {c} hc => ne_in (A.mono e111).kn2 hc
  refine g_cons (ev_fld (ev_var rfl) (e112 _ _ hp) T.cl T.ng (fldT_g r b g) H12 (Ex.refl _) _ fun H13 e13' => g_nil ?_)
  have e113 := e112.trans e13'
  refine ⟨_, _, _, rfl, ms, p, b, n, rows, setM rows i j a, g, g, past, rfl, rfl, rfl, A.mono e113, ?_, hpl, fun H14 e14 A14 => q H14 (fun c o h => ?_) A14⟩
  · have t1 : TVp (Fs.msk H13 (p :: b :: ms)) ps (iv rows) := tps.mono (Ex.msk e113)
    have t2 : TVp (Fs.msk H13 (p :: b :: ms)) [c] [((rows.getD i []).set j a).map V.int] := TVp.one (by
      rw [msk_at hcP]
      have e0 : rows.getD i [] = rows[i] := by simp [List.getD_eq_getElem?_getD, hi]
      rw [e0, List.map_set]
      exact ((e11.trans e12').trans e13') _ _ hc9)
    refine tv_of (ps := ps.take i ++ [c] ++ ps.drop (i + 1)) ?_ ?_
    · rw [msk_at (nP hn), e13' _ _ hn12, List.map_append, List.map_append, List.map_take, List.map_drop]
      rfl
    · have e : iv (setM rows i j a) = (iv rows).take i ++ [((rows.getD i []).set j a).map V.int] ++ (iv rows).drop (i + 1) := by
        show List.map _ (_ ++ _ ++ _) = _
        rw [List.map_append, List.map_append, List.map_take, List.map_drop]
        rfl
      rw [e]
      exact ((t1.take i).app t2).app (t1.drop (i + 1))
  · obtain ⟨h1, h2⟩ := msk_of h
    exact e14 _ _ (by rw [msk_at h2]; exact e113 _ _ h1)
end
/-! ### Table_back -/
abbrev s_Table_back : Stmt := inClass (topS 31) 6
theorem sc_Table_back : FnScope ["self"] ["self"] (defScope s_Table_back) := ⟨rfl, rfl, rfl, by decide +kernel, rfl, by decide +kernel, by decide +kernel⟩
def sp_Table_back (K : PySem.W.Frag) (C : Addr) : Sp := sp1 fun x H Q => ∃ (ms : List Addr) (p b : Addr) (rows : List (List Int)) (g : Nat) (past : List (List (List Int) × Nat)), x = .ref p ∧ TabAt C ms H p b rows g past ∧
  (past = [] → RetV (.bl false) H Q) ∧ ∀ past' x, past = past' ++ [x] → ∀ H', Ex (Fs.msk H [p, b]) H' → TabAt C ms H' p b x.1 x.2 past' → Q (.bl true) H'
section
variable {P : Program} {w : World} {K : PySem.W.Frag} {mg : Str → Option Value} {base : Heap} {cl : Nat → Addr} {C : Addr}
theorem ok_Table_back (D : DnM K C "back" "Table.back" s_Table_back ["self"]) (B : Bt mg) (T : TabC K mg C) : OkM P w K mg base CX0 1 C "back" ["self"] (sp_Table_back K C) := by
  refine okM_of D sc_Table_back (fun vs H Q E h => by obtain ⟨_, rfl, _⟩ := h; rfl) (fun f cdv A outer s H vs Q E hr h => ⟨_, (pss_cons (ps_if (pt_cmpR op_eq (pe_callB (lenK (K := K)) (by rfl) B.len PySem.boot_len (pa_cons (pe_fld (pv 0) rfl) pa_nil)) pe_int (nomark _))
        (pss_one (ps_ret pe_bl))
        pss_nil)
      (pss_cons (ps_asg (pe_bm0 PySem.F.plainAttrs_list PySem.F.slot_list_pop PySem.F.type_list_pop mt_pop (pe_fld (pv 0) rfl)) (pg_tupK (K := K) (n := 2) rfl (pgs_cons (pg_fld (K := K) (pv 0)) (pgs_cons (pg_fld (K := K) (pv 0)) pgs_nil))))
      (pss_one (ps_ret pe_bl)))), ?_⟩)
  obtain ⟨x, rfl, ms, p, b, rows, g, past, rfl, A, q0, q1⟩ := h
  have npb := A.ne
  have A0 := A
  obtain ⟨⟨dx, r, hp, hr⟩, ⟨ts, hb, hl, hpast⟩, hkn⟩ := A
  refine q_when (et_test (ev_op (ev_len (ev_fld (ev_var rfl) hp T.cl T.nb (fldT_b r b g)) (sq_of hb)) ev_c (rv_eq rfl))) (fun h H1 e1 => ?_) fun h H1 e1 => ?_
  · have h := V.int.inj (of_decide_eq_true h)
    rw [List.length_map] at h
    exact s_ret ev_c fun H2 e2 => q0 (List.eq_nil_of_length_eq_zero (by omega)) H2 (e1.trans e2)
  have h := of_decide_eq_false h
  have hn : past ≠ [] := fun z => h (by rw [List.length_map, hl, z]; rfl)
  obtain ⟨past', x, rfl⟩ : ∃ past' x, past = past' ++ [x] := ⟨past.dropLast, past.getLast hn, (List.dropLast_concat_getLast hn).symm⟩
  have htn : ts ≠ [] := fun z => by
    rw [z, List.length_append] at hl
    have h1 : [x].length = 1 := rfl
    have h2 : ([] : List Addr).length = 0 := rfl
    omega
  obtain ⟨ts', t, rfl⟩ : ∃ ts' t, ts = ts' ++ [t] := ⟨ts.dropLast, ts.getLast htn, (List.dropLast_concat_getLast htn).symm⟩
  have hl' : ts'.length = past'.length := by
    rw [List.length_append, List.length_append] at hl
    exact Nat.succ.inj hl
  obtain ⟨r2, ht, hr2⟩ := hpast past'.length t x (by rw [← hl', List.getElem?_append_right (Nat.le_refl _), Nat.sub_self]; rfl) (by rw [List.getElem?_append_right (Nat.le_refl _), Nat.sub_self]; rfl)
  have q1 := q1 past' x rfl
  have hlast : ((ts' ++ [t]).map V.ref)[((ts' ++ [t]).map V.ref).length - 1]? = some (V.ref t) := by
    rw [List.map_append, List.length_append]
    show (List.map V.ref ts' ++ [V.ref t])[(List.map V.ref ts').length + 1 - 1]? = _
    rw [Nat.add_sub_cancel, List.getElem?_append_right (Nat.le_refl _), Nat.sub_self]
    rfl
  have hdrop : ((ts' ++ [t]).map V.ref).dropLast = ts'.map V.ref := by
    rw [List.map_append]
    exact List.dropLast_concat
  have ntb : t ∉ p :: b :: ms := (msk_of ht).2
  have ntb1 : t ≠ b := fun z => ntb (by rw [z]; exact List.mem_cons_of_mem _ List.mem_cons_self)
  have ht0 : H t = some (.tup [.ref r2, .int (x.2 : Int)]) := (msk_of ht).1
  refine q_asgG (ev_fld (ev_var rfl) (e1 _ _ hp) T.cl T.nb (fldT_b r b g) H1 (Ex.refl _) _ fun H2 e2 => ⟨Or.inl ⟨rfl, _, sq_of ((e1.trans e2) _ _ hb)⟩, b, _, .ref t, rfl, rfl, (e1.trans e2) _ _ hb, hlast, ?_⟩)
  rw [hdrop]
  have e12 := e1.trans e2
  refine ⟨t, [.ref r2, .int (x.2 : Int)], rfl, st_of (by rw [upd_ne ntb1]; exact e12 _ _ ht0), rfl, _, _, rfl, .ref p, rfl, p, C, dx, _, rfl, by rw [upd_ne npb]; exact e12 _ _ hp, T.cl, T.nr, by show 3 < 1000; decide, _, _, rfl, .ref p, rfl, p, C, dx, _, rfl, upd_same, T.cl, T.ng, by rw [fldT_setr]; show 3 < 1000; decide, rfl, ?_⟩
  rw [fldT_setr, fldT_setg]
  refine s_ret ev_c fun H4 e4 => ?_
  have hp4 : H4 p = some (.ins C dx (fldT r2 b (x.2 : Int))) := e4 _ _ upd_same
  have hb4 : H4 b = some (.lst (ts'.map V.ref)) := e4 _ _ (by rw [upd_ne npb.symm, upd_ne npb.symm]; exact upd_same)
  have ex : Ex (Fs.msk H [p, b]) H4 := fun a o h => by
    obtain ⟨ha, hn⟩ := msk_of h
    have h1 : a ≠ p := fun z => hn (by rw [z]; exact List.mem_cons_self)
    have h2 : a ≠ b := fun z => hn (by rw [z]; exact List.mem_cons_of_mem _ List.mem_cons_self)
    refine e4 _ _ ?_
    rw [upd_ne h1, upd_ne h1, upd_ne h2]
    exact e12 _ _ ha
  have exm := ex_mm ex (two_in (ms := ms))
  refine q1 H4 ex ⟨⟨dx, r2, hp4, hr2.mono exm⟩, ⟨ts', hb4, hl', fun i a y h2 h3 => ?_⟩, A0.kn3 (by rw [hp4]; intro z; cases z) (by rw [hb4]; intro z; cases z) ex⟩
  obtain ⟨r3, h4, h5⟩ := hpast i a y (by rw [List.getElem?_append_left (List.getElem?_eq_some_iff.mp h2).1]; exact h2) (by rw [List.getElem?_append_left (List.getElem?_eq_some_iff.mp h3).1]; exact h3)
  exact ⟨r3, exm _ _ h4, h5.mono exm⟩
end
/-! ### Table_in_heaps -/
abbrev s_Table_in_heaps : Stmt := inClass (topS 31) 8
theorem sc_Table_in_heaps : FnScope ["self"] ["self"] (defScope s_Table_in_heaps) := ⟨rfl, rfl, rfl, by decide +kernel, rfl, by decide +kernel, by decide +kernel⟩
def sp_Table_in_heaps (K : PySem.W.Frag) (C : Addr) (cl : Nat → Addr) : Sp := sp1X fun x H Q E => ∃ (ms : List Addr) (p b : Addr) (rows : List (List Int)) (g : Nat) (past : Past), x = .ref p ∧ TabAt C ms H p b rows g past ∧ WfT rows g ∧
  (dueQ false rows g = 0 → ∀ pd hp sp hps H2, DNew H H2 pd hp sp hps (heapsQ false rows g) (payQ false rows g) → Ex H H2 → Q (.ref pd) H2) ∧ (dueQ false rows g ≠ 0 → ∀ H', Ex H H' → E (.ref (cl (dueQ false rows g))) none H')
section
variable {P : Program} {w : World} {K : PySem.W.Frag} {mg : Str → Option Value} {base : Heap} {cl : Nat → Addr} {C : Addr}
theorem ok_Table_in_heaps (D : DnM K C "in_heaps" "Table.in_heaps" s_Table_in_heaps ["self"]) (B : Bt mg) (T : TabC K mg C) (h_in_heaps_heaps : Ok P w K mg base (L2.CX P w) 5 "in_heaps_heaps" ["bids"] (sp_in_heaps K cl)) : OkM P w K mg base (L2.CX P w) 6 C "in_heaps" ["self"] (sp_Table_in_heaps K C cl) := by
  refine okMX_of D sc_Table_in_heaps (fun vs H Q E h => by obtain ⟨_, rfl, _⟩ := h; rfl) (fun f cdv A outer s H vs Q E hr h => ⟨_, (pss_one (ps_ret (pe_okS h_in_heaps_heaps hr (by rfl) (fun σ => passAt (takes_of rfl rfl rfl rfl) σ) (pa_cons (pe_fld (pv 0) rfl) pa_nil)))), ?_⟩)
  obtain ⟨x, rfl, ms, p, b, rows, g, past, rfl, A, W, q, qe⟩ := h
  obtain ⟨⟨dx, r, hp, hr⟩, _⟩ := id A
  have hd := dueB_q W
  refine g_ret (g_callS (ea_cons (ev_fld (ev_var rfl) hp T.cl T.nr (fldT_r r b g)) ea_nil) fun H1 e1 => ⟨_, rfl, r, iv rows, rfl, ((hr.mono msk_le).mono e1).lv, any_flat rows, fun h0 pd hp sp hps H2 D e2 => ?_, fun h0 H2 e2 => ?_⟩)
  · have hq : dueQ false rows g = 0 := hd ▸ h0
    have n := dueQ_ne hq
    rw [hsOf_vi, (dueB_wf W n).2] at D
    exact q hq pd hp sp hps H2 (D.back e1) (e1.trans e2)
  · rw [hd] at h0 ⊢
    exact qe h0 H2 (e1.trans e2)
end
/-! ### Table_in_rooms -/
abbrev s_Table_in_rooms : Stmt := inClass (topS 31) 9
theorem sc_Table_in_rooms : FnScope ["self"] ["self"] (defScope s_Table_in_rooms) := ⟨rfl, rfl, rfl, by decide +kernel, rfl, by decide +kernel, by decide +kernel⟩
def sp_Table_in_rooms (K : PySem.W.Frag) (C : Addr) (cl : Nat → Addr) : Sp := sp1X fun x H Q E => ∃ (ms : List Addr) (p b : Addr) (rows : List (List Int)) (g : Nat) (past : Past), x = .ref p ∧ TabAt C ms H p b rows g past ∧ WfT rows g ∧
  (dueQ true rows g = 0 → ∀ pd hp sp hps H2, DNew H H2 pd hp sp hps (heapsQ true rows g) (payQ true rows g) → Ex H H2 → Q (.ref pd) H2) ∧ (dueQ true rows g ≠ 0 → ∀ H', Ex H H' → E (.ref (cl (dueQ true rows g))) none H')
section
variable {P : Program} {w : World} {K : PySem.W.Frag} {mg : Str → Option Value} {base : Heap} {cl : Nat → Addr} {C : Addr}
theorem ok_Table_in_rooms (D : DnM K C "in_rooms" "Table.in_rooms" s_Table_in_rooms ["self"]) (B : Bt mg) (T : TabC K mg C) (h_in_rooms_rooms : Ok P w K mg base (L2.CX P w) 5 "in_rooms_rooms" ["bids"] (sp_in_rooms K cl)) : OkM P w K mg base (L2.CX P w) 6 C "in_rooms" ["self"] (sp_Table_in_rooms K C cl) := by
  refine okMX_of D sc_Table_in_rooms (fun vs H Q E h => by obtain ⟨_, rfl, _⟩ := h; rfl) (fun f cdv A outer s H vs Q E hr h => ⟨_, (pss_one (ps_ret (pe_okS h_in_rooms_rooms hr (by rfl) (fun σ => passAt (takes_of rfl rfl rfl rfl) σ) (pa_cons (pe_fld (pv 0) rfl) pa_nil)))), ?_⟩)
  obtain ⟨x, rfl, ms, p, b, rows, g, past, rfl, A, W, q, qe⟩ := h
  obtain ⟨⟨dx, r, hp, hr⟩, _⟩ := id A
  have hd := dueR_wf W
  refine g_ret (g_callS (ea_cons (ev_fld (ev_var rfl) hp T.cl T.nr (fldT_r r b g)) ea_nil) fun H1 e1 => ⟨_, rfl, r, iv rows, rfl, ((hr.mono msk_le).mono e1).lv, any_flat rows, fun _ => (hr.mono msk_le).mono e1, fun h0 pd hp sp hps H2 D e2 => ?_, fun h0 H2 e2 => ?_⟩)
  · have hq : dueQ true rows g = 0 := hd ▸ h0
    have n := dueQ_ne hq
    rw [hsOf_vi, (dueB_wf W n).2] at D
    exact q hq pd hp sp hps H2 (D.back e1) (e1.trans e2)
  · rw [hd] at h0 ⊢
    exact qe h0 H2 (e1.trans e2)
end
/-! ### _law_whole -/
abbrev s__law_whole : Stmt := topS 33
theorem sc__law_whole : FnScope ["_law_found"] ["_law_found"] (defScope s__law_whole) := ⟨rfl, rfl, rfl, by decide +kernel, rfl, by decide +kernel, by decide +kernel⟩
def sp__law_whole (K : PySem.W.Frag) : Sp := spWhole
section
variable {P : Program} {w : World} {K : PySem.W.Frag} {mg : Str → Option Value} {base : Heap} {cl : Nat → Addr} {C : Addr}
theorem ok__law_whole (D : DnX K mg "_law_whole" s__law_whole ["_law_found"]) (B : Bt mg) : Ok P w K mg base CX0 1 "_law_whole" ["_law_found"] (sp__law_whole K) := by
  refine ok_of D sc__law_whole (fun vs H Q E h => by obtain ⟨_, rfl, _⟩ := h; rfl) (fun f cdv A outer s H vs Q E hr h => ⟨_, (pss_one (ps_ret (pe_and (pe_callB (isiK (K := K)) (by rfl) B.isinstance (by decide +kernel) (pa_cons (pv 0) (pa_cons (pe_bltn (v := .ty "int") (by rfl) B.int (by decide +kernel) rfl) pa_nil))) (pe_one (pe_not (pe_callB (isiK (K := K)) (by rfl) B.isinstance (by decide +kernel) (pa_cons (pv 0) (pa_cons (pe_bltn (v := .ty "bool") (by rfl) B.bool (by decide +kernel) rfl) pa_nil)))))))), ?_⟩)
  obtain ⟨x, rfl, ha, q⟩ := h
  exact rd_whole ha q fun Q q => ⟨x, rfl, q⟩
end
/-! ### _law_cell -/
abbrev s__law_cell : Stmt := topS 34
theorem sc__law_cell : FnScope ["_law_script", "_law_k"] ["_law_script", "_law_k"] (defScope s__law_cell) := ⟨rfl, rfl, rfl, by decide +kernel, rfl, by decide +kernel, by decide +kernel⟩
/-- a cell of the script -/
def cellM (ns : List Int) (k : Int) : Int :=
  if k < ns.length then ns.getD k.toNat 0 else if ns.length = 0 then k * 7919 else (ns.getD (k * 7 % ns.length).toNat 0 * 48271 + k * 7919) % 2147483647
def sp__law_cell (K : PySem.W.Frag) : Sp := sp2 fun x y H Q => ∃ (a : Addr) (ns : List Int) (k : Int), x = .ref a ∧ y = .int k ∧ SqL K H a (ns.map V.int) ∧ 0 ≤ k ∧ Q (.int (cellM ns k)) H
theorem ev_cell {K : PySem.W.Frag} {σ : L2.St} {H : Hp} {a : Addr} {ns : List Int} {tk : TE} {k : Int} (h0 : σ[0]? = some (some (.ref a))) (hS : SqL K H a (ns.map V.int)) (hk : Ev tk σ H (.int k)) (k0 : 0 ≤ k) :
    Ev (tCall (sp__law_cell K) [] E0 (tCons (tVar 0) (tCons tk tNil))) σ H (.int (cellM ns k)) :=
  ev_call (ea_cons (ev_var h0) (ea_cons hk ea_nil)) fun H1 e Q q E => ⟨_, _, rfl, a, ns, k, rfl, rfl, ex_l e hS, k0, q H1 (Ex.refl H1)⟩
section
variable {P : Program} {w : World} {K : PySem.W.Frag} {mg : Str → Option Value} {base : Heap} {cl : Nat → Addr} {C : Addr}
theorem ok__law_cell (D : DnX K mg "_law_cell" s__law_cell ["_law_script", "_law_k"]) (B : Bt mg) : Ok P w K mg base CX0 1 "_law_cell" ["_law_script", "_law_k"] (sp__law_cell K) := by
  refine ok_of D sc__law_cell (fun vs H Q E h => by obtain ⟨_, _, rfl, _⟩ := h; rfl) (fun f cdv A outer s H vs Q E hr h => ⟨_, (pss_cons (ps_if (pt_cmpR op_lt (pv 1) (pe_callB (lenK (K := K)) (by rfl) B.len PySem.boot_len (pa_cons (pv 0) pa_nil)) (nomark _))
        (pss_one (ps_ret (pe_ix (ixL (K := K)) (pv 0) (pv 1) (fun _ _ => rfl))))
        pss_nil)
      (pss_cons (ps_if (pt_cmpR op_eq (pe_callB (lenK (K := K)) (by rfl) B.len PySem.boot_len (pa_cons (pv 0) pa_nil)) pe_int (nomark _))
        (pss_one (ps_ret (pe_op op_mul (pv 1) pe_int)))
        pss_nil)
      (pss_one (ps_ret (pe_op op_mod (pe_op op_add (pe_op op_mul (pe_ix (ixL (K := K)) (pv 0) (pe_op op_mod (pe_op op_mul (pv 1) pe_int) (pe_callB (lenK (K := K)) (by rfl) B.len PySem.boot_len (pa_cons (pv 0) pa_nil))) (fun _ _ => rfl)) pe_int) (pe_op op_mul (pv 1) pe_int)) pe_int))))), ?_⟩)
  obtain ⟨x, y, rfl, a, ns, k, rfl, rfl, hS, h0, q⟩ := h
  have el : ((ns.map V.int).length : Int) = ns.length := by rw [List.length_map]
  refine ⟨_, rfl, _, rfl, a, _, rfl, .inl hS, _, _, rfl, rfl, _, rfl, ite2 (fun h => ?_) (fun h => ?_)⟩
  · have h1 : k < ns.length := by
      have := of_decide_eq_true h
      omega
    refine ⟨_, rfl, _, rfl, a, _, _, _, rfl, rfl, hS, at_ints h0 h1, ?_⟩
    rw [cellM, if_pos h1] at q
    exact q
  · have h1 : ¬ k < ns.length := fun z => h (decide_eq_true (by omega))
    refine ⟨_, rfl, a, _, rfl, .inl hS, rfl, _, rfl, ite2 (fun h => ?_) (fun h => ?_)⟩
    · have h2 : ns.length = 0 := by
        have := V.int.inj (of_decide_eq_true h)
        omega
      refine ⟨_, rfl, _, _, rfl, rfl, mulR ⟨by decide, by decide⟩, ?_⟩
      rw [cellM, if_neg h1, if_pos h2] at q
      exact q
    · have h2 : ns.length ≠ 0 := fun z => h (decide_eq_true (by rw [el, z]; rfl))
      have hp : (0 : Int) < ns.length := by omega
      have g0 : 0 ≤ k * 7 % (ns.length : Int) := Int.emod_nonneg _ (by omega)
      have g1 : k * 7 % (ns.length : Int) < ns.length := Int.emod_lt_of_pos _ hp
      refine ⟨_, rfl, _, rfl, _, _, rfl, rfl, mulR ⟨by decide, by decide⟩, _, rfl, a, _, rfl, .inl hS, _, _, rfl, rfl, (by show (0 : Int) < ((ns.map V.int).length : Int); omega), a, _, _, _, rfl, rfl, hS, (by rw [el]; exact at_ints g0 g1), ?_⟩
      refine ⟨_, _, rfl, rfl, mulR ⟨by decide, by decide⟩, _, rfl, _, _, rfl, rfl, mulR ⟨by decide, by decide⟩, _, _, rfl, rfl, _, _, rfl, rfl, (by show (0 : Int) < 2147483647; decide), ?_⟩
      rw [cellM, if_neg h1, if_neg h2] at q
      exact q
end
/-! ### _law_draws -/
abbrev s__law_draws : Stmt := topS 35
theorem sc__law_draws : FnScope ["_law_cell_here", "_law_many", "_law_found", "_law_k"] ["_law_cell_here", "_law_many"] (defScope s__law_draws) := ⟨rfl, rfl, rfl, by decide +kernel, rfl, by decide +kernel, by decide +kernel⟩
def nextM (c : Int) : Int := (c * 48271 + 12345) % 2147483647
/-- the cell behind so many turns, and what was drawn -/
def drawnM (c : Int) : Nat → Int
  | 0 => c
  | n + 1 => nextM (drawnM c n)
def drawsM (c : Int) (n : Nat) : List Int := (List.range n).map fun i => drawnM c (i + 1) / 16
theorem drawsM_len (c : Int) (n : Nat) : (drawsM c n).length = n := by simp [drawsM]
theorem drawsM_nn (c : Int) (n : Nat) : ∀ x ∈ drawsM c n, 0 ≤ x := by
  intro x hx
  obtain ⟨i, _, rfl⟩ := List.mem_map.mp hx
  have h : 0 ≤ drawnM c (i + 1) := by
    show 0 ≤ nextM (drawnM c i)
    exact Int.emod_nonneg _ (by decide)
  omega
theorem drawsM_succ (c : Int) (n : Nat) : drawsM c (n + 1) = drawsM c n ++ [drawnM c (n + 1) / 16] := by
  simp [drawsM, List.range_succ]
def sp__law_draws (K : PySem.W.Frag) : Sp := sp2 fun x y H Q => ∃ (c : Int) (n : Nat), x = .int c ∧ y = .int n ∧ n ≤ 4000 ∧ RetL ((drawsM c n).map V.int) H Q
section
variable {P : Program} {w : World} {K : PySem.W.Frag} {mg : Str → Option Value} {base : Heap} {cl : Nat → Addr} {C : Addr}
theorem ok__law_draws (D : DnX K mg "_law_draws" s__law_draws ["_law_cell_here", "_law_many"]) (B : Bt mg) : Ok P w K mg base CX0 1 "_law_draws" ["_law_cell_here", "_law_many"] (sp__law_draws K) := by
  refine ok_of D sc__law_draws (fun vs H Q E h => by obtain ⟨_, _, rfl, _⟩ := h; rfl) (fun f cdv A outer s H vs Q E hr h => ⟨_, (pss_cons (ps_set (i := 2) sc__law_draws.nd rfl (Or.inl rfl) (pe_lst pa_nil))
      (pss_cons (ps_for PassesOwn.never rfl (pi_range1 (by rfl) B.range (pa_cons (pv 1) pa_nil)) (pg_name (i := 3) sc__law_draws.nd rfl (Or.inl rfl))
        (pss_cons (ps_set (i := 0) sc__law_draws.nd rfl (Or.inl rfl) (pe_op op_mod (pe_op op_add (pe_op op_mul (pv 0) pe_int) pe_int) pe_int))
        (pss_one (ps_expr (pe_bm PySem.F.plainAttrs_list PySem.F.slot_list_append PySem.F.type_list_append mt_append (pv 2) (pa_cons (pe_op op_fdiv (pv 0) pe_int) pa_nil))))))
      (pss_one (ps_ret (pv 2))))), ?_⟩)
  obtain ⟨x, y, rfl, c, n, rfl, rfl, hn, q⟩ := h
  refine q_asgL (el_lst ea_nil (by decide)) fun l H1 hl e1 h1 => ?_
  refine q_forR1 (n := n) (ea_cons (ev_var rfl) ea_nil) ⟨by omega, by omega⟩ (fun i σ H' => ∃ z, σ = [some (.int (drawnM c i)), some (.int n), some (.ref l), z] ∧ Ex H H' ∧ H' l = some (.lst ((drawsM c i).map V.int))) (fun H2 e2 => ⟨none, rfl, e1.trans e2, e2 _ _ h1⟩) ?_ ?_
  · rintro i σ' H' hi ⟨z, rfl, e, hl'⟩
    refine q_asg (v := .int (drawnM c (i + 1))) (ev_op (ev_op (ev_op (ev_var rfl) ev_c (rv_I (mulR ⟨by decide, by decide⟩))) ev_c rv_I0) ev_c (rv_I (by show (0 : Int) < 2147483647; decide))) fun H2 e2 => ?_
    refine s_app (v := .int (drawnM c (i + 1) / 16)) (e2 _ _ hl') (ev_var rfl) (ev_op (ev_var rfl) ev_c (rv_I ⟨by decide, by decide⟩)) (by rw [List.length_map, drawsM_len]; omega) fun H3 e3 => ?_
    refine ⟨some (.int i), rfl, Ex.mut ((e.trans e2).trans e3) hl, ?_⟩
    rw [upd_same, drawsM_succ, List.map_append]
    rfl
  · rintro σ' H' ⟨z, rfl, e, hl'⟩
    exact s_ret (ev_var rfl) fun H2 e2 => q l H2 hl (e.trans e2) (e2 _ _ (by simpa using hl'))
end
/-! ### _law_bid -/
abbrev s__law_bid : Stmt := topS 36
theorem sc__law_bid : FnScope ["_law_cell_here", "_law_kind"] ["_law_cell_here", "_law_kind"] (defScope s__law_bid) := ⟨rfl, rfl, rfl, by decide +kernel, rfl, by decide +kernel, by decide +kernel⟩
def bidM (c k : Int) : Int := if k = 0 then c % 3 else if k = 1 then c % 100 else if k = 2 then c % 1000000000001 else 1000000000000 - c % 3 * (c / 3 % 2 * 499999999999 + 1)
theorem bidM_nn (c k : Int) : 0 ≤ bidM c k ∧ bidM c k ≤ 1000000000000 := by
  unfold bidM
  have h3 : c % 3 = 0 ∨ c % 3 = 1 ∨ c % 3 = 2 := by omega
  split
  · omega
  · split
    · omega
    · split
      · omega
      · rcases h3 with h | h | h <;> rw [h] <;> omega
def sp__law_bid (K : PySem.W.Frag) : Sp := sp2 fun x y H Q => ∃ (c k : Int), x = .int c ∧ y = .int k ∧ Q (.int (bidM c k)) H
section
variable {P : Program} {w : World} {K : PySem.W.Frag} {mg : Str → Option Value} {base : Heap} {cl : Nat → Addr} {C : Addr}
theorem ok__law_bid (D : DnX K mg "_law_bid" s__law_bid ["_law_cell_here", "_law_kind"]) (B : Bt mg) : Ok P w K mg base CX0 1 "_law_bid" ["_law_cell_here", "_law_kind"] (sp__law_bid K) := by
  refine ok_of D sc__law_bid (fun vs H Q E h => by obtain ⟨_, _, rfl, _⟩ := h; rfl) (fun f cdv A outer s H vs Q E hr h => ⟨_, (pss_cons (ps_if (pt_cmpR op_eq (pv 1) pe_int (nomark _))
        (pss_one (ps_ret (pe_op op_mod (pv 0) pe_int)))
        pss_nil)
      (pss_cons (ps_if (pt_cmpR op_eq (pv 1) pe_int (nomark _))
        (pss_one (ps_ret (pe_op op_mod (pv 0) pe_int)))
        pss_nil)
      (pss_cons (ps_if (pt_cmpR op_eq (pv 1) pe_int (nomark _))
        (pss_one (ps_ret (pe_op op_mod (pv 0) pe_int)))
        pss_nil)
      (pss_one (ps_ret (pe_op op_sub pe_int (pe_op op_mul (pe_op op_mod (pv 0) pe_int) (pe_op op_add (pe_op op_mul (pe_op op_mod (pe_op op_fdiv (pv 0) pe_int) pe_int) pe_int) pe_int)))))))), ?_⟩)
  obtain ⟨x, y, rfl, c, k, rfl, rfl, q⟩ := h
  refine ⟨_, rfl, rfl, _, rfl, ite2 (fun h => ?_) (fun h => ?_)⟩
  · have h1 : k = 0 := V.int.inj (of_decide_eq_true h)
    refine ⟨_, rfl, _, _, rfl, rfl, (by show (0 : Int) < 3; decide), ?_⟩
    rw [bidM, if_pos h1] at q
    exact q
  · have h1 : ¬ k = 0 := fun z => h (decide_eq_true (by rw [z]))
    refine ⟨_, rfl, rfl, _, rfl, ite2 (fun h => ?_) (fun h => ?_)⟩
    · have h2 : k = 1 := V.int.inj (of_decide_eq_true h)
      refine ⟨_, rfl, _, _, rfl, rfl, (by show (0 : Int) < 100; decide), ?_⟩
      rw [bidM, if_neg h1, if_pos h2] at q
      exact q
    · have h2 : ¬ k = 1 := fun z => h (decide_eq_true (by rw [z]))
      refine ⟨_, rfl, rfl, _, rfl, ite2 (fun h => ?_) (fun h => ?_)⟩
      · have h3 : k = 2 := V.int.inj (of_decide_eq_true h)
        refine ⟨_, rfl, _, _, rfl, rfl, (by show (0 : Int) < 1000000000001; decide), ?_⟩
        rw [bidM, if_neg h1, if_neg h2, if_pos h3] at q
        exact q
      · have h3 : ¬ k = 2 := fun z => h (decide_eq_true (by rw [z]))
        have b3 : -(2 ^ 64) < c % 3 ∧ c % 3 < 2 ^ 64 := by omega
        refine ⟨_, rfl, _, _, rfl, rfl, (by show (0 : Int) < 3; decide), _, rfl, _, _, rfl, rfl, ⟨by decide, by decide⟩, _, _, rfl, rfl, (by show (0 : Int) < 2; decide), _, _, rfl, rfl, mulR ⟨by decide, by decide⟩, _, _, rfl, rfl, _, _, rfl, rfl, mulL b3, _, _, rfl, rfl, ?_⟩
        rw [bidM, if_neg h1, if_neg h2, if_neg h3] at q
        exact q
end
/-! ### _law_worth -/
abbrev s__law_worth : Stmt := topS 37
theorem sc__law_worth : FnScope ["_law_row", "_law_heap", "_law_total", "_law_good"] ["_law_row", "_law_heap"] (defScope s__law_worth) := ⟨rfl, rfl, rfl, by decide +kernel, rfl, by decide +kernel, by decide +kernel⟩
def sp__law_worth (K : PySem.W.Frag) : Sp := sp2 fun x y H Q => ∃ (a b : Addr) (row heap : List Int), x = .ref a ∧ y = .ref b ∧ SqL K H a (row.map V.int) ∧ SqL K H b (heap.map V.int) ∧ Inside row.length heap ∧ RetV (.int (worthM row heap)) H Q
/-- people * worth(bids[i], heaps[j]) - sums[j] -/
theorem ev_gain {K : PySem.W.Frag} {σ : L2.St} {H : Hp} {ta tb tc tn ti tj : TE} {a b c : Addr} {rows hs : List (List Int)} {ss : List Int} {m i j : Nat} (hA : LL K H a rows) (hb : Bids rows m) (hB : LL K H b hs) (hC : SqL K H c (ss.map V.int)) (hf : Fits rows m hs ss)
    (ha : Ev ta σ H (.ref a)) (hbb : Ev tb σ H (.ref b)) (hc : Ev tc σ H (.ref c)) (hn : Ev tn σ H (.int (rows.length : Int))) (hi : Ev ti σ H (.int (i : Int))) (hj : Ev tj σ H (.int (j : Int))) (li : i < rows.length) (lj : j < rows.length) :
    Ev (tOp (rI0 fun i j => .int (i - j)) (tOp (rI CMul fun i j => .int (i * j)) tn (tCall (sp__law_worth K) [] E0 (tCons (tOp (rIxL K) ta ti) (tCons (tOp (rIxL K) tb tj) tNil)))) (tOp (rIxL K) tc tj)) σ H (.int (gainM rows hs ss i j)) := by
  obtain ⟨p, hp1, hp2⟩ := ev_row (σ := σ) (ta := ta) (tb := ti) hA li ha hi
  obtain ⟨r, hr1, hr2⟩ := ev_row (σ := σ) (ta := tb) (tb := tj) hB (by rw [hf.hl]; exact lj) hbb hj
  have l9 := hb.l9
  have sl := hf.sl
  refine ev_is (ev_op (ev_op hn (ev_call (ea_cons hp1 (ea_cons hr1 ea_nil)) fun H16 e16 Q q E => ⟨_, _, rfl, p, r, _, _, rfl, rfl, ex_l e16 hp2, ex_l e16 hr2, by rw [hb.at_ li]; exact hf.at_ lj, fun H17 e17 => q H17 e17⟩) (rv_I (mulL ⟨by omega, by omega⟩))) (ev_op hc hj (rv_ixL hC (at_ints (i := (j : Int)) (by omega) (by omega)))) rv_I0) ?_
  unfold gainM
  rw [Int.mul_comm]
  rfl
section
variable {P : Program} {w : World} {K : PySem.W.Frag} {mg : Str → Option Value} {base : Heap} {cl : Nat → Addr} {C : Addr}
theorem ok__law_worth (D : DnX K mg "_law_worth" s__law_worth ["_law_row", "_law_heap"]) (B : Bt mg) : Ok P w K mg base CX0 1 "_law_worth" ["_law_row", "_law_heap"] (sp__law_worth K) := by
  refine ok_of D sc__law_worth (fun vs H Q E h => by obtain ⟨_, _, rfl, _⟩ := h; rfl) (fun f cdv A outer s H vs Q E hr h => ⟨_, (pss_cons (ps_set (i := 2) sc__law_worth.nd rfl (Or.inl rfl) pe_int)
      (pss_cons (ps_for PassesOwn.never rfl (pi_listK (K := K) (pv 1)) (pg_name (i := 3) sc__law_worth.nd rfl (Or.inl rfl))
        (pss_one (ps_set (i := 2) sc__law_worth.nd rfl (Or.inl rfl) (pe_op op_add (pv 2) (pe_ix (ixL (K := K)) (pv 0) (pv 3) (fun _ _ => rfl))))))
      (pss_one (ps_ret (pv 2))))), ?_⟩)
  obtain ⟨x, y, rfl, a, b, row, heap, rfl, rfl, hA, hB, hw, q⟩ := h
  refine q_asg ev_c fun H1 e1 => ?_
  refine q_forLn (ev_var rfl) (ex_l e1 hB) (fun i σ H' => ∃ z, σ = [some (.ref a), some (.ref b), some (.int (worthM row (heap.take i))), z] ∧ Ex H H') (fun H2 e2 => ⟨none, rfl, e1.trans e2⟩) (fun i σ' H' _ h => by obtain ⟨z, _, e⟩ := h; exact ex_l e hB) ?_ ?_
  · rintro i x σ' H' hi ⟨z, rfl, e⟩
    obtain ⟨hj, rfl⟩ := get_ints hi
    obtain ⟨g0, g1⟩ := hw _ (List.getElem_mem hj)
    refine s_asg (v := .int (worthM row (heap.take (i + 1)))) ?_ fun H2 e2 => ⟨some (.int heap[i]), rfl, e.trans e2⟩
    rw [worthM_take hj]
    exact ev_op (ev_var rfl) (ev_op (ev_var rfl) (ev_var rfl) (rv_ixL (ex_l e hA) (at_ints g0 g1))) rv_I0
  · rintro σ' H' ⟨z, rfl, e⟩
    refine s_ret (ev_var rfl) fun H2 e2 => ?_
    have et : heap.take (heap.map V.int).length = heap := by rw [List.length_map, List.take_length]
    rw [et]
    exact q H2 (e.trans e2)
end
/-! ### _law_numbers -/
abbrev s__law_numbers : Stmt := topS 38
theorem sc__law_numbers : FnScope ["_law_found", "_law_many", "_law_one"] ["_law_found", "_law_many"] (defScope s__law_numbers) := ⟨rfl, rfl, rfl, by decide +kernel, rfl, by decide +kernel, by decide +kernel⟩
def sp__law_numbers (K : PySem.W.Frag) : Sp := sp2 fun x y H Q => ∃ (a : Addr) (ns : List Int) (m : Int), x = .ref a ∧ y = .int m ∧ H a = some (.lst (ns.map V.int)) ∧ RetV (.bl (decide ((ns.length : Int) = m))) H Q
section
variable {P : Program} {w : World} {K : PySem.W.Frag} {mg : Str → Option Value} {base : Heap} {cl : Nat → Addr} {C : Addr}
theorem ok__law_numbers (D : DnX K mg "_law_numbers" s__law_numbers ["_law_found", "_law_many"]) (B : Bt mg) (h__law_whole : Ok P w K mg base CX0 1 "_law_whole" ["_law_found"] (sp__law_whole K)) : Ok P w K mg base CX0 2 "_law_numbers" ["_law_found", "_law_many"] (sp__law_numbers K) := by
  refine ok_of D sc__law_numbers (fun vs H Q E h => by obtain ⟨_, _, rfl, _⟩ := h; rfl) (fun f cdv A outer s H vs Q E hr h => ⟨_, (pss_cons (ps_if (PW.pt (pw_or (pt_not (pt_val (pe_callB (isiK (K := K)) (by rfl) B.isinstance (by decide +kernel) (pa_cons (pv 0) (pa_cons (pe_bltn (v := .ty "list") (by rfl) B.list (by decide +kernel) rfl) pa_nil))))) (pw_or1 (pt_cmpR op_ne (pe_callB (lenK (K := K)) (by rfl) B.len PySem.boot_len (pa_cons (pv 0) pa_nil)) (pv 1) (nomark _)))))
        (pss_one (ps_ret pe_bl))
        pss_nil)
      (pss_cons (ps_for PassesOwn.never rfl (pi_listK (K := K) (pv 0)) (pg_name (i := 2) sc__law_numbers.nd rfl (Or.inl rfl))
        (pss_one (ps_if (pt_not (pt_val (pe_ok h__law_whole hr (by rfl) pass0 (pa_cons (pv 2) pa_nil))))
          (pss_one (ps_ret pe_bl))
          pss_nil)))
      (pss_one (ps_ret pe_bl)))), ?_⟩)
  obtain ⟨x, y, rfl, a, ns, m, rfl, rfl, hA, q⟩ := h
  refine q_when (et_or (a := false) (et_not (et_B (ev_isList (ev_var rfl) hA))) fun _ => et_test (ev_op (ev_lenI (sq_of hA) (ev_var rfl)) (ev_var rfl) (rv_ne rfl))) (fun hb H1 e1 => ?_) fun hb H1 e1 => ?_
  · refine s_ret ev_c fun H2 e2 => ?_
    have e : decide ((ns.length : Int) = m) = false := decide_eq_false fun z => by
      rw [z, decide_eq_true rfl] at hb
      cases hb
    rw [e] at q
    exact q H2 (e1.trans e2)
  · have e : (ns.length : Int) = m := by
      by_cases e : (ns.length : Int) = m
      · exact e
      · rw [decide_eq_false fun z => e (V.int.inj z)] at hb
        cases hb
    rw [decide_eq_true e] at q
    refine q_forLn (ev_var rfl) (sq_of (e1 _ _ hA)) (fun i σ H' => ∃ z, σ = [some (.ref a), some (.int m), z] ∧ Ex H H') (fun H2 e2 => ⟨none, rfl, e1.trans e2⟩) (fun i σ' H' _ h => by obtain ⟨z, _, e⟩ := h; exact sq_of (e _ _ hA)) ?_ ?_
    · rintro i x σ' H' hi ⟨z, rfl, e⟩
      obtain ⟨hj, rfl⟩ := get_ints hi
      exact s_when (b := false) (et_not (et_B (ev_call (z := .bl true) (ea_cons (ev_var rfl) ea_nil) fun H2 e2 Q q E => ⟨_, rfl, .int ns[i], q H2 (Ex.refl H2)⟩))) (fun h => nomatch h) fun _ H2 e2 => ⟨_, rfl, e.trans e2⟩
    · rintro σ' H' ⟨z, rfl, e⟩
      exact s_ret ev_c fun H2 e2 => q H2 (e.trans e2)
end
/-! ### _law_heaps -/
abbrev s__law_heaps : Stmt := topS 39
theorem sc__law_heaps : FnScope ["_law_found", "_law_people", "_law_goods", "_law_seen", "_law_heap", "_law_good"] ["_law_found", "_law_people", "_law_goods"] (defScope s__law_heaps) := ⟨rfl, rfl, rfl, by decide +kernel, rfl, by decide +kernel, by decide +kernel⟩
def sp__law_heaps (K : PySem.W.Frag) : Sp := sp3 fun x y z H Q => ∃ (a : Addr) (yss : List (List V)) (n : Int) (g : Nat), x = .ref a ∧ y = .int n ∧ z = .int g ∧ TV H a yss ∧ (∀ y ∈ yss.flatten, Any H y) ∧ g ≤ 1000 ∧ RetV (.bl (heapsB yss n g)) H Q
section
variable {P : Program} {w : World} {K : PySem.W.Frag} {mg : Str → Option Value} {base : Heap} {cl : Nat → Addr} {C : Addr}
theorem ok__law_heaps (D : DnX K mg "_law_heaps" s__law_heaps ["_law_found", "_law_people", "_law_goods"]) (B : Bt mg) (h__law_whole : Ok P w K mg base CX0 1 "_law_whole" ["_law_found"] (sp__law_whole K)) : Ok P w K mg base CX0 2 "_law_heaps" ["_law_found", "_law_people", "_law_goods"] (sp__law_heaps K) := by
  refine ok_of D sc__law_heaps (fun vs H Q E h => by obtain ⟨_, _, _, rfl, _⟩ := h; rfl) (fun f cdv A outer s H vs Q E hr h => ⟨_, (pss_cons (ps_if (PW.pt (pw_or (pt_not (pt_val (pe_callB (isiK (K := K)) (by rfl) B.isinstance (by decide +kernel) (pa_cons (pv 0) (pa_cons (pe_bltn (v := .ty "list") (by rfl) B.list (by decide +kernel) rfl) pa_nil))))) (pw_or1 (pt_cmpR op_ne (pe_callB (lenK (K := K)) (by rfl) B.len PySem.boot_len (pa_cons (pv 0) pa_nil)) (pv 1) (nomark _)))))
        (pss_one (ps_ret pe_bl))
        pss_nil)
      (pss_cons (ps_set (i := 3) sc__law_heaps.nd rfl (Or.inl rfl) (pe_op op_rep (pe_lst (pa_cons pe_int pa_nil)) (pv 2)))
      (pss_cons (ps_for PassesOwn.never rfl (pi_listK (K := K) (pv 0)) (pg_name (i := 4) sc__law_heaps.nd rfl (Or.inl rfl))
        (pss_cons (ps_if (pt_not (pt_val (pe_callB (isiK (K := K)) (by rfl) B.isinstance (by decide +kernel) (pa_cons (pv 4) (pa_cons (pe_bltn (v := .ty "list") (by rfl) B.list (by decide +kernel) rfl) pa_nil)))))
          (pss_one (ps_ret pe_bl))
          pss_nil)
        (pss_one (ps_for PassesOwn.never rfl (pi_listK (K := K) (pv 4)) (pg_name (i := 5) sc__law_heaps.nd rfl (Or.inl rfl))
          (pss_cons (ps_if (PW.pt (pw_or (pt_not (pt_val (pe_ok h__law_whole hr (by rfl) pass0 (pa_cons (pv 5) pa_nil)))) (pw_or (pt_cmpR op_lt (pv 5) pe_int (nomark _)) (pw_or1 (pt_cmpR op_ge (pv 5) (pv 2) (nomark _))))))
            (pss_one (ps_ret pe_bl))
            pss_nil)
          (pss_one (ps_asg (pe_op op_add (pe_ix (ixL (K := K)) (pv 3) (pv 5) (fun _ _ => rfl)) pe_int) (pg_sub (pv 3) (pv 5) set_list))))))))
      (pss_one (ps_ret (pe_cmpR (eqK (K := K) hr.units) (pv 3) (pe_op op_rep (pe_lst (pa_cons pe_int pa_nil)) (pv 2)) (nomark _))))))), ?_⟩)
  obtain ⟨x, y, z, rfl, a, yss, n, g, rfl, rfl, rfl, hT, hy, hg, q⟩ := h
  obtain ⟨ps, h1, h2, h3⟩ := hT
  refine q_when (et_or (a := false) (et_not (et_B (b := true) (ev_isList (ev_var rfl) h1))) fun _ => et_test (ev_op (ev_len (ev_var rfl) (sq_of h1)) (ev_var rfl) (rv_ne rfl))) (fun hb H1 e1 => ?_) fun hb H1 e1 => ?_
  · refine s_ret ev_c fun H2 e2 => ?_
    have e : heapsB yss n g = false := by
      unfold heapsB
      rw [decide_eq_false fun z => ?_]
      · rfl
      · rw [List.length_map, h2, z, decide_eq_true rfl] at hb
        cases hb
    rw [e] at q
    exact q H2 (e1.trans e2)
  have hn : (yss.length : Int) = n := by
    by_cases e : (yss.length : Int) = n
    · exact e
    · rw [List.length_map, h2, decide_eq_false fun z => e (V.int.inj z)] at hb
      cases hb
  refine q_asgL (el_rep (ev_var rfl) hg) fun s H2 hs e2 hs2 => ?_
  have e12 := e1.trans e2
  have hb0 : ∀ {k j : Nat} (hk : k < yss.length) (hj : j < (yss[k]'hk).length), (yss[k]'hk)[j]'hj ∈ yss.flatten := fun hk hj => List.mem_flatten.mpr ⟨_, List.getElem_mem hk, List.getElem_mem hj⟩
  have bad : yss.flatten.all (fun y => place y g) = false → ∀ H3, Ex H H3 → Q (.bl false) H3 := fun hbad H3 e3 => by
    have e : heapsB yss n g = false := by
      unfold heapsB
      rw [hbad]
      simp
    rw [e] at q
    exact q H3 e3
  refine q_forLn (ev_var rfl) (sq_of (e12 _ _ h1)) (fun i σ H' => ∃ z4 z5, σ = [some (.ref a), some (.int n), some (.int g), some (.ref s), z4, z5] ∧ Ex H H' ∧ H' s = some (.lst ((seenM (yss.take i).flatten g).map V.int)) ∧ (yss.take i).flatten.all (fun y => place y g) = true)
    (fun H3 e3 => ⟨none, none, rfl, e12.trans e3, by rw [List.take_zero, List.flatten_nil, seenM_nil]; exact e3 _ _ hs2, rfl⟩) (fun i σ' H' _ h => by obtain ⟨_, _, _, e, _⟩ := h; exact sq_of (e _ _ h1)) ?_ ?_
  · rintro i x σ' H' hi ⟨z4, z5, rfl, ex, hseen, hall⟩
    rw [List.getElem?_map] at hi
    cases ei : ps[i]? with
    | none =>
      rw [ei] at hi
      cases hi
    | some p =>
      rw [ei] at hi
      obtain rfl : V.ref p = x := Option.some.inj hi
      have hil : i < yss.length := by
        have := (List.getElem?_eq_some_iff.mp ei).1
        omega
      have hp := ex _ _ (h3 i p _ ei (List.getElem?_eq_getElem hil))
      refine q_when (b := false) (et_not (et_B (b := true) (ev_isList (ev_var rfl) hp))) (fun h => nomatch h) fun _ H3 e3 => ?_
      refine s_forLn (ev_var rfl) (sq_of (e3 _ _ hp)) (fun j σ H' => ∃ z5, σ = [some (.ref a), some (.int n), some (.int g), some (.ref s), some (.ref p), z5] ∧ Ex H H' ∧ H' s = some (.lst ((seenM ((yss.take i).flatten ++ yss[i].take j) g).map V.int)) ∧ ((yss.take i).flatten ++ yss[i].take j).all (fun y => place y g) = true)
        (fun H4 e4 => ⟨z5, rfl, (ex.trans e3).trans e4, by rw [List.take_zero, List.append_nil]; exact e4 _ _ (e3 _ _ hseen), by rw [List.take_zero, List.append_nil]; exact hall⟩) (fun j σ' H' _ h => by obtain ⟨_, _, e, _⟩ := h; exact sq_of (e _ _ (h3 i p _ ei (List.getElem?_eq_getElem hil)))) ?_ ?_
      · rintro j y σ' H4 hj ⟨z5, rfl, e4, hseen4, hall4⟩
        have hjl : j < yss[i].length := (List.getElem?_eq_some_iff.mp hj).1
        obtain rfl : yss[i][j] = y := (List.getElem?_eq_some_iff.mp hj).2
        generalize hyv : yss[i][j] = y at *
        have hmem : y ∈ yss.flatten := by rw [← hyv]; exact hb0 hil hjl
        have hAny := hy y hmem
        have et : (yss.take i).flatten ++ yss[i].take (j + 1) = ((yss.take i).flatten ++ yss[i].take j) ++ [y] := by
          rw [List.take_add_one, hj, List.append_assoc]
          rfl
        have tw : EvT (tNot (tB (tCall (sp__law_whole K) [] E0 (tCons (tVar 5) tNil)))) [some (.ref a), some (.int n), some (.int g), some (.ref s), some (.ref p), some y] H4 (!isInt y) := et_not (et_B (ev_call (ea_cons (ev_var rfl) ea_nil) fun H5 e5 Q q E => ⟨_, rfl, hAny.mono (e4.trans e5), q H5 (Ex.refl H5)⟩))
        by_cases hpl : place y g = true
        · obtain ⟨k, rfl, hk⟩ : ∃ k : Nat, y = V.int k ∧ k < g := by
            cases y with
            | int v =>
              have := of_decide_eq_true hpl
              exact ⟨v.toNat, by rw [Int.toNat_of_nonneg this.1], by omega⟩
            | _ => cases hpl
          refine q_when (b := false) (et_or (a := false) (b := false) (et_is tw rfl) fun _ => et_or (a := false) (b := false) (et_is (et_test (ev_op (ev_var rfl) ev_c rv_I0)) (decide_eq_false (by omega))) fun _ => et_is (et_test (ev_op (ev_var rfl) (ev_var rfl) rv_I0)) (decide_eq_false (by omega))) (fun h => nomatch h) fun _ H5 e5 => ?_
          have hs5 := e5 _ _ hseen4
          refine s_setL (j := k) hs5 (ev_op (ev_op (ev_var rfl) (ev_var rfl) (rv_ixL (sq_of hs5) (at_ints (i := (k : Int)) (by omega) (by rw [seenM_len]; omega)))) ev_c rv_I0) (ev_var rfl) (ev_var rfl) (by rw [List.length_map, seenM_len]; exact hk) fun H6 e6 => ⟨_, rfl, Ex.mut ((e4.trans e5).trans e6) (fresh_back e1 hs), ?_, ?_⟩
          · rw [upd_same, et, ← seenM_push hk, List.map_set]
            rfl
          · rw [et, List.all_append, hall4]
            simp [hpl]
        · have hpf : place y g = false := by
            cases h : place y g with
            | true => exact absurd h hpl
            | false => rfl
          have hbad : yss.flatten.all (fun y => place y g) = false := by
            cases h : yss.flatten.all (fun y => place y g) with
            | false => rfl
            | true => exact absurd (List.all_eq_true.mp h y hmem) hpl
          refine q_when (b := true) ?_ (fun _ H5 e5 => s_ret ev_c fun H6 e6 => bad hbad H6 ((e4.trans e5).trans e6)) (fun h => nomatch h)
          cases y with
          | int v =>
            by_cases h0 : v < 0
            · exact et_is (et_or (a := false) (b := true) (et_is tw rfl) fun _ => et_is (et_or (a := true) (b := true) (et_is (et_test (ev_op (ev_var rfl) ev_c rv_I0)) (decide_eq_true h0)) (fun h => nomatch h)) rfl) rfl
            · have h1 : (g : Int) ≤ v := by
                have : ¬ (0 ≤ v ∧ v < (g : Int)) := of_decide_eq_false hpf
                omega
              exact et_is (et_or (a := false) (b := true) (et_is tw rfl) fun _ => et_is (et_or (a := false) (b := true) (et_is (et_test (ev_op (ev_var rfl) ev_c rv_I0)) (decide_eq_false h0)) fun _ => et_is (et_test (ev_op (ev_var rfl) (ev_var rfl) rv_I0)) (decide_eq_true h1)) rfl) rfl
          | _ => exact et_is (et_or (a := true) (b := true) (et_is tw rfl) (fun h => nomatch h)) rfl
      · rintro σ' H4 ⟨z5, rfl, e4, hseen4, hall4⟩
        rw [List.take_length, ← flat_take yss hil] at hseen4 hall4
        exact ⟨_, _, rfl, e4, hseen4, hall4⟩
  · rintro σ' H' ⟨z4, z5, rfl, ex, hseen, hall⟩
    have el : (ps.map V.ref).length = yss.length := by rw [List.length_map, h2]
    rw [el, List.take_length] at hseen hall
    refine s_ret (v := .bl (heapsB yss n g)) (ev_is (ev_opL (xs := (List.replicate g (1 : Int)).map V.int) (ev_var rfl) (el_rep (ev_var rfl) hg) fun p H3 hp3 e3 => rv_eqD (x := seenM yss.flatten g) (y := List.replicate g 1) encI (by decide) (dp_ints (sq_of (e3 _ _ hseen))) (dp_ints (sq_of hp3))) ?_) fun H3 e3 => q H3 (ex.trans e3)
    unfold heapsB
    rw [decide_eq_true hn, hall]
    simp
end
/-! ### _law_deal -/
abbrev s__law_deal : Stmt := topS 40
theorem sc__law_deal : FnScope ["_law_found", "_law_people", "_law_goods"] ["_law_found", "_law_people", "_law_goods"] (defScope s__law_deal) := ⟨rfl, rfl, rfl, by decide +kernel, rfl, by decide +kernel, by decide +kernel⟩
def sp__law_deal (K : PySem.W.Frag) : Sp := sp3 fun x y z H Q => ∃ (p hp sp : Addr) (yss : List (List V)) (ss : List Int) (n : Int) (g : Nat), x = .ref p ∧ y = .int n ∧ z = .int g ∧ H p = some (.tup [.ref hp, .ref sp]) ∧ TV H hp yss ∧ (∀ y ∈ yss.flatten, Any H y) ∧ H sp = some (.lst (ss.map V.int)) ∧ g ≤ 1000 ∧ RetV (.bl (dealB yss ss n g)) H Q
section
variable {P : Program} {w : World} {K : PySem.W.Frag} {mg : Str → Option Value} {base : Heap} {cl : Nat → Addr} {C : Addr}
theorem ok__law_deal (D : DnX K mg "_law_deal" s__law_deal ["_law_found", "_law_people", "_law_goods"]) (B : Bt mg) (h__law_heaps : Ok P w K mg base CX0 2 "_law_heaps" ["_law_found", "_law_people", "_law_goods"] (sp__law_heaps K)) (h__law_numbers : Ok P w K mg base CX0 2 "_law_numbers" ["_law_found", "_law_many"] (sp__law_numbers K)) : Ok P w K mg base CX0 3 "_law_deal" ["_law_found", "_law_people", "_law_goods"] (sp__law_deal K) := by
  refine ok_of D sc__law_deal (fun vs H Q E h => by obtain ⟨_, _, _, rfl, _⟩ := h; rfl) (fun f cdv A outer s H vs Q E hr h => ⟨_, (pss_cons (ps_if (PW.pt (pw_or (pt_not (pt_val (pe_callB (isiK (K := K)) (by rfl) B.isinstance (by decide +kernel) (pa_cons (pv 0) (pa_cons (pe_bltn (v := .ty "tuple") (by rfl) B.tuple (by decide +kernel) rfl) pa_nil))))) (pw_or1 (pt_cmpR op_ne (pe_callB (lenK (K := K)) (by rfl) B.len PySem.boot_len (pa_cons (pv 0) pa_nil)) pe_int (nomark _)))))
        (pss_one (ps_ret pe_bl))
        pss_nil)
      (pss_one (ps_ret (pe_and (pe_ok h__law_heaps hr (by rfl) pass0 (pa_cons (pe_ix (ixT (K := K)) (pv 0) pe_int (fun _ _ => rfl)) (pa_cons (pv 1) (pa_cons (pv 2) pa_nil)))) (pe_and (pe_ok h__law_numbers hr (by rfl) pass0 (pa_cons (pe_ix (ixT (K := K)) (pv 0) pe_int (fun _ _ => rfl)) (pa_cons (pv 1) pa_nil))) (pe_one (pe_cmpR op_eq (pe_callB (sumK (K := K) rfl) (by rfl) B.sum (by decide +kernel) (pa_cons (pe_ix (ixT (K := K)) (pv 0) pe_int (fun _ _ => rfl)) pa_nil)) pe_int (nomark _)))))))), ?_⟩)
  obtain ⟨x, y, z, rfl, p, hp, sp, yss, ss, n, g, rfl, rfl, rfl, hT, hH, hy, hS, hg, q⟩ := h
  have i0 : atI [V.ref hp, V.ref sp] 0 = some (.ref hp) := atI_nat (j := 0) rfl
  have i1 : atI [V.ref hp, V.ref sp] 1 = some (.ref sp) := atI_nat (j := 1) rfl
  refine q_when (b := false) (et_or (a := false) (b := false) (et_not (et_B (b := true) (ev_isTuple (ev_var rfl) hT))) fun _ => et_is (et_test (ev_op (ev_lenT (ev_var rfl) hT) ev_c (rv_ne rfl))) (by rfl)) (fun h => nomatch h) fun _ H1 e1 => ?_
  have hT1 := st_of (K := K) (e1 _ _ hT)
  refine s_ret (v := .bl (dealB yss ss n g)) (ev_andV (a := heapsB yss n g) (b := decide ((ss.length : Int) = n) && decide (ss.sum = 0)) (ev_call (ea_cons (ev_op (ev_var rfl) ev_c (rv_ixT hT1 i0)) (ea_cons (ev_var rfl) (ea_cons (ev_var rfl) ea_nil))) fun H2 e2 Q q E => ⟨_, _, _, rfl, hp, yss, n, g, rfl, rfl, rfl, hH.mono (e1.trans e2), fun y hy' => (hy y hy').mono (e1.trans e2), hg, fun H3 e3 => q H3 e3⟩) fun _ => ?_) fun H2 e2 => q H2 (e1.trans e2)
  refine ev_andV (ev_call (ea_cons (ev_op (ev_var rfl) ev_c (rv_ixT hT1 i1)) (ea_cons (ev_var rfl) ea_nil)) fun H2 e2 Q q E => ⟨_, _, rfl, sp, ss, n, rfl, rfl, e2 _ _ (e1 _ _ hS), fun H3 e3 => q H3 e3⟩) fun _ => ?_
  refine ev_is (ev_op (ev_cb (ea_cons (ev_op (ev_var rfl) ev_c (rv_ixT hT1 i1)) ea_nil) fun H2 e2 Q q => ⟨sp, ss, rfl, sq_of (e2 _ _ (e1 _ _ hS)), q H2 (Ex.refl H2)⟩) ev_c (rv_eq rfl)) ?_
  congr 1
  by_cases e : ss.sum = 0
  · rw [e, decide_eq_true rfl, decide_eq_true rfl]
  · rw [decide_eq_false e, decide_eq_false fun z => e (V.int.inj z)]
end
/-! ### _law_envied -/
abbrev s__law_envied : Stmt := topS 41
theorem sc__law_envied : FnScope ["_law_bids", "_law_heaps_here", "_law_sums", "_law_people", "_law_i", "_law_own", "_law_j"] ["_law_bids", "_law_heaps_here", "_law_sums"] (defScope s__law_envied) := ⟨rfl, rfl, rfl, by decide +kernel, rfl, by decide +kernel, by decide +kernel⟩
def sp__law_envied (K : PySem.W.Frag) : Sp := sp3 fun x y z H Q => ∃ (a b c : Addr) (rows : List (List Int)) (m : Nat) (hs : List (List Int)) (ss : List Int), x = .ref a ∧ y = .ref b ∧ z = .ref c ∧ LL K H a rows ∧ Bids rows m ∧ LL K H b hs ∧ SqL K H c (ss.map V.int) ∧ Fits rows m hs ss ∧
  RetV (.bl (enviedB (gainM rows hs ss) rows.length)) H Q
section
variable {P : Program} {w : World} {K : PySem.W.Frag} {mg : Str → Option Value} {base : Heap} {cl : Nat → Addr} {C : Addr}
theorem ok__law_envied (D : DnX K mg "_law_envied" s__law_envied ["_law_bids", "_law_heaps_here", "_law_sums"]) (B : Bt mg) (h__law_worth : Ok P w K mg base CX0 1 "_law_worth" ["_law_row", "_law_heap"] (sp__law_worth K)) : Ok P w K mg base CX0 2 "_law_envied" ["_law_bids", "_law_heaps_here", "_law_sums"] (sp__law_envied K) := by
  refine ok_of D sc__law_envied (fun vs H Q E h => by obtain ⟨_, _, _, rfl, _⟩ := h; rfl) (fun f cdv A outer s H vs Q E hr h => ⟨_, (pss_cons (ps_set (i := 3) sc__law_envied.nd rfl (Or.inl rfl) (pe_callB (lenK (K := K)) (by rfl) B.len PySem.boot_len (pa_cons (pv 0) pa_nil)))
      (pss_cons (ps_for PassesOwn.never rfl (pi_range1 (by rfl) B.range (pa_cons (pv 3) pa_nil)) (pg_name (i := 4) sc__law_envied.nd rfl (Or.inl rfl))
        (pss_cons (ps_set (i := 5) sc__law_envied.nd rfl (Or.inl rfl) (pe_op op_sub (pe_op op_mul (pv 3) (pe_ok h__law_worth hr (by rfl) pass0 (pa_cons (pe_ix (ixL (K := K)) (pv 0) (pv 4) (fun _ _ => rfl)) (pa_cons (pe_ix (ixL (K := K)) (pv 1) (pv 4) (fun _ _ => rfl)) pa_nil)))) (pe_ix (ixL (K := K)) (pv 2) (pv 4) (fun _ _ => rfl))))
        (pss_one (ps_for PassesOwn.never rfl (pi_range1 (by rfl) B.range (pa_cons (pv 3) pa_nil)) (pg_name (i := 6) sc__law_envied.nd rfl (Or.inl rfl))
          (pss_one (ps_if (pt_cmpR op_gt (pe_op op_sub (pe_op op_mul (pv 3) (pe_ok h__law_worth hr (by rfl) pass0 (pa_cons (pe_ix (ixL (K := K)) (pv 0) (pv 4) (fun _ _ => rfl)) (pa_cons (pe_ix (ixL (K := K)) (pv 1) (pv 6) (fun _ _ => rfl)) pa_nil)))) (pe_ix (ixL (K := K)) (pv 2) (pv 6) (fun _ _ => rfl))) (pv 5) (nomark _))
            (pss_one (ps_ret pe_bl))
            pss_nil))))))
      (pss_one (ps_ret pe_bl)))), ?_⟩)
  obtain ⟨x, y, z, rfl, a, b, c, rows, m, hs, ss, rfl, rfl, rfl, hA, hb, hB, hC, hf, q⟩ := h
  have ll : (iv rows).length = rows.length := List.length_map _
  have l9 := hb.l9
  refine q_asg (v := .int (rows.length : Int)) (ev_is (ev_lenLL hA (ev_var rfl)) (by rw [ll])) fun H1 e1 => ?_
  refine q_forR1 (n := rows.length) (ea_cons (ev_var rfl) ea_nil) ⟨by omega, by omega⟩ (fun i σ H' => ∃ z4 z5 z6 : Option V, σ = [some (.ref a), some (.ref b), some (.ref c), some (.int (rows.length : Int)), z4, z5, z6] ∧ Ex H H' ∧ ∀ i' j, i' < i → j < rows.length → gainM rows hs ss i' j ≤ gainM rows hs ss i' i')
    (fun H2 e2 => ⟨none, none, none, rfl, e1.trans e2, fun i' j h => by omega⟩) ?_ ?_
  · rintro i σ' H' hi ⟨z4, z5, z6, rfl, e, hall⟩
    have hi' : i < rows.length := by omega
    refine q_asg (v := .int (gainM rows hs ss i i)) (ev_gain (hA.mono e) hb (hB.mono e) (ex_l e hC) hf (ev_var rfl) (ev_var rfl) (ev_var rfl) (ev_var rfl) (ev_var rfl) (ev_var rfl) hi' hi') fun H2 e2 => ?_
    have e02 := e.trans e2
    refine s_forR1 (n := rows.length) (ea_cons (ev_var rfl) ea_nil) ⟨by omega, by omega⟩ (fun j σ H' => ∃ z6 : Option V, σ = [some (.ref a), some (.ref b), some (.ref c), some (.int (rows.length : Int)), some (.int (i : Int)), some (.int (gainM rows hs ss i i)), z6] ∧ Ex H H' ∧ ∀ j', j' < j → gainM rows hs ss i j' ≤ gainM rows hs ss i i)
      (fun H3 e3 => ⟨z6, rfl, e02.trans e3, fun j' h => by omega⟩) ?_ ?_
    · rintro j σ' H3 hj ⟨z6, rfl, e3, hrow⟩
      have hj' : j < rows.length := by omega
      refine s_when (et_test (ev_op (ev_gain (i := i) (j := j) (hA.mono e3) hb (hB.mono e3) (ex_l e3 hC) hf (ev_var rfl) (ev_var rfl) (ev_var rfl) (ev_var rfl) (ev_var rfl) (ev_var rfl) hi' hj') (ev_var rfl) rv_I0)) (fun hc H4 e4 => ?_) fun hc H4 e4 => ?_
      · have hlt : gainM rows hs ss i i < gainM rows hs ss i j := of_decide_eq_true hc
        refine s_ret ev_c fun H5 e5 => ?_
        rw [enviedB_of hi' hj' hlt] at q
        exact q H5 ((e3.trans e4).trans e5)
      · have hlt : ¬ gainM rows hs ss i i < gainM rows hs ss i j := of_decide_eq_false hc
        refine ⟨_, rfl, e3.trans e4, fun j' hj2 => ?_⟩
        by_cases e : j' = j
        · subst e
          omega
        · exact hrow j' (by omega)
    · rintro σ' H3 ⟨z6, rfl, e3, hrow⟩
      rw [Int.toNat_natCast] at hrow
      refine ⟨_, _, _, rfl, e3, fun i' j hi2 hj => ?_⟩
      by_cases e : i' = i
      · subst e
        exact hrow j hj
      · exact hall i' j (by omega) hj
  · rintro σ' H2 ⟨z4, z5, z6, rfl, e, hall⟩
    rw [Int.toNat_natCast] at hall
    refine s_ret ev_c fun H3 e3 => ?_
    rw [enviedB_not fun i j hi hj => hall i j hi hj] at q
    exact q H3 (e.trans e3)
end
/-! ### _law_wrong -/
abbrev s__law_wrong : Stmt := topS 42
theorem sc__law_wrong : FnScope ["_law_cell_here"] ["_law_cell_here"] (defScope s__law_wrong) := ⟨rfl, rfl, rfl, by decide +kernel, rfl, by decide +kernel, by decide +kernel⟩
theorem wrong_at {xs : List V} {k : Int} {j : Nat} (h : k = (j : Int)) (hj : j < xs.length) : atI xs k = some (xs.getD j .non) := by
  subst h
  exact at_k (by simp [List.getD_eq_getElem?_getD, hj])
def sp__law_wrong (K : PySem.W.Frag) : Sp := sp1 fun x H Q => ∃ c : Int, x = .int c ∧ ∀ v H', Ex H H' → Itm K (nw H H') v → Q v H'
section
variable {P : Program} {w : World} {K : PySem.W.Frag} {mg : Str → Option Value} {base : Heap} {cl : Nat → Addr} {C : Addr}
theorem ok__law_wrong (D : DnX K mg "_law_wrong" s__law_wrong ["_law_cell_here"]) (B : Bt mg) : Ok P w K mg base CX0 1 "_law_wrong" ["_law_cell_here"] (sp__law_wrong K) := by
  refine ok_of D sc__law_wrong (fun vs H Q E h => by obtain ⟨_, rfl, _⟩ := h; rfl) (fun f cdv A outer s H vs Q E hr h => ⟨_, (pss_one (ps_ret (pe_ix (ixL (K := K)) (pe_lst (pa_cons (pe_un un_neg pe_int) (pa_cons pe_int (pa_cons pe_bl (pa_cons pe_bl (pa_cons pe_str (pa_cons pe_non (pa_cons (pe_lst (pa_cons pe_int pa_nil)) (pa_cons (pe_tup (pa_cons pe_int pa_nil)) pa_nil))))))))) (pe_op op_mod (pv 0) pe_int) (fun _ _ => rfl)))), ?_⟩)
  obtain ⟨x, rfl, c, rfl, q⟩ := h
  obtain ⟨j, hj, hjl⟩ := mod_range c (m := 8) (by decide)
  have hj8 : j < 8 := by omega
  refine g_ret (g_op (g_lst (g_cons (ev_un ev_c ru_neg H (Ex.refl _) _ fun H1 e1 => g_cons <| g_c <| g_cons <| g_c <| g_cons <| g_c <| g_cons <| g_c <| g_cons <| g_c <| g_cons <|
    el_lst (ea_cons ev_c ea_nil) (by show 1 ≤ 100000; decide) H1 (Ex.refl _) _ fun a H2 ha e2 h2 => g_cons <| eu_tup (ea_cons ev_c ea_nil) (by show 1 ≤ 100000; decide) H2 (Ex.refl _) _ fun b H3 hb e3 h3 => g_nil ⟨sz_of (by show 8 ≤ 100000; omega), fun l hl => ?_⟩))))
  have x4 := Ex.new (o := .lst [V.int (-1), V.int 1000000000001, V.bl true, V.bl false, V.str "1", V.non, V.ref a, V.ref b]) hl
  refine ev_op (ev_var rfl) ev_c (rv_I (by show (0 : Int) < 8; decide)) _ (Ex.refl _) _ fun H5 e5 => ⟨l, _, _, _, rfl, rfl, sq_of (e5 _ _ upd_same), wrong_at hj hj8, ?_⟩
  have ex : Ex H H5 := ((e1.trans e2).trans e3).trans (x4.trans e5)
  have ha5 : nw H H5 a = some (.lst [V.int 1]) := by
    rw [nw_at (fresh_back e1 ha)]
    exact (e3.trans (x4.trans e5)) _ _ h2
  have hb5 : nw H H5 b = some (.tup [V.int 1]) := by
    rw [nw_at (fresh_back (e1.trans e2) hb)]
    exact (x4.trans e5) _ _ h3
  refine q _ H5 ex ?_
  match j, hj8 with
  | 0, _ => exact itm_int _
  | 1, _ => exact itm_int _
  | 2, _ => exact itm_bl _
  | 3, _ => exact itm_bl _
  | 4, _ => exact itm_str (by decide +kernel)
  | 5, _ => exact itm_non
  | 6, _ => exact itm_one ha5
  | 7, _ => exact itm_tup hb5
end
/-! ### _law_line -/
abbrev s__law_line : Stmt := topS 43
theorem sc__law_line : FnScope ["_law_draws_here", "_law_many", "_law_kind", "_law_line_here", "_law_k"] ["_law_draws_here", "_law_many", "_law_kind"] (defScope s__law_line) := ⟨rfl, rfl, rfl, by decide +kernel, rfl, by decide +kernel, by decide +kernel⟩
def sp__law_line (K : PySem.W.Frag) : Sp := sp3 fun x y z H Q => ∃ (a : Addr) (ns : List Int) (m : Nat) (k : Int), x = .ref a ∧ y = .int (m : Int) ∧ z = .int k ∧ SqL K H a (ns.map V.int) ∧ ns.length = 46 ∧ m ≤ 40 ∧
  ∀ l ys H', H l = none → Ex H H' → H' l = some (.lst ys) → ys.length ≤ 60 → (∀ y ∈ ys, Itm K (nw H H') y) → Q (.ref l) H'
section
variable {P : Program} {w : World} {K : PySem.W.Frag} {mg : Str → Option Value} {base : Heap} {cl : Nat → Addr} {C : Addr}
theorem ok__law_line (D : DnX K mg "_law_line" s__law_line ["_law_draws_here", "_law_many", "_law_kind"]) (B : Bt mg) (h__law_bid : Ok P w K mg base CX0 1 "_law_bid" ["_law_cell_here", "_law_kind"] (sp__law_bid K)) (h__law_wrong : Ok P w K mg base CX0 1 "_law_wrong" ["_law_cell_here"] (sp__law_wrong K)) : Ok P w K mg base CX0 2 "_law_line" ["_law_draws_here", "_law_many", "_law_kind"] (sp__law_line K) := by
  refine ok_of D sc__law_line (fun vs H Q E h => by obtain ⟨_, _, _, rfl, _⟩ := h; rfl) (fun f cdv A outer s H vs Q E hr h => ⟨_, (pss_cons (ps_setLc (own := [("_law_k", 4)]) (i := 3) rfl sc__law_line.nd rfl rfl (sw_true rfl rfl rfl (by decide +kernel))  (pi_range1 (by rfl) B.range (pa_cons (pv 1) pa_nil)) (blkOk_by (own := [("_law_k", 4)]) (N := ["_law_draws_here", "_law_many", "_law_kind", "_law_line_here", "_law_k"]) (sc := (defScope s__law_line)) (by decide +kernel)) (fun _ _ _ _ _ => (pg_name (i := 4) sc__law_line.nd rfl (Or.inl rfl))) (fun _ _ _ _ _ => pts_nil) (fun _ _ _ _ _ => (pe_ok h__law_bid hr (by rfl) pass0 (pa_cons (pe_ix (ixL (K := K)) (pv 0) (pv 4) (fun _ _ => rfl)) (pa_cons (pv 2) pa_nil)))))
      (pss_cut (ps_if (PW.pt (pw_and (pt_cmpR op_eq (pe_op op_mod (pe_op op_mod (pe_ix (ixL (K := K)) (pv 0) pe_int (fun _ _ => rfl)) pe_int) pe_int) pe_int (nomark _)) (pw_and (pt_cmpR op_lt (pe_op op_mod (pe_ix (ixL (K := K)) (pv 0) pe_int (fun _ _ => rfl)) pe_int) pe_int (nomark _)) (pw_and1 (pt_cmpR op_gt (pv 1) pe_int (nomark _))))))
        (pss_one (ps_asg (pe_ok h__law_wrong hr (by rfl) pass0 (pa_cons (pe_ix (ixL (K := K)) (pv 0) pe_int (fun _ _ => rfl)) pa_nil)) (pg_sub (pv 3) (pe_op op_mod (pe_ix (ixL (K := K)) (pv 0) pe_int (fun _ _ => rfl)) (pv 1)) set_list)))
        pss_nil)
      (pss_cut (ps_if (PW.pt (pw_or (pt_cmpR op_eq (pe_op op_mod (pe_ix (ixL (K := K)) (pv 0) pe_int (fun _ _ => rfl)) pe_int) pe_int (nomark _)) (pw_or1 (pt_cmpR op_eq (pe_op op_mod (pe_ix (ixL (K := K)) (pv 0) pe_int (fun _ _ => rfl)) pe_int) pe_int (nomark _)))))
        (pss_one (ps_expr (pe_bm PySem.F.plainAttrs_list PySem.F.slot_list_insert PySem.F.type_list_insert mt_insert (pv 3) (pa_cons (pe_op op_mod (pe_ix (ixL (K := K)) (pv 0) pe_int (fun _ _ => rfl)) (pe_op op_add (pv 1) pe_int)) (pa_cons pe_int pa_nil)))))
        pss_nil)
      (pss_cut (ps_if (PW.pt (pw_and (pt_cmpR op_eq (pe_op op_mod (pe_ix (ixL (K := K)) (pv 0) pe_int (fun _ _ => rfl)) pe_int) pe_int (nomark _)) (pw_and1 (pt_cmpR op_gt (pv 1) pe_int (nomark _)))))
        (pss_one (ps_expr (pe_bm0 PySem.F.plainAttrs_list PySem.F.slot_list_pop PySem.F.type_list_pop mt_pop (pv 3))))
        pss_nil)
      (pss_one (ps_ret (pv 3))))))), ?_⟩)
  obtain ⟨x, y, z, rfl, a, ns, m, k, rfl, rfl, rfl, hS, hn, hm, q⟩ := h
  have dr : ∀ {σ : L2.St} {H' : Hp} {i : Int}, Ex H H' → σ[0]? = some (some (.ref a)) → 0 ≤ i → i < 46 → Ev (tOp (rIxL K) (tVar 0) (tC (.int i))) σ H' (.int (ns.getD i.toNat 0)) := fun e h0 h1 h2 => ev_op (ev_var h0) ev_c (rv_ixL (ex_l e hS) (at_ints h1 (by omega)))
  refine q_asgL (el_rngA (n := m) (fun k2 : Nat => V.int (bidM (ns.getD k2 0) k)) (ea_cons (ev_var rfl) ea_nil) (by omega) (fun _ => rfl) fun k2 H5 hk e5 => ev_call (ea_cons (ev_op (ev_var rfl) (ev_var rfl) (rv_ixL (ex_l hk hS) (at_ints (by omega) (by omega)))) (ea_cons (ev_var rfl) ea_nil)) fun H6 e6 Q q E => ⟨_, _, rfl, _, _, rfl, rfl, by rw [Int.toNat_natCast]; exact q H6 (Ex.refl _)⟩) fun l H1 hl e1 h1 => ?_
  have hl1 : H1 l ≠ none := some_nn h1
  have d12 : ∀ {σ : L2.St} {H' : Hp}, Ex H H' → σ[0]? = some (some (.ref a)) → Ev (tOp (rI (fun _ j => 0 < j) fun i j => .int (i % j)) (tOp (rIxL K) (tVar 0) (tC (.int 41))) (tC (.int 12))) σ H' (.int (ns.getD 41 0 % 12)) := fun e h0 => ev_op (dr e h0 (by decide) (by decide)) ev_c (rv_I (by show (0 : Int) < 12; decide))
  refine q_cut (M := fun σ H' => ∃ ys, σ = [some (.ref a), some (.int (m : Int)), some (.int k), some (.ref l), none] ∧ Ex H H' ∧ (∀ b, H1 b ≠ none → H' b ≠ none) ∧ H' l = some (.lst ys) ∧ ys.length = m ∧ ∀ y ∈ ys, Itm K (nw H1 H') y) ?_ ?_
  · refine s_when (et_and (et_test (ev_op (ev_op (d12 e1 rfl) ev_c (rv_I (by show (0 : Int) < 4; decide))) ev_c (rv_eq rfl))) fun _ => et_and (et_test (ev_op (d12 e1 rfl) ev_c rv_I0)) fun _ => et_test (ev_op (ev_var rfl) ev_c rv_I0)) (fun hb H2 e2 => ?_) fun _ H2 e2 => ⟨_, rfl, e1.trans e2, kn_ex e2, e2 _ _ h1, by rw [List.length_map, List.length_range], fun y hy => ?_⟩
    · have hc := of_decide_eq_true (Bool.and_eq_true_iff.mp (Bool.and_eq_true_iff.mp hb).2).2
      have hc : 0 < m := by omega
      have e12 := e1.trans e2
      refine s_asgG (g_call (ea_cons (dr e12 rfl (by decide) (by decide)) ea_nil H2 (Ex.refl _) _ fun H3 e3 => ⟨_, rfl, _, rfl, fun v H4 e4 hv => ?_⟩))
      have e14 := (e12.trans e3).trans e4
      obtain ⟨j, hj, hjl⟩ := mod_range (ns.getD 42 0) (m := (m : Int)) (by omega)
      refine ⟨.ref l, rfl, ev_op (dr e14 rfl (by decide) (by decide)) (ev_var rfl) (rv_I (by show (0 : Int) < (m : Int); omega)) H4 (Ex.refl _) _ fun H5 e5 => ?_⟩
      have h5 := (e2.trans ((e3.trans e4).trans e5)) _ _ h1
      refine ⟨l, _, _, j, rfl, rfl, h5, ?_, ?_⟩
      · show ixN _ (ns.getD 42 0 % (m : Int)) = some j
        rw [hj]
        exact ixN_nat (by rw [List.length_map, List.length_range]; omega)
      refine ⟨_, rfl, Ex.mut (e14.trans e5) hl, kn_set (kn_ex (e2.trans ((e3.trans e4).trans e5))), upd_same, by rw [List.length_set, List.length_map, List.length_range], ?_⟩
      refine itm_set (fun y hy => ?_) ((hv.mono (nw_mono e5)).mono ((nw_sub (kn_ex (e2.trans e3))).trans (nw_set hl1)))
      obtain ⟨i, _, rfl⟩ := List.mem_map.mp hy
      exact itm_int _
    · obtain ⟨i, _, rfl⟩ := List.mem_map.mp hy
      exact itm_int _
  rintro σ H2 ⟨ys, rfl, e2, k2, h2, hyl, hy⟩
  refine q_cut (M := fun σ H' => ∃ ys, σ = [some (.ref a), some (.int (m : Int)), some (.int k), some (.ref l), none] ∧ Ex H H' ∧ (∀ b, H1 b ≠ none → H' b ≠ none) ∧ H' l = some (.lst ys) ∧ ys.length ≤ m + 1 ∧ (0 < m → 0 < ys.length) ∧ ∀ y ∈ ys, Itm K (nw H1 H') y) ?_ ?_
  · refine s_when (et_or (et_test (ev_op (d12 e2 rfl) ev_c (rv_eq rfl))) fun _ => et_test (ev_op (d12 e2 rfl) ev_c (rv_eq rfl))) (fun _ H3 e3 => ?_) fun _ H3 e3 => ⟨ys, rfl, e2.trans e3, fun b hb => ex_kn e3 (k2 b hb), e3 _ _ h2, by omega, fun _ => by omega, fun y m => (hy y m).mono (nw_mono e3)⟩
    have e23 := e2.trans e3
    obtain ⟨j, hj, hjl⟩ := mod_range (ns.getD 42 0) (m := (m : Int) + 1) (by omega)
    refine g_drop ⟨.ref l, rfl, Or.inl ⟨rfl, ys, sq_of (e3 _ _ h2)⟩, ea_cons (ev_op (dr e23 rfl (by decide) (by decide)) (ev_op (ev_var rfl) ev_c rv_I0) (rv_I (by show (0 : Int) < (m : Int) + 1; omega))) (ea_cons ev_c ea_nil) H3 (Ex.refl _) _ fun H4 e4 => ?_⟩
    refine ⟨l, ys, _, _, rfl, rfl, e4 _ _ (e3 _ _ h2), sz_lt (by omega), ?_, ?_, ⟨_, rfl, Ex.mut (e23.trans e4) hl, kn_set fun b hb => ex_kn (e3.trans e4) (k2 b hb), upd_same, ?_, fun _ => ?_, fun y m => ?_⟩⟩
    · show (0 : Int) ≤ ns.getD 42 0 % ((m : Int) + 1)
      omega
    · show ns.getD 42 0 % ((m : Int) + 1) < 2 ^ 63
      rw [hj]
      omega
    · rw [List.length_append, List.length_append, List.length_take, List.length_drop]
      show _ + 1 + _ ≤ _
      omega
    · rw [List.length_append, List.length_append]
      show 0 < _ + 1 + _
      omega
    · refine Itm.mono (nw_set hl1) ?_
      rcases List.mem_append.mp m with m | m
      · rcases List.mem_append.mp m with m | m
        · exact (hy y (List.mem_of_mem_take m)).mono (nw_mono (e3.trans e4))
        · rw [List.mem_singleton.mp m]
          exact itm_int _
      · exact (hy y (List.mem_of_mem_drop m)).mono (nw_mono (e3.trans e4))
  clear h2 hyl hy k2 e2
  rintro σ H2 ⟨ys, rfl, e2, k2, h2, hyl, hpos, hy⟩
  refine q_cut (M := fun σ H' => ∃ ys, σ = [some (.ref a), some (.int (m : Int)), some (.int k), some (.ref l), none] ∧ Ex H H' ∧ (∀ b, H1 b ≠ none → H' b ≠ none) ∧ H' l = some (.lst ys) ∧ ys.length ≤ m + 1 ∧ ∀ y ∈ ys, Itm K (nw H1 H') y) ?_ ?_
  · refine s_when (et_and (et_test (ev_op (d12 e2 rfl) ev_c (rv_eq rfl))) fun _ => et_test (ev_op (ev_var rfl) ev_c rv_I0)) (fun hb H3 e3 => ?_) fun _ H3 e3 => ⟨ys, rfl, e2.trans e3, fun b hb => ex_kn e3 (k2 b hb), e3 _ _ h2, by omega, fun y m => (hy y m).mono (nw_mono e3)⟩
    have hc := of_decide_eq_true (Bool.and_eq_true_iff.mp hb).2
    have hp := hpos (by omega)
    refine g_drop ⟨.ref l, rfl, Or.inl ⟨rfl, ys, sq_of (e3 _ _ h2)⟩, l, ys, ys[ys.length - 1], rfl, rfl, e3 _ _ h2, List.getElem?_eq_getElem (by omega), ⟨_, rfl, Ex.mut (e2.trans e3) hl, kn_set fun b hb => ex_kn e3 (k2 b hb), upd_same, ?_, fun y m => ?_⟩⟩
    · rw [List.length_dropLast]
      omega
    · exact ((hy y ((List.dropLast_sublist ys).subset m)).mono (nw_mono e3)).mono (nw_set hl1)
  rintro σ H3 ⟨ys, rfl, e3, k3, h3, hyl, hy⟩
  exact s_ret (ev_var rfl) fun H4 e4 => q l ys H4 hl (e3.trans e4) (e4 _ _ h3) (by omega) fun y m => ((hy y m).mono (nw_mono e4)).mono (nw_sub (kn_ex e1))
end
/-! ### _law_place -/
abbrev s__law_place : Stmt := topS 44
theorem sc__law_place : FnScope ["_law_draw", "_law_many"] ["_law_draw", "_law_many"] (defScope s__law_place) := ⟨rfl, rfl, rfl, by decide +kernel, rfl, by decide +kernel, by decide +kernel⟩
def sp__law_place (K : PySem.W.Frag) : Sp := sp2 fun x y H Q => ∃ (d : Int) (m : Nat), x = .int d ∧ y = .int (m : Int) ∧ ∀ v H', Ex H H' → Itm K (nw H H') v → Q v H'
theorem place_at {xs : List V} {k : Int} {j : Nat} (h : k = (j : Int)) (hj : j < xs.length) : atI xs k = some (xs.getD j .non) := by
  subst h
  exact at_k (by simp [List.getD_eq_getElem?_getD, hj])
section
variable {P : Program} {w : World} {K : PySem.W.Frag} {mg : Str → Option Value} {base : Heap} {cl : Nat → Addr} {C : Addr}
theorem ok__law_place (D : DnX K mg "_law_place" s__law_place ["_law_draw", "_law_many"]) (B : Bt mg) : Ok P w K mg base CX0 1 "_law_place" ["_law_draw", "_law_many"] (sp__law_place K) := by
  refine ok_of D sc__law_place (fun vs H Q E h => by obtain ⟨_, _, rfl, _⟩ := h; rfl) (fun f cdv A outer s H vs Q E hr h => ⟨_, (pss_cons (ps_if (pt_cmpR op_eq (pe_op op_mod (pv 0) pe_int) pe_int (nomark _))
        (pss_one (ps_ret (pe_ix (ixL (K := K)) (pe_lst (pa_cons (pv 1) (pa_cons (pe_un un_neg pe_int) (pa_cons pe_bl (pa_cons pe_bl (pa_cons pe_non (pa_cons pe_str (pa_cons (pe_lst (pa_cons pe_int pa_nil)) (pa_cons (pe_tup (pa_cons pe_int pa_nil)) (pa_cons (pe_op op_add (pe_op op_add (pv 1) pe_int) (pe_op op_mod (pe_op op_fdiv (pv 0) pe_int) pe_int)) pa_nil)))))))))) (pe_op op_mod (pe_op op_fdiv (pv 0) pe_int) pe_int) (fun _ _ => rfl))))
        pss_nil)
      (pss_one (ps_ret (pe_op op_mod (pe_op op_fdiv (pv 0) pe_int) (pe_callB (call_max2 rfl) (by rfl) B.max (by decide +kernel) (pa_cons pe_int (pa_cons (pv 1) pa_nil))))))), ?_⟩)
  obtain ⟨x, y, rfl, d, m, rfl, rfl, q⟩ := h
  refine q_when (et_test (ev_op (ev_op (ev_var rfl) ev_c (rv_I (by show (0 : Int) < 9; decide))) ev_c (rv_eq rfl))) (fun _ H0 e0 => ?_) fun _ H0 e0 => ?_
  · obtain ⟨j, hj, hjl⟩ := mod_range (d / 9) (m := 9) (by decide)
    have hj9 : j < 9 := by omega
    refine g_ret (g_op (g_lst (g_cons (ev_var rfl H0 (Ex.refl _) _ fun H1 e1 => g_cons <| ev_un ev_c ru_neg H1 (Ex.refl _) _ fun H1' e1' => g_cons <| g_c <| g_cons <| g_c <| g_cons <| g_c <| g_cons <| g_c <| g_cons <|
      el_lst (ea_cons ev_c ea_nil) (by show 1 ≤ 100000; decide) H1' (Ex.refl _) _ fun a H2 ha e2 h2 => g_cons <| eu_tup (ea_cons ev_c ea_nil) (by show 1 ≤ 100000; decide) H2 (Ex.refl _) _ fun b H3 hb e3 h3 => g_cons <|
      ev_op (ev_op (ev_var rfl) ev_c rv_I0) (ev_op (ev_op (ev_var rfl) ev_c (rv_I ⟨by decide, by decide⟩)) ev_c (rv_I (by show (0 : Int) < 1000; decide))) rv_I0 H3 (Ex.refl _) _ fun H3' e3' => g_nil ⟨sz_of (by show 9 ≤ 100000; omega), fun l hl => ?_⟩))))
    have x4 := Ex.new (o := .lst [V.int (m : Int), V.int (-1), V.bl true, V.bl false, V.non, V.str "0", V.ref a, V.ref b, V.int ((m : Int) + 1 + d / 81 % 1000)]) hl
    refine ev_op (ev_op (ev_var rfl) ev_c (rv_I ⟨by decide, by decide⟩)) ev_c (rv_I (by show (0 : Int) < 9; decide)) _ (Ex.refl _) _ fun H5 e5 => ⟨l, _, _, _, rfl, rfl, sq_of (e5 _ _ upd_same), place_at hj hj9, ?_⟩
    have e01 := (e0.trans e1).trans e1'
    have ex : Ex H H5 := ((e01.trans e2).trans (e3.trans e3')).trans (x4.trans e5)
    have ha5 : nw H H5 a = some (.lst [V.int 0]) := by
      rw [nw_at (fresh_back e01 ha)]
      exact ((e3.trans e3').trans (x4.trans e5)) _ _ h2
    have hb5 : nw H H5 b = some (.tup [V.int 0]) := by
      rw [nw_at (fresh_back (e01.trans e2) hb)]
      exact (e3'.trans (x4.trans e5)) _ _ h3
    refine q _ H5 ex ?_
    match j, hj9 with
    | 0, _ => exact itm_int _
    | 1, _ => exact itm_int _
    | 2, _ => exact itm_bl _
    | 3, _ => exact itm_bl _
    | 4, _ => exact itm_non
    | 5, _ => exact itm_str (by decide +kernel)
    | 6, _ => exact itm_one ha5
    | 7, _ => exact itm_tup hb5
    | 8, _ => exact itm_int _
  · refine s_ret (ev_op (ev_op (ev_var rfl) ev_c (rv_I ⟨by decide, by decide⟩)) (ev_max2 ev_c (ev_var rfl)) (rv_I ?_)) fun H1 e1 => q _ H1 (e0.trans e1) (itm_int _)
    show (0 : Int) < if (m : Int) > 1 then (m : Int) else 1
    split <;> omega
end
/-! ### _law_fine -/
abbrev s__law_fine : Stmt := topS 45
theorem sc__law_fine : FnScope ["_law_one"] ["_law_one"] (defScope s__law_fine) := ⟨rfl, rfl, rfl, by decide +kernel, rfl, by decide +kernel, by decide +kernel⟩
def sp__law_fine (K : PySem.W.Frag) : Sp := sp1 fun x H Q => Any H x ∧ RetV (.bl (bidOk x)) H Q
section
variable {P : Program} {w : World} {K : PySem.W.Frag} {mg : Str → Option Value} {base : Heap} {cl : Nat → Addr} {C : Addr}
theorem ok__law_fine (D : DnX K mg "_law_fine" s__law_fine ["_law_one"]) (B : Bt mg) (h__law_whole : Ok P w K mg base CX0 1 "_law_whole" ["_law_found"] (sp__law_whole K)) : Ok P w K mg base CX0 2 "_law_fine" ["_law_one"] (sp__law_fine K) := by
  refine ok_of D sc__law_fine (fun vs H Q E h => by obtain ⟨_, rfl, _⟩ := h; rfl) (fun f cdv A outer s H vs Q E hr h => ⟨_, (pss_one (ps_ret (pe_and (pe_ok h__law_whole hr (by rfl) pass0 (pa_cons (pv 0) pa_nil)) (pe_and (pe_cmpR op_ge (pv 0) pe_int (nomark _)) (pe_one (pe_cmpR op_le (pv 0) pe_int (nomark _))))))), ?_⟩)
  obtain ⟨x, rfl, ha, q⟩ := h
  refine s_ret (v := .bl (bidOk x)) ?_ q
  have e : bidOk x = (isInt x && bidOk x) := by cases x <;> rfl
  rw [e]
  refine ev_andV (ev_call (ea_cons (ev_var rfl) ea_nil) fun H2 e2 Q q E => ⟨_, rfl, ha.mono e2, q H2 (Ex.refl H2)⟩) fun hi => ?_
  cases x with
  | int i =>
    have e2 : bidOk (.int i) = (decide (0 ≤ i) && decide (i ≤ 1000000000000)) := by simp [bidOk]
    rw [e2]
    exact ev_andV (ev_op (ev_var rfl) ev_c rv_I0) fun _ => ev_op (ev_var rfl) ev_c rv_I0
  | _ => cases hi
end
/-! ### _law_line_due -/
abbrev s__law_line_due : Stmt := topS 46
theorem sc__law_line_due : FnScope ["_law_line_here", "_law_many", "_law_one"] ["_law_line_here", "_law_many"] (defScope s__law_line_due) := ⟨rfl, rfl, rfl, by decide +kernel, rfl, by decide +kernel, by decide +kernel⟩
def sp__law_line_due (K : PySem.W.Frag) : Sp := sp2 fun x y H Q => ∃ (a : Addr) (r : List V) (m : Int), x = .ref a ∧ y = .int m ∧ SqL K H a r ∧ (∀ y ∈ r, Any H y) ∧ RetV (.str (nameE (lineD m r))) H Q
section
variable {P : Program} {w : World} {K : PySem.W.Frag} {mg : Str → Option Value} {base : Heap} {cl : Nat → Addr} {C : Addr}
theorem ok__law_line_due (D : DnX K mg "_law_line_due" s__law_line_due ["_law_line_here", "_law_many"]) (B : Bt mg) (h__law_fine : Ok P w K mg base CX0 2 "_law_fine" ["_law_one"] (sp__law_fine K)) : Ok P w K mg base CX0 3 "_law_line_due" ["_law_line_here", "_law_many"] (sp__law_line_due K) := by
  refine ok_of D sc__law_line_due (fun vs H Q E h => by obtain ⟨_, _, rfl, _⟩ := h; rfl) (fun f cdv A outer s H vs Q E hr h => ⟨_, (pss_cons (ps_if (pt_cmpR op_ne (pe_callB (lenK (K := K)) (by rfl) B.len PySem.boot_len (pa_cons (pv 0) pa_nil)) (pv 1) (nomark _))
        (pss_one (ps_ret pe_str))
        pss_nil)
      (pss_cons (ps_for PassesOwn.never rfl (pi_listK (K := K) (pv 0)) (pg_name (i := 2) sc__law_line_due.nd rfl (Or.inl rfl))
        (pss_one (ps_if (pt_not (pt_val (pe_ok h__law_fine hr (by rfl) pass0 (pa_cons (pv 2) pa_nil))))
          (pss_one (ps_ret pe_str))
          pss_nil)))
      (pss_one (ps_ret pe_str)))), ?_⟩)
  obtain ⟨x, y, rfl, a, r, m, rfl, rfl, hA, hy, q⟩ := h
  refine q_when (et_test (ev_op (ev_len (ev_var rfl) hA) (ev_var rfl) (rv_ne rfl))) (fun hb H1 e1 => ?_) fun hb H1 e1 => ?_
  · have ed : lineD m r = 3 := by
      unfold lineD
      rw [if_neg fun z => ?_]
      rw [z, decide_eq_true rfl] at hb
      cases hb
    rw [ed] at q
    exact s_ret ev_c fun H2 e2 => q H2 (e1.trans e2)
  have hm : (r.length : Int) = m := by
    by_cases z : (r.length : Int) = m
    · exact z
    · rw [decide_eq_false fun h => z (V.int.inj h)] at hb
      cases hb
  have ed : lineD m r = if r.all bidOk = true then 0 else 4 := if_pos hm
  refine q_forLn (ev_var rfl) (ex_l e1 hA) (fun i σ H' => ∃ z, σ = [some (.ref a), some (.int m), z] ∧ Ex H H' ∧ ∀ (k : Nat) y, k < i → r[k]? = some y → bidOk y = true) (fun H2 e2 => ⟨none, rfl, e1.trans e2, fun k y hk => by omega⟩) (fun i σ' H' _ h => by obtain ⟨z, _, e, _⟩ := h; exact ex_l e hA) ?_ ?_
  · rintro i x σ' H' hi ⟨z, rfl, e, hall⟩
    refine s_when (et_not (et_B (ev_call (ea_cons (ev_var rfl) ea_nil) fun H2 e2 Q q E => ⟨_, rfl, (hy x (List.mem_of_getElem? hi)).mono (e.trans e2), q⟩))) (fun hb H2 e2 => ?_) fun hb H2 e2 => ⟨_, rfl, e.trans e2, fun k y hk hk2 => ?_⟩
    · have ed4 : lineD m r = 4 := by
        rw [ed, if_neg fun z => ?_]
        rw [List.all_eq_true.mp z x (List.mem_of_getElem? hi)] at hb
        cases hb
      rw [ed4] at q
      exact s_ret ev_c fun H3 e3 => q H3 ((e.trans e2).trans e3)
    · by_cases hki : k = i
      · subst hki
        obtain rfl : x = y := Option.some.inj (hi.symm.trans hk2)
        cases h : bidOk x with
        | true => rfl
        | false =>
          rw [h] at hb
          cases hb
      · exact hall k y (by omega) hk2
  · rintro σ' H' ⟨z, rfl, e, hall⟩
    have ed0 : lineD m r = 0 := by
      rw [ed, if_pos (List.all_eq_true.mpr fun y hy => ?_)]
      obtain ⟨k, hk⟩ := List.getElem?_of_mem hy
      exact hall k y (List.getElem?_eq_some_iff.mp hk).1 hk
    rw [ed0] at q
    exact s_ret ev_c fun H3 e3 => q H3 (e.trans e3)
end
/-! ### _law_is_place -/
abbrev s__law_is_place : Stmt := topS 47
theorem sc__law_is_place : FnScope ["_law_one", "_law_many"] ["_law_one", "_law_many"] (defScope s__law_is_place) := ⟨rfl, rfl, rfl, by decide +kernel, rfl, by decide +kernel, by decide +kernel⟩
def sp__law_is_place (K : PySem.W.Frag) : Sp := sp2 fun x y H Q => ∃ m, y = .int m ∧ Any H x ∧ RetV (.bl (place x m)) H Q
section
variable {P : Program} {w : World} {K : PySem.W.Frag} {mg : Str → Option Value} {base : Heap} {cl : Nat → Addr} {C : Addr}
theorem ok__law_is_place (D : DnX K mg "_law_is_place" s__law_is_place ["_law_one", "_law_many"]) (B : Bt mg) (h__law_whole : Ok P w K mg base CX0 1 "_law_whole" ["_law_found"] (sp__law_whole K)) : Ok P w K mg base CX0 2 "_law_is_place" ["_law_one", "_law_many"] (sp__law_is_place K) := by
  refine ok_of D sc__law_is_place (fun vs H Q E h => by obtain ⟨_, _, rfl, _⟩ := h; rfl) (fun f cdv A outer s H vs Q E hr h => ⟨_, (pss_one (ps_ret (pe_and (pe_ok h__law_whole hr (by rfl) pass0 (pa_cons (pv 0) pa_nil)) (pe_and (pe_cmpR op_ge (pv 0) pe_int (nomark _)) (pe_one (pe_cmpR op_lt (pv 0) (pv 1) (nomark _))))))), ?_⟩)
  obtain ⟨x, y, rfl, m, rfl, ha, q⟩ := h
  refine s_ret (v := .bl (place x m)) ?_ q
  have e : place x m = (isInt x && place x m) := by cases x <;> rfl
  rw [e]
  refine ev_andV (ev_call (ea_cons (ev_var rfl) ea_nil) fun H2 e2 Q q E => ⟨_, rfl, ha.mono e2, q H2 (Ex.refl H2)⟩) fun hi => ?_
  cases x with
  | int i =>
    have e2 : place (.int i) m = (decide (0 ≤ i) && decide (i < m)) := by simp [place]
    rw [e2]
    exact ev_andV (ev_op (ev_var rfl) ev_c rv_I0) fun _ => ev_op (ev_var rfl) (ev_var rfl) rv_I0
  | _ => cases hi
end
/-! ### _law_deed -/
abbrev s__law_deed : Stmt := topS 48
theorem sc__law_deed : FnScope ["_law_cell_here", "_law_rows", "_law_goods", "_law_draws_here", "_law_kind", "_law_amount"] ["_law_cell_here", "_law_rows", "_law_goods"] (defScope s__law_deed) := ⟨rfl, rfl, rfl, by decide +kernel, rfl, by decide +kernel, by decide +kernel⟩
def sp__law_deed (K : PySem.W.Frag) : Sp := sp3 fun x y z H Q => ∃ (c : Int) (a : Addr) (rows : List (List Int)) (g : Nat), x = .int c ∧ y = .ref a ∧ z = .int (g : Int) ∧ LL K H a rows ∧ rows.length ≤ 9 ∧ g ≤ 40 ∧
  ∀ q l d H', H q = none → H l = none → H' l ≠ none → Ex H H' → DeedAt K (nw H H') q l d → Q (.ref q) H'
section
variable {P : Program} {w : World} {K : PySem.W.Frag} {mg : Str → Option Value} {base : Heap} {cl : Nat → Addr} {C : Addr}
theorem ok__law_deed (D : DnX K mg "_law_deed" s__law_deed ["_law_cell_here", "_law_rows", "_law_goods"]) (B : Bt mg) (h__law_draws : Ok P w K mg base CX0 1 "_law_draws" ["_law_cell_here", "_law_many"] (sp__law_draws K)) (h__law_bid : Ok P w K mg base CX0 1 "_law_bid" ["_law_cell_here", "_law_kind"] (sp__law_bid K)) (h__law_line : Ok P w K mg base CX0 2 "_law_line" ["_law_draws_here", "_law_many", "_law_kind"] (sp__law_line K)) (h__law_place : Ok P w K mg base CX0 1 "_law_place" ["_law_draw", "_law_many"] (sp__law_place K)) (h__law_wrong : Ok P w K mg base CX0 1 "_law_wrong" ["_law_cell_here"] (sp__law_wrong K)) : Ok P w K mg base CX0 3 "_law_deed" ["_law_cell_here", "_law_rows", "_law_goods"] (sp__law_deed K) := by
  refine ok_of D sc__law_deed (fun vs H Q E h => by obtain ⟨_, _, _, rfl, _⟩ := h; rfl) (fun f cdv A outer s H vs Q E hr h => ⟨_, (pss_cons (ps_set (i := 3) sc__law_deed.nd rfl (Or.inl rfl) (pe_ok h__law_draws (hr.mono (by decide)) (by rfl) pass0 (pa_cons (pv 0) (pa_cons pe_int pa_nil))))
      (pss_cons (ps_set (i := 4) sc__law_deed.nd rfl (Or.inl rfl) (pe_op op_mod (pe_op op_fdiv (pe_ix (ixL (K := K)) (pv 3) pe_int (fun _ _ => rfl)) pe_int) pe_int))
      (pss_cons (ps_if (pt_cmpR op_lt (pe_op op_mod (pv 0) pe_int) pe_int (nomark _))
        (pss_one (ps_ret (pe_lst (pa_cons pe_str (pa_cons (pe_ok h__law_line hr (by rfl) pass0 (pa_cons (pv 3) (pa_cons (pv 2) (pa_cons (pv 4) pa_nil)))) pa_nil)))))
        pss_nil)
      (pss_cons (ps_if (pt_cmpR op_eq (pe_op op_mod (pv 0) pe_int) pe_int (nomark _))
        (pss_one (ps_ret (pe_lst (pa_cons pe_str (pa_cons (pe_ok h__law_place (hr.mono (by decide)) (by rfl) pass0 (pa_cons (pe_ix (ixL (K := K)) (pv 3) pe_int (fun _ _ => rfl)) (pa_cons (pe_callB (lenK (K := K)) (by rfl) B.len PySem.boot_len (pa_cons (pv 1) pa_nil)) pa_nil))) pa_nil)))))
        pss_nil)
      (pss_cons (ps_if (pt_cmpR op_lt (pe_op op_mod (pv 0) pe_int) pe_int (nomark _))
        (pss_one (ps_ret (pe_lst (pa_cons pe_str (pa_cons (pe_ok h__law_line hr (by rfl) pass0 (pa_cons (pv 3) (pa_cons (pe_callB (lenK (K := K)) (by rfl) B.len PySem.boot_len (pa_cons (pv 1) pa_nil)) (pa_cons (pv 4) pa_nil)))) pa_nil)))))
        pss_nil)
      (pss_cons (ps_if (pt_cmpR op_eq (pe_op op_mod (pv 0) pe_int) pe_int (nomark _))
        (pss_one (ps_ret (pe_lst (pa_cons pe_str (pa_cons (pe_ok h__law_place (hr.mono (by decide)) (by rfl) pass0 (pa_cons (pe_ix (ixL (K := K)) (pv 3) pe_int (fun _ _ => rfl)) (pa_cons (pv 2) pa_nil))) pa_nil)))))
        pss_nil)
      (pss_cons (ps_if (pt_cmpR op_lt (pe_op op_mod (pv 0) pe_int) pe_int (nomark _))
        (pss_cons (ps_set (i := 5) sc__law_deed.nd rfl (Or.inl rfl) (pe_ok h__law_bid (hr.mono (by decide)) (by rfl) pass0 (pa_cons (pe_ix (ixL (K := K)) (pv 3) pe_int (fun _ _ => rfl)) (pa_cons (pv 4) pa_nil))))
        (pss_cut (ps_if (pt_cmpR op_eq (pe_op op_mod (pe_ix (ixL (K := K)) (pv 3) pe_int (fun _ _ => rfl)) pe_int) pe_int (nomark _))
          (pss_one (ps_set (i := 5) sc__law_deed.nd rfl (Or.inl rfl) (pe_ok h__law_wrong (hr.mono (by decide)) (by rfl) pass0 (pa_cons (pe_op op_fdiv (pe_ix (ixL (K := K)) (pv 3) pe_int (fun _ _ => rfl)) pe_int) pa_nil))))
          pss_nil)
        (pss_one (ps_ret (pe_lst (pa_cons pe_str (pa_cons (pe_ok h__law_place (hr.mono (by decide)) (by rfl) pass0 (pa_cons (pe_ix (ixL (K := K)) (pv 3) pe_int (fun _ _ => rfl)) (pa_cons (pe_callB (lenK (K := K)) (by rfl) B.len PySem.boot_len (pa_cons (pv 1) pa_nil)) pa_nil))) (pa_cons (pe_ok h__law_place (hr.mono (by decide)) (by rfl) pass0 (pa_cons (pe_ix (ixL (K := K)) (pv 3) pe_int (fun _ _ => rfl)) (pa_cons (pv 2) pa_nil))) (pa_cons (pv 5) pa_nil)))))))))
        pss_nil)
      (pss_one (ps_ret (pe_lst (pa_cons pe_str pa_nil))))))))))), ?_⟩)
  obtain ⟨x, y, z, rfl, c, a, rows, g, rfl, rfl, rfl, hA, h9, h40, q⟩ := h
  have hrl : (iv rows).length = rows.length := List.length_map _
  refine q_asgL (xs := (drawsM c 46).map V.int) (el_call (ea_cons (ev_var rfl) (ea_cons ev_c ea_nil)) fun H1 e1 Q q E => ⟨_, _, rfl, c, 46, rfl, rfl, by decide, q⟩) fun dl H1 hd e1 h1 => ?_
  have hn := drawsM_len c 46
  generalize drawsM c 46 = ns at h1 hn
  have dr : ∀ {σ : L2.St} {H' : Hp} {i : Int}, Ex H1 H' → σ[3]? = some (some (.ref dl)) → 0 ≤ i → i < 46 → Ev (tOp (rIxL K) (tVar 3) (tC (.int i))) σ H' (.int (ns.getD i.toNat 0)) := fun e h0 h1' h2 => ev_op (ev_var h0) ev_c (rv_ixL (sq_of (e _ _ h1)) (at_ints h1' (by omega)))
  refine q_asg (ev_op (ev_op (dr (Ex.refl _) rfl (by decide) (by decide)) ev_c (rv_I ⟨by decide, by decide⟩)) ev_c (rv_I (by show (0 : Int) < 4; decide))) fun H2 e2 => ?_
  have c16 : ∀ {σ : L2.St} {H' : Hp}, σ[0]? = some (some (.int c)) → Ev (tOp (rI (fun _ j => 0 < j) fun i j => .int (i % j)) (tVar 0) (tC (.int 16))) σ H' (.int (c % 16)) := fun h0 => ev_op (ev_var h0) ev_c (rv_I (by show (0 : Int) < 16; decide))
  have sqd : ∀ {H' : Hp}, Ex H1 H' → SqL K H' dl (ns.map V.int) := fun e => sq_of (e _ _ h1)
  -- come
  refine q_when (et_test (ev_op (c16 rfl) ev_c rv_I0)) (fun _ H3 e3 => ?_) fun _ H3 e3 => ?_
  · have ex := (e1.trans e2).trans e3
    refine g_ret (g_lst (g_cons (g_c (g_cons (g_call (ea_cons (ev_var rfl) (ea_cons (ev_var rfl) (ea_cons (ev_var rfl) ea_nil)) H3 (Ex.refl _) _ fun H4 e4 => ⟨_, _, _, rfl, dl, ns, g, _, rfl, rfl, rfl, sqd ((e2.trans e3).trans e4), hn, h40, fun l ys H5 hl e5 h5 hyl hy => g_nil ⟨sz_of (by show 2 ≤ 100000; omega), fun q0 hq => ?_⟩⟩))))))
    have e05 := (ex.trans e4).trans e5
    have hl0 : H l = none := fresh_back (ex.trans e4) hl
    exact q q0 l (.come ys) _ (fresh_back e05 hq) hl0 (ex_kn (Ex.new hq) (some_nn h5)) (e05.trans (Ex.new hq)) (deed_line (d := (.come ys)) e05 hq hl0 h5 hyl (fun y m => (hy y m).mono (nw_sub (kn_ex (ex.trans e4)))) rfl)
  -- leave
  have e13 := e2.trans e3
  refine q_when (et_test (ev_op (c16 rfl) ev_c (rv_eq rfl))) (fun _ H4 e4 => ?_) fun _ H4 e4 => ?_
  · have ex := e1.trans (e13.trans e4)
    refine g_ret (g_lst (g_cons (g_c (g_cons (g_call (ea_cons (dr (e13.trans e4) rfl (by decide) (by decide)) (ea_cons (ev_is (ev_lenLL (hA.mono ex) (ev_var rfl)) (by rw [hrl])) ea_nil) H4 (Ex.refl _) _ fun H5 e5 => ⟨_, _, rfl, _, rows.length, rfl, rfl, fun v H6 e6 hv => g_nil ⟨sz_of (by show 2 ≤ 100000; omega), fun q0 hq => ?_⟩⟩))))))
    have e06 := (ex.trans e5).trans e6
    exact q q0 q0 (.leave v) _ (fresh_back e06 hq) (fresh_back e06 hq) (some_nn upd_same) (e06.trans (Ex.new hq)) (deed_flat (d := (.leave v)) (l := q0) e06 hq (fun y m => by rw [List.mem_singleton.mp m]; exact hv.mono (nw_sub (kn_ex (ex.trans e5)))) rfl)
  -- put
  have e14 := e13.trans e4
  refine q_when (et_test (ev_op (c16 rfl) ev_c rv_I0)) (fun _ H5 e5 => ?_) fun _ H5 e5 => ?_
  · have ex := e1.trans (e14.trans e5)
    refine g_ret (g_lst (g_cons (g_c (g_cons (g_call (ea_cons (ev_var rfl) (ea_cons (ev_is (ev_lenLL (hA.mono ex) (ev_var rfl)) (by rw [hrl])) (ea_cons (ev_var rfl) ea_nil)) H5 (Ex.refl _) _ fun H6 e6 => ⟨_, _, _, rfl, dl, ns, rows.length, _, rfl, rfl, rfl, sqd ((e14.trans e5).trans e6), hn, by omega, fun l ys H7 hl e7 h7 hyl hy => g_nil ⟨sz_of (by show 2 ≤ 100000; omega), fun q0 hq => ?_⟩⟩))))))
    have e07 := (ex.trans e6).trans e7
    have hl0 : H l = none := fresh_back (ex.trans e6) hl
    exact q q0 l (.put ys) _ (fresh_back e07 hq) hl0 (ex_kn (Ex.new hq) (some_nn h7)) (e07.trans (Ex.new hq)) (deed_line (d := (.put ys)) e07 hq hl0 h7 hyl (fun y m => (hy y m).mono (nw_sub (kn_ex (ex.trans e6)))) rfl)
  -- take
  have e15 := e14.trans e5
  refine q_when (et_test (ev_op (c16 rfl) ev_c (rv_eq rfl))) (fun _ H6 e6 => ?_) fun _ H6 e6 => ?_
  · have ex := e1.trans (e15.trans e6)
    refine g_ret (g_lst (g_cons (g_c (g_cons (g_call (ea_cons (dr (e15.trans e6) rfl (by decide) (by decide)) (ea_cons (ev_var rfl) ea_nil) H6 (Ex.refl _) _ fun H7 e7 => ⟨_, _, rfl, _, g, rfl, rfl, fun v H8 e8 hv => g_nil ⟨sz_of (by show 2 ≤ 100000; omega), fun q0 hq => ?_⟩⟩))))))
    have e08 := (ex.trans e7).trans e8
    exact q q0 q0 (.take v) _ (fresh_back e08 hq) (fresh_back e08 hq) (some_nn upd_same) (e08.trans (Ex.new hq)) (deed_flat (d := (.take v)) (l := q0) e08 hq (fun y m => by rw [List.mem_singleton.mp m]; exact hv.mono (nw_sub (kn_ex (ex.trans e7)))) rfl)
  -- bid
  have e16 := e15.trans e6
  refine q_when (et_test (ev_op (c16 rfl) ev_c rv_I0)) (fun _ H7 e7 => ?_) fun _ H7 e7 => ?_
  · have ex := e1.trans (e16.trans e7)
    generalize hk : ns.getD (44 : Int).toNat 0 / 3 % 4 = kind
    refine q_asg (ev_call (ea_cons (dr (e16.trans e7) rfl (by decide) (by decide)) (ea_cons (ev_var rfl) ea_nil)) fun H8 e8 Q q E => ⟨_, _, rfl, _, _, rfl, rfl, q H8 (Ex.refl _)⟩) fun H8 e8 => ?_
    have e18 := (e16.trans e7).trans e8
    refine q_cut (M := fun σ H' => ∃ v, σ = [some (.int c), some (.ref a), some (.int (g : Int)), some (.ref dl), some (.int kind), some v] ∧ Ex H1 H' ∧ Itm K (nw H H') v) ?_ ?_
    · refine s_when (et_test (ev_op (ev_op (dr e18 rfl (by decide) (by decide)) ev_c (rv_I (by show (0 : Int) < 7; decide))) ev_c (rv_eq rfl))) (fun _ H9 e9 => ?_) fun _ H9 e9 => ⟨_, rfl, e18.trans e9, itm_int _⟩
      exact s_asgG (g_call (ea_cons (ev_op (dr (e18.trans e9) rfl (by decide) (by decide)) ev_c (rv_I ⟨by decide, by decide⟩)) ea_nil H9 (Ex.refl _) _ fun H10 e10 => ⟨_, rfl, _, rfl, fun v H11 e11 hv => ⟨v, rfl, (e18.trans e9).trans (e10.trans e11), hv.mono (nw_sub (kn_ex (e1.trans ((e18.trans e9).trans e10))))⟩⟩))
    rintro σ H9 ⟨v, rfl, e19, hv⟩
    have ex := e1.trans e19
    refine g_ret (g_lst (g_cons (g_c (g_cons (g_call (ea_cons (dr e19 rfl (by decide) (by decide)) (ea_cons (ev_is (ev_lenLL (hA.mono ex) (ev_var rfl)) (by rw [hrl])) ea_nil) H9 (Ex.refl _) _ fun H10 e10 => ⟨_, _, rfl, _, rows.length, rfl, rfl, fun y H11 e11 hy => g_cons (g_call (ea_cons (dr ((e19.trans e10).trans e11) rfl (by decide) (by decide)) (ea_cons (ev_var rfl) ea_nil) H11 (Ex.refl _) _ fun H12 e12 => ⟨_, _, rfl, _, g, rfl, rfl, fun z H13 e13' hz => g_cons (ev_var rfl H13 (Ex.refl _) _ fun H14 e14' => g_nil ⟨sz_of (by show 4 ≤ 100000; omega), fun q0 hq => ?_⟩)⟩))⟩))))))
    have e911 := e10.trans e11
    have e014 := (ex.trans e911).trans ((e12.trans e13').trans e14')
    refine q q0 q0 (.bid y z v) _ (fresh_back e014 hq) (fresh_back e014 hq) (some_nn upd_same) (e014.trans (Ex.new hq)) (deed_flat (d := (.bid y z v)) (l := q0) e014 hq (fun u m => ?_) rfl)
    rcases List.mem_cons.mp m with rfl | m
    · exact (hy.mono (nw_sub (kn_ex (ex.trans e10)))).mono (nw_mono ((e12.trans e13').trans e14'))
    · rcases List.mem_cons.mp m with rfl | m
      · exact (hz.mono (nw_sub (kn_ex ((ex.trans e911).trans e12)))).mono (nw_mono e14')
      · rw [List.mem_singleton.mp m]
        exact hv.mono (nw_mono (e911.trans ((e12.trans e13').trans e14')))
  -- back
  have ex := e1.trans (e16.trans e7)
  refine g_ret (g_lst (g_cons (g_c (g_nil ⟨sz_of (by show 1 ≤ 100000; omega), fun q0 hq => ?_⟩))))
  exact q q0 q0 .back _ (fresh_back ex hq) (fresh_back ex hq) (some_nn upd_same) (ex.trans (Ex.new hq)) (deed_flat (d := .back) (l := q0) ex hq (fun u m => nomatch m) rfl)
end
/-! ### _law_due -/
abbrev s__law_due : Stmt := topS 49
theorem sc__law_due : FnScope ["_law_deed_here", "_law_rows", "_law_goods", "_law_word"] ["_law_deed_here", "_law_rows", "_law_goods"] (defScope s__law_due) := ⟨rfl, rfl, rfl, by decide +kernel, rfl, by decide +kernel, by decide +kernel⟩
def sp__law_due (K : PySem.W.Frag) : Sp := sp3 fun x y z H Q => ∃ (q l : Addr) (d : Deed) (a : Addr) (rows : List (List Int)) (g : Nat), x = .ref q ∧ y = .ref a ∧ z = .int (g : Int) ∧ DeedAt K H q l d ∧ LL K H a rows ∧ rows.length ≤ 9 ∧ g ≤ 40 ∧ RetV (.str (nameE (dueE d rows.length g))) H Q
section
variable {P : Program} {w : World} {K : PySem.W.Frag} {mg : Str → Option Value} {base : Heap} {cl : Nat → Addr} {C : Addr}
theorem ok__law_due (D : DnX K mg "_law_due" s__law_due ["_law_deed_here", "_law_rows", "_law_goods"]) (B : Bt mg) (h__law_line_due : Ok P w K mg base CX0 3 "_law_line_due" ["_law_line_here", "_law_many"] (sp__law_line_due K)) (h__law_is_place : Ok P w K mg base CX0 2 "_law_is_place" ["_law_one", "_law_many"] (sp__law_is_place K)) (h__law_fine : Ok P w K mg base CX0 2 "_law_fine" ["_law_one"] (sp__law_fine K)) : Ok P w K mg base CX0 4 "_law_due" ["_law_deed_here", "_law_rows", "_law_goods"] (sp__law_due K) := by
  refine ok_of D sc__law_due (fun vs H Q E h => by obtain ⟨_, _, _, rfl, _⟩ := h; rfl) (fun f cdv A outer s H vs Q E hr h => ⟨_, (pss_cons (ps_set (i := 3) sc__law_due.nd rfl (Or.inl rfl) (pe_ix (ixL (K := K)) (pv 0) pe_int (fun _ _ => rfl)))
      (pss_cons (ps_if (pt_cmpR op_eq (pv 3) pe_str (nomark _))
        (pss_cons (ps_if (pt_cmpR op_eq (pe_callB (lenK (K := K)) (by rfl) B.len PySem.boot_len (pa_cons (pv 1) pa_nil)) pe_int (nomark _))
          (pss_one (ps_ret pe_str))
          pss_nil)
        (pss_one (ps_ret (pe_ok h__law_line_due hr (by rfl) pass0 (pa_cons (pe_ix (ixL (K := K)) (pv 0) pe_int (fun _ _ => rfl)) (pa_cons (pv 2) pa_nil))))))
        pss_nil)
      (pss_cons (ps_if (pt_cmpR op_eq (pv 3) pe_str (nomark _))
        (pss_cons (ps_if (pt_cmpR op_eq (pv 2) pe_int (nomark _))
          (pss_one (ps_ret pe_str))
          pss_nil)
        (pss_one (ps_ret (pe_ok h__law_line_due hr (by rfl) pass0 (pa_cons (pe_ix (ixL (K := K)) (pv 0) pe_int (fun _ _ => rfl)) (pa_cons (pe_callB (lenK (K := K)) (by rfl) B.len PySem.boot_len (pa_cons (pv 1) pa_nil)) pa_nil))))))
        pss_nil)
      (pss_cons (ps_if (PW.pt (pw_and (PW.pt (pw_or (pt_cmpR op_eq (pv 3) pe_str (nomark _)) (pw_or1 (pt_cmpR op_eq (pv 3) pe_str (nomark _))))) (pw_and1 (pt_not (pt_val (pe_ok h__law_is_place (hr.mono (by decide)) (by rfl) pass0 (pa_cons (pe_ix (ixL (K := K)) (pv 0) pe_int (fun _ _ => rfl)) (pa_cons (pe_callB (lenK (K := K)) (by rfl) B.len PySem.boot_len (pa_cons (pv 1) pa_nil)) pa_nil))))))))
        (pss_one (ps_ret pe_str))
        pss_nil)
      (pss_cons (ps_if (PW.pt (pw_and (pt_cmpR op_eq (pv 3) pe_str (nomark _)) (pw_and1 (pt_not (pt_val (pe_ok h__law_is_place (hr.mono (by decide)) (by rfl) pass0 (pa_cons (pe_ix (ixL (K := K)) (pv 0) pe_int (fun _ _ => rfl)) (pa_cons (pv 2) pa_nil))))))))
        (pss_one (ps_ret pe_str))
        pss_nil)
      (pss_cons (ps_if (PW.pt (pw_and (pt_cmpR op_eq (pv 3) pe_str (nomark _)) (pw_and1 (pt_not (pt_val (pe_ok h__law_is_place (hr.mono (by decide)) (by rfl) pass0 (pa_cons (pe_ix (ixL (K := K)) (pv 0) pe_int (fun _ _ => rfl)) (pa_cons (pv 2) pa_nil))))))))
        (pss_one (ps_ret pe_str))
        pss_nil)
      (pss_cons (ps_if (PW.pt (pw_and (pt_cmpR op_eq (pv 3) pe_str (nomark _)) (pw_and1 (pt_not (pt_val (pe_ok h__law_fine (hr.mono (by decide)) (by rfl) pass0 (pa_cons (pe_ix (ixL (K := K)) (pv 0) pe_int (fun _ _ => rfl)) pa_nil)))))))
        (pss_one (ps_ret pe_str))
        pss_nil)
      (pss_one (ps_ret pe_str))))))))), ?_⟩)
  obtain ⟨x, y, z, rfl, q, l, d, a, rows, g, rfl, rfl, rfl, A, hA, h9, h40, q0⟩ := h
  have hrl : (iv rows).length = rows.length := List.length_map _
  have plc : ∀ {σ : L2.St} {te tm : TE} {H' : Hp} {v : V} {m : Int}, Ex H H' → Itm K H v → Ev te σ H' v → Ev tm σ H' (.int m) → EvT (tNot (tB (tCall (sp__law_is_place K) [] E0 (tCons te (tCons tm tNil))))) σ H' (!place v m) := fun {σ te tm H' v m} e hv h1 h2 =>
    et_not (et_B (ev_call (ea_cons h1 (ea_cons h2 ea_nil)) fun H2 e2 Q q E => ⟨_, _, rfl, m, rfl, (hv.mono (e.trans e2)).1, q⟩))
  cases d with
  | come ys =>
    have hq : H q = some (.lst [.str "come", .ref l]) := A.at_
    obtain ⟨hl, hz, hy⟩ := A.ln ys rfl
    refine q_asg (ev_w hq rfl) fun H1 e1 => ?_
    refine q_yes (et_v rfl (by decide +kernel)) fun H2 e2 => ?_
    have e12 := e1.trans e2
    refine q_when (et_test (ev_op (ev_lenLL (hA.mono e12) (ev_var rfl)) ev_c (rv_eq rfl))) (fun h H3 e3 => ?_) fun h H3 e3 => ?_
    · have h := V.int.inj (of_decide_eq_true h)
      have ed : dueE (.come ys) rows.length g = 2 := if_pos (by omega)
      rw [ed] at q0
      exact s_ret ev_c fun H4 e4 => q0 H4 ((e12.trans e3).trans e4)
    · have h := of_decide_eq_false h
      have ed : dueE (.come ys) rows.length g = lineD g ys := if_neg fun z => h (by congr 1; omega)
      rw [ed] at q0
      have e13 := e12.trans e3
      exact s_ret (ev_call (ea_cons (ev_i1 (e13 _ _ hq) rfl) (ea_cons (ev_var rfl) ea_nil)) fun H4 e4 Q q E => ⟨_, _, rfl, l, ys, g, rfl, rfl, sq_of ((e13.trans e4) _ _ hl), fun y m => ((hy y m).mono (e13.trans e4)).1, q⟩) fun H4 e4 => q0 H4 (e13.trans e4)
  | put ys =>
    have hq : H q = some (.lst [.str "put", .ref l]) := A.at_
    obtain ⟨hl, hz, hy⟩ := A.ln ys rfl
    refine q_asg (ev_w hq rfl) fun H1 e1 => ?_
    refine q_no (et_v rfl (by decide +kernel)) fun H2 e2 => ?_
    refine q_yes (et_v rfl (by decide +kernel)) fun H3 e3 => ?_
    have e13 := (e1.trans e2).trans e3
    refine q_when (et_test (ev_op (ev_var rfl) ev_c (rv_eq rfl))) (fun h H4 e4 => ?_) fun h H4 e4 => ?_
    · have h := V.int.inj (of_decide_eq_true h)
      have ed : dueE (.put ys) rows.length g = 2 := if_pos (by omega)
      rw [ed] at q0
      exact s_ret ev_c fun H5 e5 => q0 H5 ((e13.trans e4).trans e5)
    · have h := of_decide_eq_false h
      have ed : dueE (.put ys) rows.length g = lineD rows.length ys := if_neg fun z => h (by congr 1; omega)
      rw [ed] at q0
      have e14 := e13.trans e4
      exact s_ret (ev_call (ea_cons (ev_i1 (e14 _ _ hq) rfl) (ea_cons (ev_is (ev_lenLL (hA.mono e14) (ev_var rfl)) (by rw [hrl])) ea_nil)) fun H5 e5 Q q E => ⟨_, _, rfl, l, ys, _, rfl, rfl, sq_of ((e14.trans e5) _ _ hl), fun y m => ((hy y m).mono (e14.trans e5)).1, q⟩) fun H5 e5 => q0 H5 (e14.trans e5)
  | leave y =>
    have hq : H q = some (.lst [.str "leave", y]) := A.at_
    have hy : Itm K H y := A.it rfl y List.mem_cons_self
    refine q_asg (ev_w hq rfl) fun H1 e1 => q_no (et_v rfl (by decide +kernel)) fun H2 e2 => q_no (et_v rfl (by decide +kernel)) fun H3 e3 => ?_
    have e13 := (e1.trans e2).trans e3
    refine q_when (et_andT (et_orT (et_v rfl (by decide +kernel))) (plc e13 hy (ev_i1 (e13 _ _ hq) rfl) (ev_is (ev_lenLL (hA.mono e13) (ev_var rfl)) (by rw [hrl])))) (fun h H4 e4 => ?_) fun h H4 e4 => ?_
    · have ed : dueE (.leave y) rows.length g = 6 := if_neg fun z => by rw [z] at h; cases h
      rw [ed] at q0
      exact s_ret ev_c fun H5 e5 => q0 H5 ((e13.trans e4).trans e5)
    · have ed : dueE (.leave y) rows.length g = 0 := if_pos (by simpa using h)
      rw [ed] at q0
      refine q_no (et_andF (et_v rfl (by decide +kernel))) fun H5 e5 => q_no (et_andF (et_v rfl (by decide +kernel))) fun H6 e6 => q_no (et_andF (et_v rfl (by decide +kernel))) fun H7 e7 => ?_
      exact s_ret ev_c fun H8 e8 => q0 H8 (((e13.trans e4).trans e5).trans ((e6.trans e7).trans e8))
  | take y =>
    have hq : H q = some (.lst [.str "take", y]) := A.at_
    have hy : Itm K H y := A.it rfl y List.mem_cons_self
    refine q_asg (ev_w hq rfl) fun H1 e1 => q_no (et_v rfl (by decide +kernel)) fun H2 e2 => q_no (et_v rfl (by decide +kernel)) fun H3 e3 => ?_
    have e13 := (e1.trans e2).trans e3
    refine q_no (et_andF (et_orF (et_v rfl (by decide +kernel)) (et_v rfl (by decide +kernel)))) fun H3' e3' => ?_
    have e13 := e13.trans e3'
    refine q_when (et_andT (et_v rfl (by decide +kernel)) (plc e13 hy (ev_i1 (e13 _ _ hq) rfl) (ev_var rfl))) (fun h H4 e4 => ?_) fun h H4 e4 => ?_
    · have ed : dueE (.take y) rows.length g = 7 := if_neg fun z => by rw [z] at h; cases h
      rw [ed] at q0
      exact s_ret ev_c fun H5 e5 => q0 H5 ((e13.trans e4).trans e5)
    · have ed : dueE (.take y) rows.length g = 0 := if_pos (by simpa using h)
      rw [ed] at q0
      refine q_no (et_andF (et_v rfl (by decide +kernel))) fun H5 e5 => q_no (et_andF (et_v rfl (by decide +kernel))) fun H6 e6 => ?_
      exact s_ret ev_c fun H8 e8 => q0 H8 (((e13.trans e4).trans e5).trans (e6.trans e8))
  | bid y z w =>
    have hq : H q = some (.lst [.str "bid", y, z, w]) := A.at_
    have hy : Itm K H y := A.it rfl y List.mem_cons_self
    have hz : Itm K H z := A.it rfl z (List.mem_cons_of_mem _ List.mem_cons_self)
    have hw : Itm K H w := A.it rfl w (List.mem_cons_of_mem _ (List.mem_cons_of_mem _ List.mem_cons_self))
    have hD : dueE (.bid y z w) rows.length g = dueG y z w rows.length g := rfl
    rw [hD] at q0
    unfold dueG at q0
    refine q_asg (ev_w hq rfl) fun H1 e1 => q_no (et_v rfl (by decide +kernel)) fun H2 e2 => q_no (et_v rfl (by decide +kernel)) fun H3 e3 => ?_
    have e13 := (e1.trans e2).trans e3
    refine q_when (et_andT (et_orF (et_v rfl (by decide +kernel)) (et_v rfl (by decide +kernel))) (plc e13 hy (ev_i1 (e13 _ _ hq) rfl) (ev_is (ev_lenLL (hA.mono e13) (ev_var rfl)) (by rw [hrl])))) (fun h H4 e4 => ?_) fun h H4 e4 => ?_
    · rw [if_neg fun z => by rw [z] at h; cases h] at q0
      exact s_ret ev_c fun H5 e5 => q0 H5 ((e13.trans e4).trans e5)
    rw [if_pos (by simpa using h)] at q0
    have e14 := e13.trans e4
    refine q_no (et_andF (et_v rfl (by decide +kernel))) fun H5 e5 => ?_
    have e15 := e14.trans e5
    refine q_when (et_andT (et_v rfl (by decide +kernel)) (plc e15 hz (ev_i2 (e15 _ _ hq) rfl) (ev_var rfl))) (fun h H6 e6 => ?_) fun h H6 e6 => ?_
    · rw [if_neg fun z => by rw [z] at h; cases h] at q0
      exact s_ret ev_c fun H7 e7 => q0 H7 ((e15.trans e6).trans e7)
    rw [if_pos (by simpa using h)] at q0
    have e16 := e15.trans e6
    refine q_when (et_andT (et_v rfl (by decide +kernel)) (et_not (et_B (b := bidOk w) (ev_call (ea_cons (ev_i3 (e16 _ _ hq) rfl) ea_nil) fun H7 e7 Q q E => ⟨_, rfl, (hw.mono (e16.trans e7)).1, q⟩)))) (fun h H7 e7 => ?_) fun h H7 e7 => ?_
    · rw [if_neg fun z => by rw [z] at h; cases h] at q0
      exact s_ret ev_c fun H8 e8 => q0 H8 ((e16.trans e7).trans e8)
    rw [if_pos (by simpa using h)] at q0
    exact s_ret ev_c fun H8 e8 => q0 H8 ((e16.trans e7).trans e8)
  | back =>
    have hq : H q = some (.lst [.str "back"]) := A.at_
    refine q_asg (ev_w hq rfl) fun H1 e1 => q_no (et_v rfl (by decide +kernel)) fun H2 e2 => q_no (et_v rfl (by decide +kernel)) fun H3 e3 => ?_
    refine q_no (et_andF (et_orF (et_v rfl (by decide +kernel)) (et_v rfl (by decide +kernel)))) fun H4 e4 => q_no (et_andF (et_v rfl (by decide +kernel))) fun H5 e5 => q_no (et_andF (et_v rfl (by decide +kernel))) fun H6 e6 => q_no (et_andF (et_v rfl (by decide +kernel))) fun H7 e7 => ?_
    exact s_ret ev_c fun H8 e8 => q0 H8 ((((e1.trans e2).trans e3).trans (e4.trans e5)).trans ((e6.trans e7).trans e8))
end
/-! ### _law_behind -/
abbrev s__law_behind : Stmt := topS 50
theorem sc__law_behind : FnScope ["_law_deed_here", "_law_rows", "_law_word", "_law_found", "_law_row", "_law_i"] ["_law_deed_here", "_law_rows"] (defScope s__law_behind) := ⟨rfl, rfl, rfl, by decide +kernel, rfl, by decide +kernel, by decide +kernel⟩
def sp__law_behind (K : PySem.W.Frag) : Sp := sp2 fun x y H Q => ∃ (ms : List Addr) (q l : Addr) (d : Deed) (a : Addr) (rows : List (List Int)) (g : Nat), x = .ref q ∧ y = .ref a ∧ (∀ c ∈ ms, H c ≠ none) ∧ DeedAt K H q l d ∧ TV (Fs.msk H ms) a (iv rows) ∧ WfT rows g ∧ dueE d rows.length g = 0 ∧ d ≠ .back ∧
  ∀ r H', Ex H H' → TV (Fs.msk H' ms) r (iv (rowsE d rows)) → Q (.ref r) H'
section
variable {P : Program} {w : World} {K : PySem.W.Frag} {mg : Str → Option Value} {base : Heap} {cl : Nat → Addr} {C : Addr}
theorem ok__law_behind (D : DnX K mg "_law_behind" s__law_behind ["_law_deed_here", "_law_rows"]) (B : Bt mg) : Ok P w K mg base CX0 1 "_law_behind" ["_law_deed_here", "_law_rows"] (sp__law_behind K) := by
  refine ok_of D sc__law_behind (fun vs H Q E h => by obtain ⟨_, _, rfl, _⟩ := h; rfl) (fun f cdv A outer s H vs Q E hr h => ⟨_, (pss_cons (ps_set (i := 2) sc__law_behind.nd rfl (Or.inl rfl) (pe_ix (ixL (K := K)) (pv 0) pe_int (fun _ _ => rfl)))
      (pss_cons (ps_if (pt_cmpR op_eq (pv 2) pe_str (nomark _))
        (pss_one (ps_ret (pe_op op_cat (pv 1) (pe_lst (pa_cons (pe_callTy (listK (K := K)) (by rfl) B.list (by decide +kernel) (pa_cons (pe_ix (ixL (K := K)) (pv 0) pe_int (fun _ _ => rfl)) pa_nil)) pa_nil)))))
        pss_nil)
      (pss_cons (ps_if (pt_cmpR op_eq (pv 2) pe_str (nomark _))
        (pss_one (ps_ret (pe_lc (own := [("_law_i", 5)]) rfl sc__law_behind.nd  (pi_range1 (by rfl) B.range (pa_cons (pe_callB (lenK (K := K)) (by rfl) B.len PySem.boot_len (pa_cons (pv 1) pa_nil)) pa_nil)) (blkOk_by (own := [("_law_i", 5)]) (N := ["_law_deed_here", "_law_rows", "_law_word", "_law_found", "_law_row", "_law_i"]) (sc := (defScope s__law_behind)) (by decide +kernel)) (fun _ _ _ _ _ => (pg_name (i := 5) sc__law_behind.nd rfl (Or.inl rfl))) (fun _ _ _ _ _ => (pts_one (pt_cmpR op_ne (pv 5) (pe_ix (ixL (K := K)) (pv 0) pe_int (fun _ _ => rfl)) (nomark _)))) (fun _ _ _ _ _ => (pe_ix (ixL (K := K)) (pv 1) (pv 5) (fun _ _ => rfl))))))
        pss_nil)
      (pss_cons (ps_if (pt_cmpR op_eq (pv 2) pe_str (nomark _))
        (pss_one (ps_ret (pe_lc (own := [("_law_i", 5)]) rfl sc__law_behind.nd  (pi_range1 (by rfl) B.range (pa_cons (pe_callB (lenK (K := K)) (by rfl) B.len PySem.boot_len (pa_cons (pv 1) pa_nil)) pa_nil)) (blkOk_by (own := [("_law_i", 5)]) (N := ["_law_deed_here", "_law_rows", "_law_word", "_law_found", "_law_row", "_law_i"]) (sc := (defScope s__law_behind)) (by decide +kernel)) (fun _ _ _ _ _ => (pg_name (i := 5) sc__law_behind.nd rfl (Or.inl rfl))) (fun _ _ _ _ _ => pts_nil) (fun _ _ _ _ _ => (pe_op op_cat (pe_ix (ixL (K := K)) (pv 1) (pv 5) (fun _ _ => rfl)) (pe_lst (pa_cons (pe_ix (ixL (K := K)) (pe_ix (ixL (K := K)) (pv 0) pe_int (fun _ _ => rfl)) (pv 5) (fun _ _ => rfl)) pa_nil)))))))
        pss_nil)
      (pss_cons (ps_if (pt_cmpR op_eq (pv 2) pe_str (nomark _))
        (pss_one (ps_ret (pe_lc (own := [("_law_row", 4)]) rfl sc__law_behind.nd  (pi_listK (K := K) (pv 1)) (blkOk_by (own := [("_law_row", 4)]) (N := ["_law_deed_here", "_law_rows", "_law_word", "_law_found", "_law_row", "_law_i"]) (sc := (defScope s__law_behind)) (by decide +kernel)) (fun _ _ _ _ _ => (pg_name (i := 4) sc__law_behind.nd rfl (Or.inl rfl))) (fun _ _ _ _ _ => pts_nil) (fun _ _ _ _ _ => (pe_op op_cat (pe_slice (slK (K := K)) (pv 4) po_none (po_some (pe_ix (ixL (K := K)) (pv 0) pe_int (fun _ _ => rfl)))) (pe_slice (slK (K := K)) (pv 4) (po_some (pe_op op_add (pe_ix (ixL (K := K)) (pv 0) pe_int (fun _ _ => rfl)) pe_int)) po_none))))))
        pss_nil)
      (pss_cons (ps_setLc (own := [("_law_row", 4)]) (i := 3) rfl sc__law_behind.nd rfl rfl (sw_true rfl rfl rfl (by decide +kernel))  (pi_listK (K := K) (pv 1)) (blkOk_by (own := [("_law_row", 4)]) (N := ["_law_deed_here", "_law_rows", "_law_word", "_law_found", "_law_row", "_law_i"]) (sc := (defScope s__law_behind)) (by decide +kernel)) (fun _ _ _ _ _ => (pg_name (i := 4) sc__law_behind.nd rfl (Or.inl rfl))) (fun _ _ _ _ _ => pts_nil) (fun _ _ _ _ _ => (pe_callTy (listK (K := K)) (by rfl) B.list (by decide +kernel) (pa_cons (pv 4) pa_nil))))
      (pss_cons (ps_asg (pe_ix (ixL (K := K)) (pv 0) pe_int (fun _ _ => rfl)) (pg_sub (pe_ix (ixL (K := K)) (pv 3) (pe_ix (ixL (K := K)) (pv 0) pe_int (fun _ _ => rfl)) (fun _ _ => rfl)) (pe_ix (ixL (K := K)) (pv 0) pe_int (fun _ _ => rfl)) set_list))
      (pss_one (ps_ret (pv 3)))))))))), ?_⟩)
  obtain ⟨x, y, rfl, ms, q, l, d, a, rows, g, rfl, rfl, kn, A, hT, W, h0, nb, q0⟩ := h
  have hrl := iv_len rows
  obtain ⟨ps, hps, tps⟩ := tv_p hT
  have hps0 : H a = some (.lst (ps.map V.ref)) := msk_le _ _ hps
  have hpl : ps.length = rows.length := by rw [tps.1, hrl]
  have f9 := W.l9
  have knx : ∀ {H' : Hp}, Ex H H' → ∀ {c : Addr}, H' c = none → c ∉ ms := fun {H'} e {c} hc => ne_in (fun a m => ex_kn e (kn a m)) hc
  cases d with
  | come ys =>
    have hq : H q = some (.lst [.str "come", .ref l]) := A.at_
    obtain ⟨hl, hz, hy⟩ := A.ln ys rfl
    refine q_asg (ev_w hq rfl) fun H1 e1 => q_yes (et_v rfl (by decide +kernel)) fun H2 e2 => ?_
    have e12 := e1.trans e2
    refine g_ret (g_catN (ev_var rfl) (e12 _ _ hps0) (el_list (ev_i1 (e12 _ _ hq) rfl) (sq_of (e12 _ _ hl))) (by rw [List.length_map]; omega) fun n r H3 hn hr e3 h3 h4 => q0 n H3 (e12.trans e3) ?_)
    have ey := (ints_int (lineD_zero (dueC_zero h0).2).2).1
    refine tv_of (ps := ps ++ [r]) ?_ ?_
    · rw [msk_at (knx e12 hn), h4, List.map_append]
      rfl
    · show TVp _ _ (iv (rows ++ [ys.map intOf]))
      rw [iv_app, ← ey]
      exact (tps.mono (Ex.msk (e12.trans e3))).app (TVp.one (by rw [msk_at (knx e12 hr)]; exact h3))
  | leave y =>
    have hq : H q = some (.lst [.str "leave", y]) := A.at_
    obtain ⟨k, rfl, hk⟩ := place_int (place_if h0)
    refine q_asg (ev_w hq rfl) fun H1 e1 => q_no (et_v rfl (by decide +kernel)) fun H2 e2 => q_yes (et_v rfl (by decide +kernel)) fun H3 e3 => ?_
    have e13 := (e1.trans e2).trans e3
    have sqa : ∀ {H' : Hp}, Ex H H' → SqL K H' a (ps.map V.ref) := fun e => sq_of (e _ _ hps0)
    refine s_retL (el_rng (n := (ps.map V.ref).length) (fun i => !decide (i = k)) (fun i => (ps.map V.ref).getD i .non) (ea_cons (ev_len (ev_var rfl) (sqa e13)) ea_nil) (by rw [List.length_map]; omega) (fun _ => rfl) (fun i H4 e4 hi => et_is (et_test (ev_op (ev_var rfl) (ev_i1 ((e13.trans e4) _ _ hq) rfl) (rv_ne rfl))) ?_) fun i H4 e4 hi _ => ev_op (ev_var rfl) (ev_var rfl) (rv_ixL (sqa (e13.trans e4)) (at_k (getD_at hi)))) fun n H4 hn e4 h4 => ?_
    · congr 1
      exact decide_eq_decide.mpr ⟨fun h => by have := V.int.inj h; omega, fun h => by rw [h]⟩
    rw [but_k] at h4
    refine q0 n H4 (e13.trans e4) (tv_of (ps := ps.take k ++ ps.drop (k + 1)) ?_ ?_)
    · rw [msk_at (knx e13 hn), h4, List.map_append, List.map_take, List.map_drop]
    · have e : iv (rowsE (.leave (.int (k : Int))) rows) = (iv rows).take k ++ (iv rows).drop (k + 1) := by
        show List.map _ (List.take k rows ++ List.drop (k + 1) rows) = _
        rw [List.map_append, List.map_take, List.map_drop]
      rw [e]
      have t1 := tps.mono (Ex.msk (e13.trans e4))
      exact (t1.take k).app (t1.drop (k + 1))
  | put ys =>
    have hq : H q = some (.lst [.str "put", .ref l]) := A.at_
    obtain ⟨hl, hz, hy⟩ := A.ln ys rfl
    obtain ⟨ey, _⟩ := ints_int (lineD_zero (dueP_zero h0).2).2
    have hyl : ys.length = rows.length := by
      have := (lineD_zero (dueP_zero h0).2).1
      omega
    refine q_asg (ev_w hq rfl) fun H1 e1 => q_no (et_v rfl (by decide +kernel)) fun H2 e2 => q_no (et_v rfl (by decide +kernel)) fun H3 e3 => q_yes (et_v rfl (by decide +kernel)) fun H4 e4 => ?_
    have e14 := ((e1.trans e2).trans e3).trans e4
    have hpm : (putM rows (ys.map intOf)).length = rows.length := by
      unfold putM
      rw [List.length_zipWith, List.length_map, hyl, Nat.min_self]
    refine g_ret (en_rng (n := rows.length) (ys := iv (putM rows (ys.map intOf))) (ea_cons (ev_is (ev_len (ev_var rfl) (sq_of (e14 _ _ hps0))) (by rw [List.length_map, hpl])) ea_nil) (by omega) (by rw [iv_len, hpm]) (fun _ => rfl) (fun i z H5 hi hz5 e5 => ?_) H4 (Ex.refl _) _ fun n bs H5 L e5 => q0 n H5 (e14.trans e5) (LNew.msk L fun b m => ex_kn e14 (kn b m)))
    have e15 := e14.trans e5
    have hip : ps[i]? = some ps[i] := List.getElem?_eq_getElem (by omega)
    have hrow := e15 _ _ (msk_le _ _ (tps.2 i _ _ hip (iv_at hi)))
    have hyi : ys[i]? = some (ys.getD i .non) := by simp [List.getD_eq_getElem?_getD, show i < ys.length by omega]
    have hci : (ys.map intOf)[i]? = some (intOf (ys.getD i .non)) := by rw [List.getElem?_map, hyi]; rfl
    have ez : z = rows[i].map V.int ++ [ys.getD i .non] := by
      have hz5 : ((putM rows (ys.map intOf)).map (·.map V.int))[i]? = some z := hz5
      rw [List.getElem?_map, putM_at hi hci] at hz5
      obtain rfl := Option.some.inj hz5
      have e1 : V.int (intOf (ys.getD i .non)) = ys.getD i .non := by
        have h1 : ((ys.map intOf).map V.int)[i]? = some (V.int (intOf (ys.getD i .non))) := by rw [List.getElem?_map, hci]; rfl
        rw [← ey, hyi] at h1
        exact (Option.some.inj h1).symm
      show (rows[i] ++ [intOf (ys.getD i .non)]).map V.int = _
      rw [List.map_append]
      show _ ++ [V.int (intOf (ys.getD i .non))] = _
      rw [e1]
    rw [ez]
    have fr := W.few.2 _ (List.getElem_mem hi)
    exact el_catV (ev_op (ev_var rfl) (ev_var rfl) (rv_ixL (sq_of (e15 _ _ hps0)) (at_k (by rw [List.getElem?_map, hip]; rfl)))) hrow (el_lst (ea_cons (ev_op (ev_i1 (e15 _ _ hq) rfl) (ev_var rfl) (rv_ixL (sq_of (e15 _ _ hl)) (at_k hyi))) ea_nil) (by show 1 ≤ 100000; decide)) (by rw [List.length_map]; show _ + 1 ≤ _; omega)
  | take y =>
    have hq : H q = some (.lst [.str "take", y]) := A.at_
    obtain ⟨k, rfl, hk⟩ := place_int (place_if h0)
    refine q_asg (ev_w hq rfl) fun H1 e1 => q_no (et_v rfl (by decide +kernel)) fun H2 e2 => q_no (et_v rfl (by decide +kernel)) fun H3 e3 => q_no (et_v rfl (by decide +kernel)) fun H4 e4 => q_yes (et_v rfl (by decide +kernel)) fun H5 e5 => ?_
    have e15 := (((e1.trans e2).trans e3).trans e4).trans e5
    refine g_ret (en_ys (xs := ps) (enc := V.ref) (ys := iv (takeM rows k)) (ev_var rfl) (sq_of (e15 _ _ hps0)) (by omega) (by rw [iv_len, hpl]; exact List.length_map _) (fun _ => rfl) (fun i u z H6 hi hz6 e6 => ?_) H5 (Ex.refl _) _ fun n bs H6 L e6 => q0 n H6 (e15.trans e6) (LNew.msk L fun b m => ex_kn e15 (kn b m)))
    have e16 := e15.trans e6
    have hil : i < rows.length := by
      have := (List.getElem?_eq_some_iff.mp hi).1
      omega
    have hu : SqL K H6 u (rows[i].map V.int) := sq_of (e16 _ _ (msk_le _ _ (tps.2 i u _ hi (iv_at hil))))
    have ez : z = (rows[i].map V.int).take k ++ (rows[i].map V.int).drop (k + 1) := by
      have hz6 : ((rows.map fun r => r.take k ++ r.drop (k + 1)).map (·.map V.int))[i]? = some z := hz6
      rw [List.getElem?_map, List.getElem?_map, List.getElem?_eq_getElem hil] at hz6
      obtain rfl := Option.some.inj hz6
      show (rows[i].take k ++ rows[i].drop (k + 1)).map V.int = _
      rw [List.map_append, List.map_take, List.map_drop]
    rw [ez]
    have fr := W.few.2 _ (List.getElem_mem hil)
    have d1 : ∀ {σ : L2.St}, σ[0]? = some (some (.ref q)) → Ev (tOp (rIxL K) (tVar 0) (tC (.int 1))) σ H6 (.int (k : Int)) := fun h0 => ev_i1 (e16 _ _ hq) h0
    exact el_cat (el_slT (ev_var rfl) hu (d1 rfl)) (el_slF (k := k + 1) (ev_var rfl) hu (ev_is (ev_op (d1 rfl) ev_c rv_I0) (by congr 1))) (by rw [List.length_take, List.length_drop, List.length_map]; omega)
  | bid y z w =>
    have hq : H q = some (.lst [.str "bid", y, z, w]) := A.at_
    obtain ⟨a1, a2, a3⟩ := dueG_zero h0
    obtain ⟨i, rfl, hi⟩ := place_int a1
    obtain ⟨j, rfl, hj⟩ := place_int a2
    obtain ⟨v, rfl, hv⟩ := bid_int a3
    refine q_asg (ev_w hq rfl) fun H1 e1 => q_no (et_v rfl (by decide +kernel)) fun H2 e2 => q_no (et_v rfl (by decide +kernel)) fun H3 e3 => q_no (et_v rfl (by decide +kernel)) fun H4 e4 => q_no (et_v rfl (by decide +kernel)) fun H5 e5 => ?_
    have e15 := (((e1.trans e2).trans e3).trans e4).trans e5
    refine q_asgN (en_copy (ev_var rfl) ((hT.mono msk_le).mono e15).lv (by rw [hrl]; omega) (fun _ => rfl) (fun _ => rfl)) fun fp bs H6 L e6 => ?_
    have e16 := e15.trans e6
    have hbl : bs.length = rows.length := by rw [L.len, hrl]
    have hib : bs[i]? = some bs[i] := List.getElem?_eq_getElem (by omega)
    have hbi := (L.at_ i _ _ hib (iv_at hi)).2
    have hw := W.len _ (List.getElem_mem hi)
    refine q_setL hbi (ev_i3 (e16 _ _ hq) rfl) (ev_op (ev_var rfl) (ev_i1 (e16 _ _ hq) rfl) (rv_ixL (sq_of L.top) (at_k (by rw [List.getElem?_map, hib]; rfl)))) (ev_i2 (e16 _ _ hq) rfl) (by rw [List.length_map]; omega) fun H7 e7 => ?_
    have L7 := (L.ext e7).app (y' := (rows[i].map V.int).set j (.int v)) hib (iv_at hi)
    have e8 := (L.ext e7).exm (o := .lst ((rows[i].map V.int).set j (.int v))) hib (e6.trans e7)
    refine s_ret (ev_var rfl) fun H8 e9 => q0 fp H8 (e15.trans (e8.trans e9)) ?_
    have e0 : rows.getD i [] = rows[i] := by simp [List.getD_eq_getElem?_getD, hi]
    have er : iv (rowsE (.bid (.int (i : Int)) (.int (j : Int)) (.int v)) rows) = (iv rows).set i ((rows[i].map V.int).set j (.int v)) := by
      show List.map _ (setM rows i j v) = _
      rw [setM_set hi, List.map_set, e0, List.map_set]
    rw [er]
    exact LNew.msk (L7.ext e9) fun b m => ex_kn e15 (kn b m)
  | back => exact absurd rfl nb
end
/-! ### _law_do -/
abbrev s__law_do : Stmt := topS 51
theorem sc__law_do : FnScope ["_law_table", "_law_deed_here"] ["_law_table", "_law_deed_here"] (defScope s__law_do) := ⟨rfl, rfl, rfl, by decide +kernel, rfl, by decide +kernel, by decide +kernel⟩
def sp__law_do (K : PySem.W.Frag) (C : Addr) (cl : Nat → Addr) : Sp := sp2X fun x y H Q E => ∃ (ms : List Addr) (p b q l : Addr) (d : Deed) (rows : List (List Int)) (g : Nat) (past : Past), x = .ref p ∧ y = .ref q ∧ TabAt C ms H p b rows g past ∧ WfT rows g ∧ DeedAt K H q l d ∧ past.length < 90000 ∧
  (dueE d rows.length g = 0 → ∀ H', Ex (Fs.msk H [p, b]) H' → TabAt C ms H' p b (nextE d rows g past).1 (nextE d rows g past).2.1 (nextE d rows g past).2.2 → Q (ansE d past) H') ∧ (dueE d rows.length g ≠ 0 → ∀ H', Ex H H' → E (.ref (cl (dueE d rows.length g))) none H')
section
variable {P : Program} {w : World} {K : PySem.W.Frag} {mg : Str → Option Value} {base : Heap} {cl : Nat → Addr} {C : Addr}
theorem ok__law_do (D : DnX K mg "_law_do" s__law_do ["_law_table", "_law_deed_here"]) (B : Bt mg) (T : TabC K mg C) (h_Table_back : OkM P w K mg base CX0 1 C "back" ["self"] (sp_Table_back K C)) (h_Table_come : OkM P w K mg base (L2.CX P w) 4 C "come" ["self", "row"] (sp_Table_come K C cl)) (h_Table_leave : OkM P w K mg base (L2.CX P w) 4 C "leave" ["self", "person"] (sp_Table_leave K C cl)) (h_Table_put : OkM P w K mg base (L2.CX P w) 4 C "put" ["self", "column"] (sp_Table_put K C cl)) (h_Table_take : OkM P w K mg base (L2.CX P w) 4 C "take" ["self", "good"] (sp_Table_take K C cl)) (h_Table_bid : OkM P w K mg base (L2.CX P w) 4 C "bid" ["self", "person", "good", "amount"] (sp_Table_bid K C cl)) : Ok P w K mg base (L2.CX P w) 5 "_law_do" ["_law_table", "_law_deed_here"] (sp__law_do K C cl) := by
  refine okX_of D sc__law_do (fun vs H Q E h => by obtain ⟨_, _, rfl, _⟩ := h; rfl) (fun f cdv A outer s H vs Q E hr h => ⟨_, (pss_cons (ps_if (pt_cmpR op_eq (pe_ix (ixL (K := K)) (pv 1) pe_int (fun _ _ => rfl)) pe_str (nomark _))
        (pss_one (ps_ret (pe_okM h_Table_come T hr (pv 0) (passes_call (takes_of rfl rfl rfl rfl) (fun _ _ _ _ h => h)) (pa_cons (pe_ix (ixL (K := K)) (pv 1) pe_int (fun _ _ => rfl)) pa_nil))))
        pss_nil)
      (pss_cons (ps_if (pt_cmpR op_eq (pe_ix (ixL (K := K)) (pv 1) pe_int (fun _ _ => rfl)) pe_str (nomark _))
        (pss_one (ps_ret (pe_okM h_Table_leave T hr (pv 0) (passes_call (takes_of rfl rfl rfl rfl) (fun _ _ _ _ h => h)) (pa_cons (pe_ix (ixL (K := K)) (pv 1) pe_int (fun _ _ => rfl)) pa_nil))))
        pss_nil)
      (pss_cons (ps_if (pt_cmpR op_eq (pe_ix (ixL (K := K)) (pv 1) pe_int (fun _ _ => rfl)) pe_str (nomark _))
        (pss_one (ps_ret (pe_okM h_Table_put T hr (pv 0) (passes_call (takes_of rfl rfl rfl rfl) (fun _ _ _ _ h => h)) (pa_cons (pe_ix (ixL (K := K)) (pv 1) pe_int (fun _ _ => rfl)) pa_nil))))
        pss_nil)
      (pss_cons (ps_if (pt_cmpR op_eq (pe_ix (ixL (K := K)) (pv 1) pe_int (fun _ _ => rfl)) pe_str (nomark _))
        (pss_one (ps_ret (pe_okM h_Table_take T hr (pv 0) (passes_call (takes_of rfl rfl rfl rfl) (fun _ _ _ _ h => h)) (pa_cons (pe_ix (ixL (K := K)) (pv 1) pe_int (fun _ _ => rfl)) pa_nil))))
        pss_nil)
      (pss_cons (ps_if (pt_cmpR op_eq (pe_ix (ixL (K := K)) (pv 1) pe_int (fun _ _ => rfl)) pe_str (nomark _))
        (pss_one (ps_ret (pe_okM h_Table_bid T hr (pv 0) (passes_call (takes_of rfl rfl rfl rfl) (fun _ _ _ _ h => h)) (pa_cons (pe_ix (ixL (K := K)) (pv 1) pe_int (fun _ _ => rfl)) (pa_cons (pe_ix (ixL (K := K)) (pv 1) pe_int (fun _ _ => rfl)) (pa_cons (pe_ix (ixL (K := K)) (pv 1) pe_int (fun _ _ => rfl)) pa_nil))))))
        pss_nil)
      (pss_one (ps_ret (pe_okM0 h_Table_back T (hr.mono (by decide)) (pv 0) pass0)))))))), ?_⟩)
  obtain ⟨x, y, rfl, ms, p, b, q, l, d, rows, g, past, rfl, rfl, A, W, D0, hpl, q0, qe⟩ := h
  obtain ⟨⟨dx, r, hp, hr⟩, _⟩ := id A
  have nm : ∀ {m : Str}, ¬ m = "_rows" → ¬ m = "_goods" → ¬ m = "_before" → (fldT r b g).lookup m = none := fldT_no r b g
  cases d with
  | come ys =>
    have hq : H q = some (.lst [.str "come", .ref l]) := D0.at_
    obtain ⟨hl, hz, hy⟩ := D0.ln ys rfl
    refine q_yes (et_w hq rfl (by decide +kernel)) fun H1 e1 => ?_
    refine g_ret (g_meth (ev_var rfl) (e1 _ _ hp) (nm (by decide +kernel) (by decide +kernel) (by decide +kernel)) fun H2 e2 => ea_cons (ev_i1 ((e1.trans e2) _ _ hq) rfl) ea_nil H2 (Ex.refl _) _ fun H3 e3 => ?_)
    have e13 := (e1.trans e2).trans e3
    refine ⟨_, _, rfl, ms, p, b, l, rows, g, past, ys, rfl, rfl, A.mono e13, sq_of (e13 _ _ hl), fun y m => ((hy y m).mono e13).1, hpl, fun h0 r0 hr0 H4 e4 A4 => q0 h0 H4 ((Ex.msk e13).trans e4) ?_, fun h0 H4 e4 => qe h0 H4 (e13.trans e4)⟩
    show TabAt C ms H4 p b (rows ++ [ys.map intOf]) g (past ++ [(rows, g)])
    rw [hr0, int_of_map]
    exact A4
  | leave y =>
    have hq : H q = some (.lst [.str "leave", y]) := D0.at_
    have hy : Itm K H y := D0.it rfl y List.mem_cons_self
    refine q_no (et_w hq rfl (by decide +kernel)) fun H0 e0 => q_yes (et_w (e0 _ _ hq) rfl (by decide +kernel)) fun H1 e1' => ?_
    have e1 := e0.trans e1'
    refine g_ret (g_meth (ev_var rfl) (e1 _ _ hp) (nm (by decide +kernel) (by decide +kernel) (by decide +kernel)) fun H2 e2 => ea_cons (ev_i1 ((e1.trans e2) _ _ hq) rfl) ea_nil H2 (Ex.refl _) _ fun H3 e3 => ?_)
    have e13 := (e1.trans e2).trans e3
    refine ⟨_, _, rfl, ms, p, b, rows, g, past, rfl, A.mono e13, W.few, (hy.mono e13).1, hpl, fun i hi hil H4 e4 A4 => ?_, fun h0 H4 e4 => ?_⟩
    · subst hi
      refine q0 (if_pos (decide_eq_true (by omega))) H4 ((Ex.msk e13).trans e4) ?_
      show TabAt C ms H4 p b (rows.take ((i : Int)).toNat ++ rows.drop (((i : Int)).toNat + 1)) g (past ++ [(rows, g)])
      rw [Int.toNat_natCast]
      exact A4
    · have ed : dueE (.leave y) rows.length g = 6 := if_neg (by rw [h0]; decide)
      rw [ed] at qe
      exact qe (by decide) H4 (e13.trans e4)
  | put ys =>
    have hq : H q = some (.lst [.str "put", .ref l]) := D0.at_
    obtain ⟨hl, hz, hy⟩ := D0.ln ys rfl
    refine q_no (et_w hq rfl (by decide +kernel)) fun H0 e0 => q_no (et_w (e0 _ _ hq) rfl (by decide +kernel)) fun H0' e0' => q_yes (et_w ((e0.trans e0') _ _ hq) rfl (by decide +kernel)) fun H1 e1' => ?_
    have e1 := (e0.trans e0').trans e1'
    refine g_ret (g_meth (ev_var rfl) (e1 _ _ hp) (nm (by decide +kernel) (by decide +kernel) (by decide +kernel)) fun H2 e2 => ea_cons (ev_i1 ((e1.trans e2) _ _ hq) rfl) ea_nil H2 (Ex.refl _) _ fun H3 e3 => ?_)
    have e13 := (e1.trans e2).trans e3
    refine ⟨_, _, rfl, ms, p, b, l, rows, g, past, ys, rfl, rfl, A.mono e13, W.few, sq_of (e13 _ _ hl), fun y m => ((hy y m).mono e13).1, hpl, fun h0 r0 hr0 H4 e4 A4 => q0 h0 H4 ((Ex.msk e13).trans e4) ?_, fun h0 H4 e4 => qe h0 H4 (e13.trans e4)⟩
    show TabAt C ms H4 p b (putM rows (ys.map intOf)) (g + 1) (past ++ [(rows, g)])
    rw [hr0, int_of_map]
    exact A4
  | take y =>
    have hq : H q = some (.lst [.str "take", y]) := D0.at_
    have hy : Itm K H y := D0.it rfl y List.mem_cons_self
    refine q_no (et_w hq rfl (by decide +kernel)) fun H0 e0 => q_no (et_w (e0 _ _ hq) rfl (by decide +kernel)) fun H0' e0' => q_no (et_w ((e0.trans e0') _ _ hq) rfl (by decide +kernel)) fun H0'' e0'' => q_yes (et_w (((e0.trans e0').trans e0'') _ _ hq) rfl (by decide +kernel)) fun H1 e1' => ?_
    have e1 := ((e0.trans e0').trans e0'').trans e1'
    refine g_ret (g_meth (ev_var rfl) (e1 _ _ hp) (nm (by decide +kernel) (by decide +kernel) (by decide +kernel)) fun H2 e2 => ea_cons (ev_i1 ((e1.trans e2) _ _ hq) rfl) ea_nil H2 (Ex.refl _) _ fun H3 e3 => ?_)
    have e13 := (e1.trans e2).trans e3
    refine ⟨_, _, rfl, ms, p, b, rows, g, past, rfl, A.mono e13, W.few, (hy.mono e13).1, hpl, fun i hi hil H4 e4 A4 => ?_, fun h0 H4 e4 => ?_⟩
    · subst hi
      refine q0 (if_pos (decide_eq_true (by omega))) H4 ((Ex.msk e13).trans e4) ?_
      show TabAt C ms H4 p b (takeM rows ((i : Int)).toNat) (g - 1) (past ++ [(rows, g)])
      rw [Int.toNat_natCast]
      exact A4
    · have ed : dueE (.take y) rows.length g = 7 := if_neg (by rw [h0]; decide)
      rw [ed] at qe
      exact qe (by decide) H4 (e13.trans e4)
  | bid y z w =>
    have hq : H q = some (.lst [.str "bid", y, z, w]) := D0.at_
    have hy : Itm K H y := D0.it rfl y List.mem_cons_self
    have hz : Itm K H z := D0.it rfl z (List.mem_cons_of_mem _ List.mem_cons_self)
    have hw : Itm K H w := D0.it rfl w (List.mem_cons_of_mem _ (List.mem_cons_of_mem _ List.mem_cons_self))
    refine q_no (et_w hq rfl (by decide +kernel)) fun H0 e0 => q_no (et_w (e0 _ _ hq) rfl (by decide +kernel)) fun H0' e0' => q_no (et_w ((e0.trans e0') _ _ hq) rfl (by decide +kernel)) fun H0'' e0'' => q_no (et_w (((e0.trans e0').trans e0'') _ _ hq) rfl (by decide +kernel)) fun H0t e0t => q_yes (et_w ((((e0.trans e0').trans e0'').trans e0t) _ _ hq) rfl (by decide +kernel)) fun H1 e1' => ?_
    have e1 := (((e0.trans e0').trans e0'').trans e0t).trans e1'
    refine g_ret (g_meth (ev_var rfl) (e1 _ _ hp) (nm (by decide +kernel) (by decide +kernel) (by decide +kernel)) fun H2 e2 => ea_cons (ev_i1 ((e1.trans e2) _ _ hq) rfl) (ea_cons (ev_i2 ((e1.trans e2) _ _ hq) rfl) (ea_cons (ev_i3 ((e1.trans e2) _ _ hq) rfl) ea_nil)) H2 (Ex.refl _) _ fun H3 e3 => ?_)
    have e13 := (e1.trans e2).trans e3
    refine ⟨_, _, _, _, rfl, ms, p, b, rows, g, past, rfl, A.mono e13, W.few, W.len, (hy.mono e13).1, (hz.mono e13).1, (hw.mono e13).1, hpl, fun i j v hi hj hv hil hjl hvl H4 e4 A4 => ?_, fun h0 H4 e4 => qe h0 H4 (e13.trans e4)⟩
    subst hi hj hv
    have hd : dueE (.bid (.int i) (.int j) (.int v)) rows.length g = 0 := by
      show dueG _ _ _ _ _ = 0
      unfold dueG
      rw [if_pos (show place (.int (i : Int)) rows.length = true from decide_eq_true (by omega)), if_pos (show place (.int (j : Int)) g = true from decide_eq_true (by omega)), if_pos (show bidOk (.int v) = true from decide_eq_true hvl)]
    refine q0 hd H4 ((Ex.msk e13).trans e4) ?_
    show TabAt C ms H4 p b (setM rows ((i : Int)).toNat ((j : Int)).toNat v) g (past ++ [(rows, g)])
    rw [Int.toNat_natCast, Int.toNat_natCast]
    exact A4
  | back =>
    have hq : H q = some (.lst [.str "back"]) := D0.at_
    refine q_no (et_w hq rfl (by decide +kernel)) fun H0 e0 => q_no (et_w (e0 _ _ hq) rfl (by decide +kernel)) fun H0' e0' => q_no (et_w ((e0.trans e0') _ _ hq) rfl (by decide +kernel)) fun H0'' e0'' => q_no (et_w (((e0.trans e0').trans e0'') _ _ hq) rfl (by decide +kernel)) fun H0t e0t => q_no (et_w ((((e0.trans e0').trans e0'').trans e0t) _ _ hq) rfl (by decide +kernel)) fun H1 e1' => ?_
    have e1 := (((e0.trans e0').trans e0'').trans e0t).trans e1'
    refine g_ret (g_meth (ev_var rfl) (e1 _ _ hp) (nm (by decide +kernel) (by decide +kernel) (by decide +kernel)) fun H2 e2 => g_nil ?_)
    have e12 := e1.trans e2
    refine ⟨_, rfl, ms, p, b, rows, g, past, rfl, A.mono e12, fun hn H3 e3 => ?_, fun past' x hx H3 e3 A3 => ?_⟩
    · subst hn
      exact q0 rfl H3 (msk_le.trans (e12.trans e3)) (A.mono (e12.trans e3))
    · subst hx
      have := q0 rfl H3 ((Ex.msk e12).trans e3) (by rw [next_back]; exact A3)
      rwa [ans_back] at this
end
/-! ### _law_told -/
abbrev s__law_told : Stmt := topS 52
theorem sc__law_told : FnScope ["_law_table", "_law_deed_here"] ["_law_table", "_law_deed_here"] (defScope s__law_told) := ⟨rfl, rfl, rfl, by decide +kernel, rfl, by decide +kernel, by decide +kernel⟩
def sp__law_told (K : PySem.W.Frag) (C : Addr) : Sp := sp2 fun x y H Q => ∃ (ms : List Addr) (p b q l : Addr) (d : Deed) (rows : List (List Int)) (g : Nat) (past : Past), x = .ref p ∧ y = .ref q ∧ TabAt C ms H p b rows g past ∧ WfT rows g ∧ DeedAt K H q l d ∧ past.length < 90000 ∧
  (dueE d rows.length g = 0 → ∀ H', Ex (Fs.msk H [p, b]) H' → TabAt C ms H' p b (nextE d rows g past).1 (nextE d rows g past).2.1 (nextE d rows g past).2.2 → Q (ansE d past) H') ∧ (dueE d rows.length g ≠ 0 → RetV (.str (nameE (dueE d rows.length g))) H Q)
section
variable {P : Program} {w : World} {K : PySem.W.Frag} {mg : Str → Option Value} {base : Heap} {cl : Nat → Addr} {C : Addr}
theorem ok__law_told (D : DnX K mg "_law_told" s__law_told ["_law_table", "_law_deed_here"]) (B : Bt mg) (T : TabC K mg C) (x_TooMany : ExC K mg "TooMany" (cl 2)) (x_Uneven : ExC K mg "Uneven" (cl 3)) (x_BadBid : ExC K mg "BadBid" (cl 4)) (x_NoPerson : ExC K mg "NoPerson" (cl 6)) (x_NoGood : ExC K mg "NoGood" (cl 7)) (xm : ExM K cl [1, 2, 3, 4, 6, 7]) (h__law_do : Ok P w K mg base (L2.CX P w) 5 "_law_do" ["_law_table", "_law_deed_here"] (sp__law_do K C cl)) : Ok P w K mg base CX0 6 "_law_told" ["_law_table", "_law_deed_here"] (sp__law_told K C) := by
  refine ok_of D sc__law_told (fun vs H Q E h => by obtain ⟨_, _, rfl, _⟩ := h; rfl) (fun f cdv A outer s H vs Q E hr h => ⟨_, (pss_one (ps_try_many rfl rfl takes0 (fun W pn xe tk po =>
        (pss_one (ps_ret (pe_okS h__law_do hr (by rfl) (fun σ => passAt tk σ) (pa_cons (pv 0) (pa_cons (pv 1) pa_nil))))))
        (HdsOk.cons ⟨rfl, by decide, .inl x_TooMany.g⟩ (fun a oe cls d pn _ _ => (pss_one (ps_ret pe_str))) (HdsOk.cons ⟨rfl, by decide, .inl x_Uneven.g⟩ (fun a oe cls d pn _ _ => (pss_one (ps_ret pe_str))) (HdsOk.cons ⟨rfl, by decide, .inl x_BadBid.g⟩ (fun a oe cls d pn _ _ => (pss_one (ps_ret pe_str))) (HdsOk.cons ⟨rfl, by decide, .inl x_NoPerson.g⟩ (fun a oe cls d pn _ _ => (pss_one (ps_ret pe_str))) (HdsOk.cons ⟨rfl, by decide, .inl x_NoGood.g⟩ (fun a oe cls d pn _ _ => (pss_one (ps_ret pe_str))) HdsOk.nil))))))), ?_⟩)
  obtain ⟨x, y, rfl, ms, p, b, q, l, d, rows, g, past, rfl, rfl, A, W, D0, hpl, q0, qe⟩ := h
  refine g_ret (g_callS (ea_cons (ev_var rfl) (ea_cons (ev_var rfl) ea_nil)) fun H1 e1 => ⟨_, _, rfl, ms, p, b, q, l, d, rows, g, past, rfl, rfl, A.mono e1, W, D0.mono e1, hpl, fun h0 H2 e2 A2 => q0 h0 H2 ((Ex.msk e1).trans e2) A2, fun h0 H2 e2 => ?_⟩)
  have qe := qe h0
  have hn := dueE_in d rows.length g
  generalize dueE d rows.length g = n at qe h0 hn
  have e12 := e1.trans e2
  have hn5 : n = 2 ∨ n = 3 ∨ n = 4 ∨ n = 6 ∨ n = 7 := by omega
  have hm : n ∈ [1, 2, 3, 4, 6, 7] := by
    simp only [List.mem_cons, List.not_mem_nil, or_false]
    omega
  refine ⟨_, xm.m n hm 2 (by decide), fun hb a ha => ?_, fun hb2 => ?_⟩
  · rw [of_decide_eq_true hb] at qe
    exact s_ret ev_c fun H3 e3 => qe H3 (e12.trans e3)
  refine ⟨_, xm.m n hm 3 (by decide), fun hb a ha => ?_, fun hb3 => ?_⟩
  · rw [of_decide_eq_true hb] at qe
    exact s_ret ev_c fun H3 e3 => qe H3 (e12.trans e3)
  refine ⟨_, xm.m n hm 4 (by decide), fun hb a ha => ?_, fun hb4 => ?_⟩
  · rw [of_decide_eq_true hb] at qe
    exact s_ret ev_c fun H3 e3 => qe H3 (e12.trans e3)
  refine ⟨_, xm.m n hm 6 (by decide), fun hb a ha => ?_, fun hb6 => ?_⟩
  · rw [of_decide_eq_true hb] at qe
    exact s_ret ev_c fun H3 e3 => qe H3 (e12.trans e3)
  refine ⟨_, xm.m n hm 7 (by decide), fun hb a ha => ?_, fun hb7 => ?_⟩
  · rw [of_decide_eq_true hb] at qe
    exact s_ret ev_c fun H3 e3 => qe H3 (e12.trans e3)
  have := of_decide_eq_false hb2
  have := of_decide_eq_false hb3
  have := of_decide_eq_false hb4
  have := of_decide_eq_false hb6
  have := of_decide_eq_false hb7
  omega
end
/-! ### _law_deal_of -/
abbrev s__law_deal_of : Stmt := topS 53
theorem sc__law_deal_of : FnScope ["_law_table", "_law_rooms"] ["_law_table", "_law_rooms"] (defScope s__law_deal_of) := ⟨rfl, rfl, rfl, by decide +kernel, rfl, by decide +kernel, by decide +kernel⟩
def sp__law_deal_of (K : PySem.W.Frag) (C : Addr) : Sp := sp2 fun x y H Q => ∃ (ms : List Addr) (p b : Addr) (rows : List (List Int)) (g : Nat) (past : Past) (r : Bool), x = .ref p ∧ y = .bl r ∧ TabAt C ms H p b rows g past ∧ WfT rows g ∧
  (dueQ r rows g = 0 → ∀ pd hp sp hps H2, DNew H H2 pd hp sp hps (heapsQ r rows g) (payQ r rows g) → Ex H H2 → Q (.ref pd) H2) ∧ (dueQ r rows g ≠ 0 → RetV (.str (nameQ (dueQ r rows g))) H Q)
section
variable {P : Program} {w : World} {K : PySem.W.Frag} {mg : Str → Option Value} {base : Heap} {cl : Nat → Addr} {C : Addr}
theorem ok__law_deal_of (D : DnX K mg "_law_deal_of" s__law_deal_of ["_law_table", "_law_rooms"]) (B : Bt mg) (T : TabC K mg C) (x_NoPeople : ExC K mg "NoPeople" (cl 1)) (x_TooMany : ExC K mg "TooMany" (cl 2)) (xm : ExM K cl [1, 2, 3, 4, 6, 7]) (h_Table_in_heaps : OkM P w K mg base (L2.CX P w) 6 C "in_heaps" ["self"] (sp_Table_in_heaps K C cl)) (h_Table_in_rooms : OkM P w K mg base (L2.CX P w) 6 C "in_rooms" ["self"] (sp_Table_in_rooms K C cl)) : Ok P w K mg base CX0 7 "_law_deal_of" ["_law_table", "_law_rooms"] (sp__law_deal_of K C) := by
  refine ok_of D sc__law_deal_of (fun vs H Q E h => by obtain ⟨_, _, rfl, _⟩ := h; rfl) (fun f cdv A outer s H vs Q E hr h => ⟨_, (pss_one (ps_try_many rfl rfl takes0 (fun W pn xe tk po =>
        (pss_cons (ps_if (pt_val (pv 1))
          (pss_one (ps_ret (pe_okMS0 h_Table_in_rooms T hr (pv 0) (fun σ => passAt tk σ))))
          pss_nil)
        (pss_one (ps_ret (pe_okMS0 h_Table_in_heaps T hr (pv 0) (fun σ => passAt tk σ))))))
        (HdsOk.cons ⟨rfl, by decide, .inl x_TooMany.g⟩ (fun a oe cls d pn _ _ => (pss_one (ps_ret pe_str))) (HdsOk.cons ⟨rfl, by decide, .inl x_NoPeople.g⟩ (fun a oe cls d pn _ _ => (pss_one (ps_ret pe_str))) HdsOk.nil)))), ?_⟩)
  obtain ⟨x, y, rfl, ms, p, b, rows, g, past, r, rfl, rfl, A, W, q, qe⟩ := h
  obtain ⟨⟨dx, r0, hp, hr⟩, _⟩ := id A
  have nm : ∀ {m : Str}, ¬ m = "_rows" → ¬ m = "_goods" → ¬ m = "_before" → (fldT r0 b g).lookup m = none := fldT_no r0 b g
  have hn := dueQ_in r rows g
  cases r with
  | true =>
    refine q_yes (et_B (ev_var rfl)) fun H1 e1 => ?_
    refine g_ret (g_methS (ev_var rfl) (e1 _ _ hp) (nm (by decide +kernel) (by decide +kernel) (by decide +kernel)) fun H2 e2 => ⟨_, rfl, ms, p, b, rows, g, past, rfl, A.mono (e1.trans e2), W, fun h0 pd hp sp hps H3 D e3 => q h0 pd hp sp hps H3 (D.back (e1.trans e2)) ((e1.trans e2).trans e3), fun h0 H3 e3 => ?_⟩)
    have qe := qe h0
    generalize dueQ true rows g = n at qe h0 hn
    have e13 := (e1.trans e2).trans e3
    have hm : n ∈ [1, 2, 3, 4, 6, 7] := by
      simp only [List.mem_cons, List.not_mem_nil, or_false]
      omega
    refine ⟨_, xm.m n hm 2 (by decide), fun hb a ha => ?_, fun hb2 => ?_⟩
    · rw [of_decide_eq_true hb] at qe
      exact s_ret ev_c fun H3 e3 => qe H3 (e13.trans e3)
    refine ⟨_, xm.m n hm 1 (by decide), fun hb a ha => ?_, fun hb3 => ?_⟩
    · rw [of_decide_eq_true hb] at qe
      exact s_ret ev_c fun H3 e3 => qe H3 (e13.trans e3)
    have := of_decide_eq_false hb2
    have := of_decide_eq_false hb3
    omega
  | false =>
    refine q_no (et_B (ev_var rfl)) fun H1 e1 => ?_
    refine g_ret (g_methS (ev_var rfl) (e1 _ _ hp) (nm (by decide +kernel) (by decide +kernel) (by decide +kernel)) fun H2 e2 => ⟨_, rfl, ms, p, b, rows, g, past, rfl, A.mono (e1.trans e2), W, fun h0 pd hp sp hps H3 D e3 => q h0 pd hp sp hps H3 (D.back (e1.trans e2)) ((e1.trans e2).trans e3), fun h0 H3 e3 => ?_⟩)
    have qe := qe h0
    generalize dueQ false rows g = n at qe h0 hn
    have e13 := (e1.trans e2).trans e3
    have hm : n ∈ [1, 2, 3, 4, 6, 7] := by
      simp only [List.mem_cons, List.not_mem_nil, or_false]
      omega
    refine ⟨_, xm.m n hm 2 (by decide), fun hb a ha => ?_, fun hb2 => ?_⟩
    · rw [of_decide_eq_true hb] at qe
      exact s_ret ev_c fun H3 e3 => qe H3 (e13.trans e3)
    refine ⟨_, xm.m n hm 1 (by decide), fun hb a ha => ?_, fun hb3 => ?_⟩
    · rw [of_decide_eq_true hb] at qe
      exact s_ret ev_c fun H3 e3 => qe H3 (e13.trans e3)
    have := of_decide_eq_false hb2
    have := of_decide_eq_false hb3
    omega
end
/-! ### _law_by_bids -/
abbrev s__law_by_bids : Stmt := topS 54
theorem sc__law_by_bids : FnScope ["_law_rows", "_law_goods", "_law_heaps_here", "_law_good", "_law_worths", "_law_best", "_law_i", "_law_row", "_law_one"] ["_law_rows", "_law_goods"] (defScope s__law_by_bids) := ⟨rfl, rfl, rfl, by decide +kernel, rfl, by decide +kernel, by decide +kernel⟩
def sp__law_by_bids (K : PySem.W.Frag) : Sp := sp2 fun x y H Q => ∃ (a : Addr) (rows : List (List Int)) (m : Nat), x = .ref a ∧ y = .int (m : Int) ∧ LL K H a rows ∧ Bids rows m ∧ ∀ p hp sp hps H2, DNew H H2 p hp sp hps (heapsM rows m) (payM rows (heapsM rows m)) → Ex H H2 → Q (.ref p) H2
section
variable {P : Program} {w : World} {K : PySem.W.Frag} {mg : Str → Option Value} {base : Heap} {cl : Nat → Addr} {C : Addr}
theorem ok__law_by_bids (D : DnX K mg "_law_by_bids" s__law_by_bids ["_law_rows", "_law_goods"]) (B : Bt mg) (h__law_worth : Ok P w K mg base CX0 1 "_law_worth" ["_law_row", "_law_heap"] (sp__law_worth K)) : Ok P w K mg base CX0 2 "_law_by_bids" ["_law_rows", "_law_goods"] (sp__law_by_bids K) := by
  refine ok_of D sc__law_by_bids (fun vs H Q E h => by obtain ⟨_, _, rfl, _⟩ := h; rfl) (fun f cdv A outer s H vs Q E hr h => ⟨_, (pss_cons (ps_set (i := 2) sc__law_by_bids.nd rfl (Or.inr rfl) (pe_lc (own := [("_law_row", 7)]) rfl sc__law_by_bids.nd  (pi_listK (K := K) (pv 0)) (blkOk_by (own := [("_law_row", 7)]) (N := ["_law_rows", "_law_goods", "_law_heaps_here", "_law_good", "_law_worths", "_law_best", "_law_i", "_law_row", "_law_one"]) (sc := (defScope s__law_by_bids)) (by decide +kernel)) (fun _ _ _ _ _ => (pg_name (i := 7) sc__law_by_bids.nd rfl (Or.inl rfl))) (fun _ _ _ _ _ => pts_nil) (fun _ _ _ _ _ => (pe_lst pa_nil))))
      (pss_cons (ps_for PassesOwn.never rfl (pi_range1 (by rfl) B.range (pa_cons (pv 1) pa_nil)) (pg_name (i := 3) sc__law_by_bids.nd rfl (Or.inl rfl))
        (pss_cons (ps_set (i := 5) sc__law_by_bids.nd rfl (Or.inl rfl) pe_int)
        (pss_cons (ps_for PassesOwn.never rfl (pi_range1 (by rfl) B.range (pa_cons (pe_callB (lenK (K := K)) (by rfl) B.len PySem.boot_len (pa_cons (pv 0) pa_nil)) pa_nil)) (pg_name (i := 6) sc__law_by_bids.nd rfl (Or.inl rfl))
          (pss_one (ps_if (pt_cmpR op_gt (pe_ix (ixL (K := K)) (pe_ix (ixL (K := K)) (pv 0) (pv 6) (fun _ _ => rfl)) (pv 3) (fun _ _ => rfl)) (pe_ix (ixL (K := K)) (pe_ix (ixL (K := K)) (pv 0) (pv 5) (fun _ _ => rfl)) (pv 3) (fun _ _ => rfl)) (nomark _))
            (pss_one (ps_set (i := 5) sc__law_by_bids.nd rfl (Or.inl rfl) (pv 6)))
            pss_nil)))
        (pss_one (ps_expr (pe_bm PySem.F.plainAttrs_list PySem.F.slot_list_append PySem.F.type_list_append mt_append (pe_ix (ixL (K := K)) (pv 2) (pv 5) (fun _ _ => rfl)) (pa_cons (pv 3) pa_nil)))))))
      (pss_cons (ps_set (i := 4) sc__law_by_bids.nd rfl (Or.inr rfl) (pe_lc (own := [("_law_i", 6)]) rfl sc__law_by_bids.nd  (pi_range1 (by rfl) B.range (pa_cons (pe_callB (lenK (K := K)) (by rfl) B.len PySem.boot_len (pa_cons (pv 0) pa_nil)) pa_nil)) (blkOk_by (own := [("_law_i", 6)]) (N := ["_law_rows", "_law_goods", "_law_heaps_here", "_law_good", "_law_worths", "_law_best", "_law_i", "_law_row", "_law_one"]) (sc := (defScope s__law_by_bids)) (by decide +kernel)) (fun _ _ _ _ _ => (pg_name (i := 6) sc__law_by_bids.nd rfl (Or.inl rfl))) (fun _ _ _ _ _ => pts_nil) (fun _ _ _ _ _ => (pe_ok h__law_worth hr (by rfl) pass0 (pa_cons (pe_ix (ixL (K := K)) (pv 0) (pv 6) (fun _ _ => rfl)) (pa_cons (pe_ix (ixL (K := K)) (pv 2) (pv 6) (fun _ _ => rfl)) pa_nil))))))
      (pss_one (ps_ret (pe_tup (pa_cons (pv 2) (pa_cons (pe_lc (own := [("_law_one", 8)]) rfl sc__law_by_bids.nd  (pi_listK (K := K) (pv 4)) (blkOk_by (own := [("_law_one", 8)]) (N := ["_law_rows", "_law_goods", "_law_heaps_here", "_law_good", "_law_worths", "_law_best", "_law_i", "_law_row", "_law_one"]) (sc := (defScope s__law_by_bids)) (by decide +kernel)) (fun _ _ _ _ _ => (pg_name (i := 8) sc__law_by_bids.nd rfl (Or.inl rfl))) (fun _ _ _ _ _ => pts_nil) (fun _ _ _ _ _ => (pe_op op_sub (pe_op op_mul (pv 8) (pe_callB (lenK (K := K)) (by rfl) B.len PySem.boot_len (pa_cons (pv 0) pa_nil))) (pe_callB (sumK (K := K) rfl) (by rfl) B.sum (by decide +kernel) (pa_cons (pv 4) pa_nil))))) pa_nil)))))))), ?_⟩)
  obtain ⟨x, y, rfl, a, rows, m, rfl, rfl, hA, hb, q⟩ := h
  have ll := iv_len rows
  have l9 := hb.l9
  have hne := hb.ne
  have h40 := hb.m40
  obtain ⟨as, hAs, hAl, _⟩ := id hA
  refine q_asgN (ys := iv (List.replicate rows.length [])) (en_ys (xs := as) (enc := V.ref) (ev_var rfl) hAs (by omega) (by rw [List.length_map, List.length_replicate]; omega) (fun _ => rfl) fun i x y H5 hi hy e5 => ?_) fun hp hps H1 L1 e1 => ?_
  · have ey : y = [] := by
      rw [List.getElem?_map, List.getElem?_replicate] at hy
      split at hy
      · exact (Option.some.inj hy).symm
      · cases hy
    rw [ey]
    exact el_lst ea_nil (by decide)
  have h0 : Hps H H1 hp hps (heapsM rows 0) rows.length m 0 := by
    have e0 : heapsM rows 0 = List.replicate rows.length [] := by
      refine List.ext_getElem (by simp [heapsM]) fun k h1 h2 => ?_
      simp [heapsM]
    rw [e0]
    exact ⟨L1, e1, by simp, fun h hh => by rw [(List.mem_replicate.mp hh).2]; exact fun g hg => (by cases hg), by simp⟩
  refine q_forR1 (n := m) (ea_cons (ev_var rfl) ea_nil) ⟨by omega, by omega⟩ (fun i σ H' => ∃ z3 z5 z6 : Option V, σ = [some (.ref a), some (.int (m : Int)), some (.ref hp), z3, none, z5, z6, none, none] ∧ Hps H H' hp hps (heapsM rows i) rows.length m i) (fun H2 e2 => ⟨none, none, none, rfl, h0.ext e2⟩) ?_ ?_
  · rintro i σ' H' hi ⟨z3, z5, z6, rfl, hH⟩
    have hi : i < m := by omega
    refine q_asg (v := .int ((0 : Nat) : Int)) ev_c fun H2 e2 => ?_
    have hA2 := hA.mono (hH.ex.trans e2)
    refine q_forR1 (n := (rows.length : Int)) (ea_cons (ev_is (ev_lenLL hA2 (ev_var rfl)) (by rw [ll])) ea_nil) ⟨by omega, by omega⟩ (fun j σ H3 => ∃ (bst : Nat) (z6 : Option V), σ = [some (.ref a), some (.int (m : Int)), some (.ref hp), some (.int (i : Int)), none, some (.int (bst : Int)), z6, none, none] ∧ Ex H' H3 ∧ bst < rows.length ∧ bst ≤ j ∧ ∀ k, k < j → bidAt rows k i ≤ bidAt rows bst i ∧ (bidAt rows k i = bidAt rows bst i → bst ≤ k))
      (fun H3 e3 => ⟨0, z6, rfl, e2.trans e3, hne, Nat.le_refl _, fun k hk => by omega⟩) ?_ ?_
    · rintro j σ' H3 hj ⟨bst, z6, rfl, e3, hbl, hbj, hall⟩
      have hj : j < rows.length := by omega
      have hA3 := hA.mono (hH.ex.trans e3)
      have cell : ∀ {σ : L2.St} {tb : TE} {H4 : Hp} {k : Nat}, Ex H3 H4 → k < rows.length → σ[0]? = some (some (.ref a)) → σ[3]? = some (some (.int (i : Int))) → Ev tb σ H4 (.int (k : Int)) → Ev (tOp (rIxL K) (tOp (rIxL K) (tVar 0) tb) (tVar 3)) σ H4 (.int (bidAt rows k i)) := fun {σ tb H4 k} e hk h0 h3 ht => by
        obtain ⟨p, hp1, hp2⟩ := ev_row (σ := σ) (ta := tVar 0) (tb := tb) (hA3.mono e) hk (ev_var h0) ht
        exact ev_op hp1 (ev_var h3) (rv_ixL hp2 (at_ints (i := (i : Int)) (by omega) (by rw [hb.at_ hk]; omega)))
      refine s_when (et_test (ev_op (cell (Ex.refl _) hj rfl rfl (ev_var rfl)) (cell (Ex.refl _) hbl rfl rfl (ev_var rfl)) rv_I0)) (fun hc H4 e4 => ?_) fun hc H4 e4 => ⟨bst, some (.int (j : Int)), rfl, e3.trans e4, hbl, by omega, fun k hk => ?_⟩
      · have hgt := of_decide_eq_true hc
        refine s_asg (ev_var rfl) fun H5 e5 => ⟨j, some (.int (j : Int)), rfl, (e3.trans e4).trans e5, hj, by omega, fun k hk => ?_⟩
        by_cases z : k = j
        · subst z
          exact ⟨Int.le_refl _, fun _ => Nat.le_refl _⟩
        · have := (hall k (by omega)).1
          exact ⟨by omega, fun h => by omega⟩
      · have hle := of_decide_eq_false hc
        by_cases z : k = j
        · subst z
          exact ⟨by omega, fun _ => by omega⟩
        · exact hall k (by omega)
    · rintro σ' H3 ⟨bst, z6, rfl, e3, hbl, hbj, hall⟩
      rw [Int.toNat_natCast] at hall
      have hf : firstB rows bst i = true := firstB_iff.mpr hall
      obtain ⟨p, hp1, hp2, happ⟩ := hH.app (i := bst) (j := i) hbl hi
      have hl : ((heapsM rows i).getD bst []).length ≤ 1000 := by
        rw [heapsM_at hbl, List.length_map]
        have := List.length_filter_le (firstB rows bst) (List.range i)
        rw [List.length_range] at this
        omega
      refine s_app (e3 _ _ hp2) (ev_op (ev_var rfl) (ev_var rfl) (rv_ixL (sq_of (e3 _ _ hH.L.top)) (at_refs hp1))) (ev_var rfl) (by rw [List.length_map]; omega) fun H4 e4 => ?_
      have := happ H4 (e3.trans e4)
      rw [heapsM_succ hbl hf] at this
      exact ⟨_, _, _, rfl, this⟩
  rintro σ' H2 ⟨z3, z5, z6, rfl, hH⟩
  rw [Int.toNat_natCast] at hH
  have F := heaps_fit hb
  have L2 := hH.L
  have e2 := hH.ex
  have hA2 := hA.mono e2
  have hpl := L2.len
  rw [List.length_map, heapsM_len] at hpl
  refine q_asgL (xs := (ownM rows (heapsM rows m)).map V.int) ?_ fun wp H3 hwp e3 hw => ?_
  · have er : (ownM rows (heapsM rows m)).map V.int = (List.range rows.length).map fun i => V.int (worthM (rows.getD i []) ((heapsM rows m).getD i [])) := by
      unfold ownM
      rw [List.map_map]
      rfl
    rw [er]
    refine el_rngA (n := rows.length) _ (ea_cons (ev_is (ev_lenLL hA2 (ev_var rfl)) (by rw [ll])) ea_nil) (by omega) (fun _ => rfl) fun i H4 e4 hi => ?_
    obtain ⟨p, hp1, hp2⟩ := ev_row (σ := [some (.ref a), some (.int (m : Int)), some (.ref hp), z3, none, z5, some (.int (i : Int)), none, none]) (ta := tVar 0) (tb := tVar 6) (hA2.mono e4) hi (ev_var rfl) (ev_var rfl)
    obtain ⟨r, hr1, hr2⟩ := ev_row (K := K) (σ := [some (.ref a), some (.int (m : Int)), some (.ref hp), z3, none, z5, some (.int (i : Int)), none, none]) (ta := tVar 2) (tb := tVar 6) (i := i) (rows := heapsM rows m) ((L2.ext e4).lv (K := K)) (by rw [heapsM_len]; exact hi) (ev_var rfl) (ev_var rfl)
    exact ev_call (ea_cons hp1 (ea_cons hr1 ea_nil)) fun H5 e5 Q q E => ⟨_, _, rfl, p, r, _, _, rfl, rfl, ex_l e5 hp2, ex_l e5 hr2, by rw [hb.at_ hi]; exact F.at_ hi, q⟩
  refine g_ret (g_tup (g_cons (ev_var rfl H3 (Ex.refl _) _ fun H4 e4 => g_cons (el_all (xs := ownM rows (heapsM rows m)) (enc := V.int) (fun o => .int (o * rows.length - (ownM rows (heapsM rows m)).sum)) (ev_var rfl) (sq_of (e4 _ _ hw)) (by rw [ownM_len]; omega) (fun _ => rfl) (fun o ho H5 e5 => ?_) H4 (Ex.refl _) _ fun sp H5 hsp e5 hs => g_nil ⟨sz_of (by show 2 ≤ 100000; omega), fun p hpn => ?_⟩))))
  · refine ev_is (ev_op (ev_op (ev_var rfl) (ev_lenLL (hA2.mono ((e3.trans e4).trans e5)) (ev_var rfl)) (rv_I (mulR (by rw [ll]; omega)))) (ev_cb (ea_cons (ev_var rfl) ea_nil) fun H6 e6 Q q => ⟨wp, _, rfl, sq_of ((e4.trans (e5.trans e6)) _ _ hw), q H6 (Ex.refl _)⟩) rv_I0) (by rw [ll])
  have e25 := (e3.trans e4).trans e5
  have x1 := Ex.new (o := .tup [V.ref hp, V.ref sp]) hpn
  have hs' : H5 sp = some (.lst ((payM rows (heapsM rows m)).map V.int)) := by
    rw [hs]
    unfold payM
    rw [List.map_map]
    rfl
  refine q p hp sp hps _ ⟨fresh_back (e2.trans e25) hpn, L2.ext (e25.trans x1), fresh_back ((e2.trans e3).trans e4) hsp, x1 _ _ hs', upd_same, fun mem => ?_⟩ ((e2.trans e25).trans x1)
  have h2s : H2 sp = none := fresh_back (e3.trans e4) hsp
  obtain ⟨_, zs, hz⟩ := L2.out sp mem
  rw [h2s] at hz
  cases hz
end
/-! ### _law_fair -/
abbrev s__law_fair : Stmt := topS 55
theorem sc__law_fair : FnScope ["_law_table", "_law_rows", "_law_goods", "_law_rooms", "_law_found", "_law_heap", "_law_sizes", "_law_row"] ["_law_table", "_law_rows", "_law_goods", "_law_rooms"] (defScope s__law_fair) := ⟨rfl, rfl, rfl, by decide +kernel, rfl, by decide +kernel, by decide +kernel⟩
def sp__law_fair (K : PySem.W.Frag) (C : Addr) (cl : Nat → Addr) : Sp := sp4X fun x y z u H Q E => ∃ (ms : List Addr) (p b a : Addr) (rows : List (List Int)) (g : Nat) (past : Past) (r : Bool), x = .ref p ∧ y = .ref a ∧ z = .int (g : Int) ∧ u = .bl r ∧ TabAt C ms H p b rows g past ∧ TV H a (iv rows) ∧ WfT rows g ∧ ∀ H', Ex H H' → Q (.bl true) H'
theorem heaps_1 {r : Bool} {rows : List (List Int)} {g : Nat} (h : r = true) : ∀ x ∈ heapsQ r rows g, x.length ≤ 1 := by
  unfold heapsQ
  rw [if_pos h]
  exact heapsR_one rows g
theorem ev_strs {K : PySem.W.Frag} {σ : L2.St} {H : Hp} {i : Nat} {x : Str} (h : σ[i]? = some (some (.str x))) (hs : SeqAt.shaped (.str x) = true) : Ev (tOp (rEqD K) (tVar i) (tC (.str x))) σ H (.bl true) := ev_op (ev_var h) ev_c (rv_eqR (d := .str x) hs (.str _) (.str _))
section
variable {P : Program} {w : World} {K : PySem.W.Frag} {mg : Str → Option Value} {base : Heap} {cl : Nat → Addr} {C : Addr}
theorem ok__law_fair (D : DnX K mg "_law_fair" s__law_fair ["_law_table", "_law_rows", "_law_goods", "_law_rooms"]) (B : Bt mg) (T : TabC K mg C) (h__law_deal_of : Ok P w K mg base CX0 7 "_law_deal_of" ["_law_table", "_law_rooms"] (sp__law_deal_of K C)) (h__law_envied : Ok P w K mg base CX0 2 "_law_envied" ["_law_bids", "_law_heaps_here", "_law_sums"] (sp__law_envied K)) (h__law_deal : Ok P w K mg base CX0 3 "_law_deal" ["_law_found", "_law_people", "_law_goods"] (sp__law_deal K)) (h__law_by_bids : Ok P w K mg base CX0 2 "_law_by_bids" ["_law_rows", "_law_goods"] (sp__law_by_bids K)) (h_in_rooms_rooms : Ok P w K mg base (L2.CX P w) 5 "in_rooms_rooms" ["bids"] (sp_in_rooms K cl)) : Ok P w K mg base (L2.CX P w) 8 "_law_fair" ["_law_table", "_law_rows", "_law_goods", "_law_rooms"] (sp__law_fair K C cl) := by
  refine okX_of D sc__law_fair (fun vs H Q E h => by obtain ⟨_, _, _, _, rfl, _⟩ := h; rfl) (fun f cdv A outer s H vs Q E hr h => ⟨_, (pss_cons (ps_set (i := 4) sc__law_fair.nd rfl (Or.inl rfl) (pe_ok h__law_deal_of hr (by rfl) pass0 (pa_cons (pv 0) (pa_cons (pv 3) pa_nil))))
      (pss_cons (ps_if (pt_cmpR (eqK (K := K) hr.units) (pv 1) (pe_lst pa_nil) (nomark _))
        (pss_one (ps_ret (pe_cmpR (eqK (K := K) hr.units) (pv 4) pe_str (nomark _))))
        pss_nil)
      (pss_cons (ps_if (PW.pt (pw_and (pt_val (pv 3)) (pw_and1 (pt_cmpR op_gt (pv 2) (pe_callB (lenK (K := K)) (by rfl) B.len PySem.boot_len (pa_cons (pv 1) pa_nil)) (nomark _)))))
        (pss_one (ps_ret (pe_cmpR (eqK (K := K) hr.units) (pv 4) pe_str (nomark _))))
        pss_nil)
      (pss_cons (ps_if (PW.pt (pw_or (pt_not (pt_val (pe_ok h__law_deal (hr.mono (by decide)) (by rfl) pass0 (pa_cons (pv 4) (pa_cons (pe_callB (lenK (K := K)) (by rfl) B.len PySem.boot_len (pa_cons (pv 1) pa_nil)) (pa_cons (pv 2) pa_nil)))))) (pw_or1 (pt_val (pe_ok h__law_envied (hr.mono (by decide)) (by rfl) pass0 (pa_cons (pv 1) (pa_cons (pe_ix (ixT (K := K)) (pv 4) pe_int (fun _ _ => rfl)) (pa_cons (pe_ix (ixT (K := K)) (pv 4) pe_int (fun _ _ => rfl)) pa_nil))))))))
        (pss_one (ps_ret pe_bl))
        pss_nil)
      (pss_cons (ps_if (PW.pt (pw_and (pt_not (pt_val (pv 3))) (pw_and1 (pt_cmpR (neK (K := K) hr.units) (pv 4) (pe_ok h__law_by_bids (hr.mono (by decide)) (by rfl) pass0 (pa_cons (pv 1) (pa_cons (pv 2) pa_nil))) (nomark _)))))
        (pss_one (ps_ret pe_bl))
        pss_nil)
      (pss_cons (ps_if (PW.pt (pw_and (pt_val (pv 3)) (pw_and1 (pt_cmpR (neK (K := K) hr.units) (pv 4) (pe_okS h_in_rooms_rooms (hr.mono (by decide)) (by rfl) (fun σ => passAt (takes_of rfl rfl rfl rfl) σ) (pa_cons (pe_lc (own := [("_law_row", 7)]) rfl sc__law_fair.nd  (pi_listK (K := K) (pv 1)) (blkOk_by (own := [("_law_row", 7)]) (N := ["_law_table", "_law_rows", "_law_goods", "_law_rooms", "_law_found", "_law_heap", "_law_sizes", "_law_row"]) (sc := (defScope s__law_fair)) (by decide +kernel)) (fun _ _ _ _ _ => (pg_name (i := 7) sc__law_fair.nd rfl (Or.inl rfl))) (fun _ _ _ _ _ => pts_nil) (fun _ _ _ _ _ => (pe_callTy (listK (K := K)) (by rfl) B.list (by decide +kernel) (pa_cons (pv 7) pa_nil)))) pa_nil)) (nomark _)))))
        (pss_one (ps_ret pe_bl))
        pss_nil)
      (pss_cons (ps_for (passes_of rfl) rfl (pi_listK (K := K) (pe_ix (ixT (K := K)) (pv 4) pe_int (fun _ _ => rfl))) (pg_name (i := 5) sc__law_fair.nd rfl (Or.inl rfl))
        (pss_one (ps_if (PW.pt (pw_and (pt_val (pv 3)) (pw_and1 (pt_cmpR op_gt (pe_callB (lenK (K := K)) (by rfl) B.len PySem.boot_len (pa_cons (pv 5) pa_nil)) pe_int (nomark _)))))
          (pss_one (ps_ret pe_bl))
          pss_nil)))
      (pss_cons (ps_setLc (own := [("_law_heap", 5)]) (i := 6) rfl sc__law_fair.nd rfl rfl (sw_true rfl rfl rfl (by decide +kernel))  (pi_listK (K := K) (pe_ix (ixT (K := K)) (pv 4) pe_int (fun _ _ => rfl))) (blkOk_by (own := [("_law_heap", 5)]) (N := ["_law_table", "_law_rows", "_law_goods", "_law_rooms", "_law_found", "_law_heap", "_law_sizes", "_law_row"]) (sc := (defScope s__law_fair)) (by decide +kernel)) (fun _ _ _ _ _ => (pg_name (i := 5) sc__law_fair.nd rfl (Or.inl rfl))) (fun _ _ _ _ _ => pts_nil) (fun _ _ _ _ _ => (pe_callB (lenK (K := K)) (by rfl) B.len PySem.boot_len (pa_cons (pv 5) pa_nil))))
      (pss_cons (ps_for (passes_of rfl) rfl (pi_listK (K := K) (pe_ix (ixT (K := K)) (pv 4) pe_int (fun _ _ => rfl))) (pg_name (i := 5) sc__law_fair.nd rfl (Or.inl rfl))
        (pss_one (ps_expr (pe_bm PySem.F.plainAttrs_list PySem.F.slot_list_append PySem.F.type_list_append mt_append (pv 5) (pa_cons (pe_callB (lenK (K := K)) (by rfl) B.len PySem.boot_len (pa_cons (pv 1) pa_nil)) pa_nil)))))
      (pss_cons (ps_asg (pe_op op_add (pe_ix (ixL (K := K)) (pe_ix (ixT (K := K)) (pv 4) pe_int (fun _ _ => rfl)) pe_int (fun _ _ => rfl)) pe_int) (pg_sub (pe_ix (ixT (K := K)) (pv 4) pe_int (fun _ _ => rfl)) pe_int set_list))
      (pss_one (ps_ret (pe_cmpR (eqK (K := K) hr.units) (pv 6) (pe_lc (own := [("_law_heap", 5)]) rfl sc__law_fair.nd  (pi_listK (K := K) (pe_ix (ixT (K := K)) (pv 4) pe_int (fun _ _ => rfl))) (blkOk_by (own := [("_law_heap", 5)]) (N := ["_law_table", "_law_rows", "_law_goods", "_law_rooms", "_law_found", "_law_heap", "_law_sizes", "_law_row"]) (sc := (defScope s__law_fair)) (by decide +kernel)) (fun _ _ _ _ _ => (pg_name (i := 5) sc__law_fair.nd rfl (Or.inl rfl))) (fun _ _ _ _ _ => pts_nil) (fun _ _ _ _ _ => (pe_op op_sub (pe_callB (lenK (K := K)) (by rfl) B.len PySem.boot_len (pa_cons (pv 5) pa_nil)) pe_int))) (nomark _)))))))))))))), ?_⟩)
  obtain ⟨x, y, z, u, rfl, ms, p, b, a, rows, g, past, r, rfl, rfl, rfl, rfl, A, hT, W, q⟩ := h
  have hrl := iv_len rows
  have itm : ∀ {H' : Hp}, ∀ ys ∈ iv rows, ∀ y ∈ ys, Itm K H' y := fun {H'} ys m y hy => by
    obtain ⟨z, _, rfl⟩ := List.mem_map.mp m
    exact itm_ints z y hy
  have nil : ∀ {σ : L2.St} {H' : Hp}, Ex H H' → σ[1]? = some (some (.ref a)) → EvT (tTest (tOp (rEqD K) (tVar 1) (tLst tNil))) σ H' (decide (rows.length = 0)) := fun e h => et_is (et_test (ev_none (ev_var h) (hT.mono e).lv itm)) (by rw [hrl])
  have more : ∀ {σ : L2.St} {H' : Hp}, Ex H H' → σ[1]? = some (some (.ref a)) → σ[2]? = some (some (.int (g : Int))) → σ[3]? = some (some (.bl r)) → EvT (tAnd (tB (tVar 3)) (tTest (tOp (rI0 fun i j => .bl (decide (i > j))) (tVar 2) (tCB (rLenS K) (tCons (tVar 1) tNil))))) σ H' (r && decide (rows.length < g)) := fun e h1 h2 h3 =>
    et_and (et_B (ev_var h3)) fun _ => et_is (et_test (ev_op (ev_var h2) (ev_is (ev_lenLL (hT.mono e).lv (ev_var h1)) (by rw [hrl])) rv_I0)) (decide_eq_decide.mpr (by omega))
  refine q_set (g_call (ea_cons (ev_var rfl) (ea_cons (ev_var rfl) ea_nil) H (Ex.refl _) _ fun H1 e1 => ⟨_, _, rfl, ms, p, b, rows, g, past, r, rfl, rfl, A.mono e1, W, fun h0 pd hp sp hps H2 D e2 => ?_, fun h0 H2 e2 => ?_⟩))
  · have nr := dueQ_ne h0
    have hpos : 0 < rows.length := List.length_pos_iff.mpr nr
    have hB := W.bids hpos
    have F := fairQ W h0
    have h1x := heaps_1 (r := r) (rows := rows) (g := g)
    have hgr : (r && decide (rows.length < g)) = false := by
      unfold dueQ at h0
      rw [if_neg nr] at h0
      by_cases z : r = true ∧ rows.length < g
      · rw [if_pos z] at h0; cases h0
      · cases r with
        | false => rfl
        | true => rw [Bool.true_and]; exact decide_eq_false fun y => z ⟨rfl, y⟩
    have hQb : r = false → heapsQ r rows g = heapsM rows g ∧ payQ r rows g = payM rows (heapsM rows g) := fun h => by rw [h]; exact ⟨rfl, rfl⟩
    have hQr : r = true → heapsQ r rows g = heapsR rows g ∧ payQ r rows g = payR rows g := fun h => by rw [h]; exact ⟨rfl, rfl⟩
    generalize hhs : heapsQ r rows g = hs at D F h1x hQb hQr
    generalize hss : payQ r rows g = ss at D F hQb hQr
    have D0 := D.back e1
    have e12 := e1.trans e2
    have g40 := W.g40
    have l9 := W.l9
    have hl := F.fit.hl
    have sl := F.fit.sl
    refine q_no (et_is (nil e12 rfl) (decide_eq_false (by omega))) fun H3 e3 => ?_
    refine q_no (et_is (more (e12.trans e3) rfl rfl rfl) hgr) fun H4 e4 => ?_
    have e24 := e3.trans e4
    have D4 := D0.ext e24
    have e04 := e12.trans e24
    have p0 : ∀ {H' : Hp} {σ : L2.St}, Ex H4 H' → σ[4]? = some (some (.ref pd)) → Ev (tOp (rIxT K) (tVar 4) (tC (.int 0))) σ H' (.ref hp) := fun e h => ev_op (ev_var h) ev_c (rv_ixT (st_of (e _ _ D4.t)) (at_k (k := 0) rfl))
    have p1 : ∀ {H' : Hp} {σ : L2.St}, Ex H4 H' → σ[4]? = some (some (.ref pd)) → Ev (tOp (rIxT K) (tVar 4) (tC (.int 1))) σ H' (.ref sp) := fun e h => ev_op (ev_var h) ev_c (rv_ixT (st_of (e _ _ D4.t)) (at_k (k := 1) rfl))
    refine q_no (et_orF (et_is (et_not (et_B (ev_is (ev_call (ea_cons (ev_var rfl) (ea_cons (ev_is (ev_lenLL (hT.mono e04).lv (ev_var rfl)) (by rw [hrl])) (ea_cons (ev_var rfl) ea_nil))) fun H5 e5 Q q E => ⟨_, _, _, rfl, pd, hp, sp, iv hs, ss, rows.length, g, rfl, rfl, rfl, e5 _ _ D4.t, D4.L.tv.mono e5, any_flat hs, e5 _ _ D4.s, by omega, q⟩) (by rw [F.deal])))) rfl)
      (et_B (ev_is (ev_call (ea_cons (ev_var rfl) (ea_cons (p0 (Ex.refl _) rfl) (ea_cons (p1 (Ex.refl _) rfl) ea_nil))) fun H5 e5 Q q E => ⟨_, _, _, rfl, a, hp, sp, rows, g, hs, ss, rfl, rfl, rfl, (hT.mono (e04.trans e5)).lv, hB, (D4.ext e5).L.lv, sq_of (e5 _ _ D4.s), F.fit, q⟩) (by rw [F.fair])))) fun H5 e5 => ?_
    have e05 := e04.trans e5
    refine q_no ?_ fun H6 e6 => ?_
    · cases hr : r with
      | true => exact et_andF (et_is (et_not (et_B (ev_var rfl))) rfl)
      | false =>
        obtain ⟨q1, q2⟩ := hQb hr
        refine et_andT (et_is (et_not (et_B (ev_var rfl))) rfl) (et_test fun H6 e6 Q k => g_op (ev_var rfl H6 (Ex.refl _) _ fun H7 e7 => g_call (ea_cons (ev_var rfl) (ea_cons (ev_var rfl) ea_nil) H7 (Ex.refl _) _ fun H8 e8 => ⟨_, _, rfl, a, rows, g, rfl, rfl, (hT.mono (((e05.trans e6).trans e7).trans e8)).lv, hB, fun p2 hp2 sp2 hps2 H9 D2 e9 => ?_⟩)))
        rw [← q2, ← q1] at D2
        exact rv_neDeal (D4.at_.mono (((e5.trans e6).trans e7).trans (e8.trans e9))) D2.at_ H9 (Ex.refl _) _ fun H10 e10 => k H10 ((e7.trans e8).trans (e9.trans e10))
    have e06 := e05.trans e6
    refine q_no ?_ fun H7 e7 => ?_
    · cases hr : r with
      | false => exact et_andF (et_is (et_B (ev_var rfl)) rfl)
      | true =>
        obtain ⟨q1, q2⟩ := hQr hr
        have dRw : dueR (iv rows) = 0 := by
          rw [dueR_wf W, ← hr]
          exact h0
        refine et_andT (et_is (et_B (ev_var rfl)) rfl) (et_test fun H7 e7 Q k => g_op (ev_var rfl H7 (Ex.refl _) _ fun H8 e8 => g_cons (en_copy (ev_var rfl) (hT.mono ((e06.trans e7).trans e8)).lv (by rw [hrl]; omega) (fun _ => rfl) (fun _ => rfl) H8 (Ex.refl _) _ fun c cs H9 Lc e9 => g_nil ⟨_, rfl, c, iv rows, rfl, Lc.lv, any_flat rows, fun _ => Lc.tv, fun _ p2 hp2 sp2 hps2 H10 D2 e10 => ?_, fun h => absurd dRw h⟩)))
        rw [hsOf_vi, (dueB_wf W nr).2, ← q2, ← q1] at D2
        exact rv_neDeal (D4.at_.mono ((((e5.trans e6).trans e7).trans e8).trans (e9.trans e10))) D2.at_ H10 (Ex.refl _) _ fun H11 e11 => k H11 ((e8.trans e9).trans (e10.trans e11))
    have e47 := (e5.trans e6).trans e7
    have D7 := D4.ext e47
    have e07 := e04.trans e47
    have hpl := D7.L.len
    rw [iv_len] at hpl
    -- one good at most
    refine q_forLn (p0 e47 rfl) (sq_of D7.L.top) (fun i σ H' => ∃ z, σ = [some (.ref p), some (.ref a), some (.int (g : Int)), some (.bl r), some (.ref pd), z, none, none] ∧ Ex H7 H') (fun H8 e8 => ⟨none, rfl, e8⟩) (fun i σ' H' _ h => by obtain ⟨_, _, e⟩ := h; exact sq_of (e _ _ D7.L.top)) ?_ ?_
    · rintro i w σ' H' hi ⟨z, rfl, ex⟩
      rw [List.getElem?_map] at hi
      cases ei : hps[i]? with
      | none => rw [ei] at hi; cases hi
      | some q1 =>
        rw [ei] at hi
        obtain rfl : V.ref q1 = w := Option.some.inj hi
        have hil : i < hs.length := by
          have h1 := (List.getElem?_eq_some_iff.mp ei).1
          omega
        have hq1 := (D7.L.at_ i q1 _ ei (iv_at hil)).2
        refine s_no (et_is (et_and (b := decide ((((hs[i].map V.int).length : Nat) : Int) > 1)) (et_B (ev_var rfl)) fun _ => et_test (ev_op (ev_len (ev_var rfl) (sq_of (ex _ _ hq1))) ev_c rv_I0)) ?_) fun H8 e8 => ⟨_, rfl, ex.trans e8⟩
        cases hr : r with
        | false => rfl
        | true =>
          have := h1x hr _ (List.getElem_mem hil)
          rw [Bool.true_and, List.length_map]
          exact decide_eq_false (by omega)
    rintro σ' H8 ⟨z, rfl, e78⟩
    have D8 := D7.ext e78
    have e48 := e47.trans e78
    -- their sizes
    refine q_asgL (el_rows (rows := hs) (fun h => .int (h.length : Int)) (p0 e48 rfl) D8.L.lv (by omega) (fun _ => rfl) fun i w H9 hi hw e9 => ev_is (ev_len (ev_var rfl) hw) (by rw [List.length_map])) fun sz H9 hsz e9 h9 => ?_
    have D9 := D8.ext e9
    have e49 := e48.trans e9
    have e09 := e04.trans e49
    -- changed behind
    have hpd : pd ∉ hps := fun m => by
      obtain ⟨_, zs, hz⟩ := D9.L.out pd (List.mem_cons_of_mem _ m)
      rw [D9.t] at hz
      cases hz
    have hsp : sp ∉ hps := fun m => D9.apart (List.mem_cons_of_mem _ m)
    have hszn : sz ∉ hps := fun m => by
      obtain ⟨_, zs, hz⟩ := D8.L.out sz (List.mem_cons_of_mem _ m)
      rw [hsz] at hz
      cases hz
    refine q_forLn (p0 e49 rfl) (sq_of D9.L.top) (fun i σ H' => ∃ z, σ = [some (.ref p), some (.ref a), some (.int (g : Int)), some (.bl r), some (.ref pd), z, some (.ref sz), none] ∧ Ex H H' ∧ LNew H H' hp hps (addV (.int (rows.length : Int)) (iv hs) i) ∧ H' pd = some (.tup [.ref hp, .ref sp]) ∧ H' sp = some (.lst (ss.map V.int)) ∧ H' sz = some (.lst (hs.map fun h => V.int (h.length : Int))))
      (fun H10 e10 => ⟨_, rfl, e09.trans e10, (show LNew H H10 hp hps (addV _ (iv hs) 0) from (D9.L.ext e10)), e10 _ _ D9.t, e10 _ _ D9.s, e10 _ _ h9⟩) (fun i σ' H' _ h => by obtain ⟨_, _, _, L, _⟩ := h; exact sq_of L.top) ?_ ?_
    · rintro i w σ' H' hi ⟨z, rfl, ex, L, t1, t2, t3⟩
      rw [List.getElem?_map] at hi
      cases ei : hps[i]? with
      | none => rw [ei] at hi; cases hi
      | some q1 =>
        rw [ei] at hi
        obtain rfl : V.ref q1 = w := Option.some.inj hi
        have hil : i < hs.length := by
          have h1 := (List.getElem?_eq_some_iff.mp ei).1
          omega
        have hil2 : i < (iv hs).length := by rw [iv_len]; exact hil
        have hq1 := (L.at_ i q1 _ ei (addV_at hil2)).2
        have hmem := List.mem_of_getElem? ei
        have hlen : (iv hs)[i].length ≤ 4000 := by
          have h2 := iv_at hil
          rw [List.getElem?_eq_getElem hil2] at h2
          rw [Option.some.inj h2, List.length_map]
          exact Nat.le_trans (flat_len_at (List.getElem_mem hil)) F.fit.few
        refine s_app hq1 (ev_var rfl) (ev_is (ev_lenLL (hT.mono ex).lv (ev_var rfl)) (by rw [hrl])) (by omega) fun H10 e10 => ⟨_, rfl, (L.ext e10).exm ei (ex.trans e10), ?_, by rw [upd_ne fun z => hpd (by rw [z]; exact hmem)]; exact e10 _ _ t1, by rw [upd_ne fun z => hsp (by rw [z]; exact hmem)]; exact e10 _ _ t2, by rw [upd_ne fun z => hszn (by rw [z]; exact hmem)]; exact e10 _ _ t3⟩
        rw [← addV_set hil2]
        exact (L.ext e10).app ei (addV_at hil2)
    rintro σ' H10 ⟨z, rfl, ex10, L10, t10, s10, z10⟩
    rw [List.length_map, show hps.length = (iv hs).length by rw [iv_len]; exact hpl, addV_all] at L10
    have eiv : (iv hs).map (· ++ [V.int (rows.length : Int)]) = iv (hs.map (· ++ [(rows.length : Int)])) := by
      show List.map _ (List.map _ hs) = List.map _ (List.map _ hs)
      rw [List.map_map, List.map_map]
      refine List.map_congr_left fun h _ => ?_
      show h.map V.int ++ [V.int _] = (h ++ [_]).map V.int
      rw [List.map_append]
      rfl
    rw [eiv] at L10
    have i0 : ∀ {H' : Hp} {σ : L2.St} {k : Int} {v : V}, H' pd = some (.tup [.ref hp, .ref sp]) → σ[4]? = some (some (.ref pd)) → atI [V.ref hp, V.ref sp] k = some v → Ev (tOp (rIxT K) (tVar 4) (tC (.int k))) σ H' v := fun h hv hk => ev_op (ev_var hv) ev_c (rv_ixT (st_of h) hk)
    have hs0 : (ss.map V.int)[0]? = some (.int (ss.getD 0 0)) := by
      have h1 : 0 < ss.length := by omega
      rw [List.getElem?_map, List.getElem?_eq_getElem h1]
      simp [List.getD_eq_getElem?_getD, h1]
    refine q_setL (j := 0) s10 (ev_op (ev_op (i0 t10 rfl (at_k (k := 1) rfl)) ev_c (rv_ixL (sq_of s10) (at_k (k := 0) hs0))) ev_c rv_I0) (i0 t10 rfl (at_k (k := 1) rfl)) ev_c (by rw [List.length_map]; omega) fun H11 e11 => ?_
    have nsp : ∀ b ∈ hp :: hps, b ≠ sp := fun b m z => D9.apart (z ▸ m)
    have L11 := L10.ext e11
    have npd : pd ≠ sp := fun z => by rw [z, s10] at t10; cases t10
    have nsz : sz ≠ sp := fun z => by rw [z, D8.s] at hsz; cases hsz
    have hT12 : TV (upd H11 sp (.lst ((ss.map V.int).set 0 (.int (ss.getD 0 0 + 1))))) hp (iv (hs.map (· ++ [(rows.length : Int)]))) := ⟨hps, by rw [upd_ne (nsp hp List.mem_cons_self)]; exact L11.top, L11.len, fun i q1 y h1 h2 => by rw [upd_ne (nsp q1 (List.mem_cons_of_mem _ (List.mem_of_getElem? h1)))]; exact (L11.at_ i q1 y h1 h2).2⟩
    have t12 : (upd H11 sp (.lst ((ss.map V.int).set 0 (.int (ss.getD 0 0 + 1))))) pd = some (.tup [.ref hp, .ref sp]) := by rw [upd_ne npd]; exact e11 _ _ t10
    have z12 : (upd H11 sp (.lst ((ss.map V.int).set 0 (.int (ss.getD 0 0 + 1))))) sz = some (.lst (hs.map fun h => V.int (h.length : Int))) := by rw [upd_ne nsz]; exact e11 _ _ z10
    have x12 : Ex H (upd H11 sp (.lst ((ss.map V.int).set 0 (.int (ss.getD 0 0 + 1))))) := Ex.mut (ex10.trans e11) D0.sn
    generalize upd H11 sp (.lst ((ss.map V.int).set 0 (.int (ss.getD 0 0 + 1)))) = H12 at hT12 t12 z12 x12
    have eA : (hs.map fun h => V.int (h.length : Int)) = (hs.map fun h => (h.length : Int)).map V.int := by
      rw [List.map_map]
      rfl
    refine s_ret (ev_opL (ev_var rfl) (el_rows (rows := hs.map (· ++ [(rows.length : Int)])) (fun h => .int ((h.length : Int) - 1)) (i0 t12 rfl (at_k (k := 0) rfl)) hT12.lv (by rw [List.length_map]; omega) (fun _ => rfl) fun i w H13 hi hw e13 => ev_is (ev_op (ev_len (ev_var rfl) hw) ev_c rv_I0) (by rw [List.length_map])) fun l H13 h13 e13 => ?_) fun H13 e13 => q H13 (x12.trans e13)
    have eB : ((hs.map (· ++ [(rows.length : Int)])).map fun h => V.int ((h.length : Int) - 1)) = (hs.map fun h => (h.length : Int)).map V.int := by
      rw [List.map_map, List.map_map]
      refine List.map_congr_left fun h _ => ?_
      show V.int (((h ++ [_]).length : Int) - 1) = V.int (h.length : Int)
      congr 1
      rw [List.length_append]
      show ((h.length + 1 : Nat) : Int) - 1 = _
      omega
    rw [eB] at h13
    rw [eA] at z12
    exact rv_eqS encI (by decide) (dp_ints (sq_of (e13 _ _ z12))) (dp_ints (sq_of h13))
  · have e12 := e1.trans e2
    unfold dueQ at h0
    by_cases nr : rows = []
    · have hn : dueQ r rows g = 1 := if_pos nr
      rw [hn]
      refine q_yes (et_is (nil e12 rfl) (decide_eq_true (by rw [nr]; rfl))) fun H3 e3 => ?_
      exact s_ret (ev_strs (x := "NoPeople") rfl (by decide +kernel)) fun H4 e4 => q H4 ((e12.trans e3).trans e4)
    · rw [if_neg nr] at h0
      have hpos : 0 < rows.length := List.length_pos_iff.mpr nr
      by_cases z : r = true ∧ rows.length < g
      · have hn : dueQ r rows g = 2 := by
          unfold dueQ
          rw [if_neg nr, if_pos z]
        rw [hn]
        refine q_no (et_is (nil e12 rfl) (decide_eq_false (by omega))) fun H3 e3 => ?_
        refine q_yes (et_is (more (e12.trans e3) rfl rfl rfl) (by rw [z.1, decide_eq_true z.2]; rfl)) fun H4 e4 => ?_
        exact s_ret (ev_strs (x := "TooMany") rfl (by decide +kernel)) fun H5 e5 => q H5 ((e12.trans e3).trans (e4.trans e5))
      · rw [if_neg z] at h0
        exact absurd rfl h0
end
/-! ### _law_made_good -/
abbrev s__law_made_good : Stmt := topS 56
theorem sc__law_made_good : FnScope ["_law_first", "_law_table", "_law_rows", "_law_told_here", "_law_row", "_law_column"] ["_law_first"] (defScope s__law_made_good) := ⟨rfl, rfl, rfl, by decide +kernel, rfl, by decide +kernel, by decide +kernel⟩
section
variable {K : PySem.W.Frag} {C : Addr} {cl : Nat → Addr} {σ : L2.St} {H : Hp} {te : TE} {tz : TS} {D : Ends} {E : XK} {p b : Addr} {ms : List Addr} {rows : List (List Int)} {g i : Nat} {past : Past}
theorem dueP_ok {n g : Nat} {r : List Int} (h40 : g < 40) (hl : r.length = n) (hr : ∀ b ∈ r, 0 ≤ b ∧ b ≤ 1000000000000) : dueP n g (r.map V.int) = 0 := by
  unfold dueP lineD
  rw [if_neg (by omega), if_pos (by rw [List.length_map, hl]), if_pos (List.all_eq_true.mpr fun y m => ?_)]
  obtain ⟨b, hb, rfl⟩ := List.mem_map.mp m
  exact decide_eq_true (hr b hb)
theorem dueC_ok {n g : Nat} {r : List Int} (h9 : n < 9) (hl : r.length = g) (hr : ∀ b ∈ r, 0 ≤ b ∧ b ≤ 1000000000000) : dueC n g (r.map V.int) = 0 := by
  unfold dueC lineD
  rw [if_neg (by omega), if_pos (by rw [List.length_map, hl]), if_pos (List.all_eq_true.mpr fun y m => ?_)]
  obtain ⟨b, hb, rfl⟩ := List.mem_map.mp m
  exact decide_eq_true (hr b hb)
theorem map_int {r s : List Int} (h : r.map V.int = s.map V.int) : s = r := by
  have := congrArg (List.map intOf) h
  rw [int_of_map, int_of_map] at this
  exact this.symm
theorem any_ints {H : Hp} (r : List Int) : ∀ y ∈ r.map V.int, Any H y := fun y m => by
  obtain ⟨b, _, rfl⟩ := List.mem_map.mp m
  exact .int b
theorem q_putT {r : List Int} (hv : σ[i]? = some (some (.ref p))) (A : TabAt C ms H p b rows g past) (W : WfT rows g) (hl : past.length < 90000) (hd : dueP rows.length g (r.map V.int) = 0) (he : ∀ H1, Ex H H1 → ∀ Q : VK, (∀ l H2, Ex H1 H2 → SqL K H2 l (r.map V.int) → Q (.ref l) H2) → te σ H1 Q)
    (k : ∀ H', Ex (Fs.msk H [p, b]) H' → TabAt C ms H' p b (putM rows r) (g + 1) (past ++ [(rows, g)]) → tz D σ H') : tSeq (tDrop (tMeth C "put" (sp_Table_put K C cl) [] E (tVar i) (tCons te tNil))) tz D σ H := by
  obtain ⟨⟨dx, r0, hp, _⟩, _⟩ := id A
  refine q_dr (g_meth (ev_var hv) hp (fldT_no r0 b g (by decide +kernel) (by decide +kernel) (by decide +kernel)) fun H1 e1 => g_cons (he H1 e1 _ fun l H2 e2 h2 => g_nil ⟨_, _, rfl, ms, p, b, l, rows, g, past, _, rfl, rfl, A.mono (e1.trans e2), W.few, h2, any_ints r, hl, fun _ c hc H3 e3 A3 => ?_, fun h => absurd hd h⟩))
  rw [map_int hc] at A3
  exact k H3 ((Ex.msk (e1.trans e2)).trans e3) A3
theorem q_comeT {r : List Int} (hv : σ[i]? = some (some (.ref p))) (A : TabAt C ms H p b rows g past) (hl : past.length < 90000) (hd : dueC rows.length g (r.map V.int) = 0) (he : ∀ H1, Ex H H1 → ∀ Q : VK, (∀ l H2, Ex H1 H2 → SqL K H2 l (r.map V.int) → Q (.ref l) H2) → te σ H1 Q)
    (k : ∀ H', Ex (Fs.msk H [p, b]) H' → TabAt C ms H' p b (rows ++ [r]) g (past ++ [(rows, g)]) → tz D σ H') : tSeq (tDrop (tMeth C "come" (sp_Table_come K C cl) [] E (tVar i) (tCons te tNil))) tz D σ H := by
  obtain ⟨⟨dx, r0, hp, _⟩, _⟩ := id A
  refine q_dr (g_meth (ev_var hv) hp (fldT_no r0 b g (by decide +kernel) (by decide +kernel) (by decide +kernel)) fun H1 e1 => g_cons (he H1 e1 _ fun l H2 e2 h2 => g_nil ⟨_, _, rfl, ms, p, b, l, rows, g, past, _, rfl, rfl, A.mono (e1.trans e2), h2, any_ints r, hl, fun _ c hc H3 e3 A3 => ?_, fun h => absurd hd h⟩))
  rw [map_int hc] at A3
  exact k H3 ((Ex.msk (e1.trans e2)).trans e3) A3
theorem q_takeT {j : Nat} (hv : σ[i]? = some (some (.ref p))) (A : TabAt C ms H p b rows g past) (W : WfT rows g) (hl : past.length < 90000) (hj : j < g) (he : ∀ {H1 : Hp}, Ev te σ H1 (.int (j : Int)))
    (k : ∀ H', Ex (Fs.msk H [p, b]) H' → TabAt C ms H' p b (takeM rows j) (g - 1) (past ++ [(rows, g)]) → tz D σ H') : tSeq (tDrop (tMeth C "take" (sp_Table_take K C cl) [] E (tVar i) (tCons te tNil))) tz D σ H := by
  obtain ⟨⟨dx, r0, hp, _⟩, _⟩ := id A
  refine q_dr (g_meth (ev_var hv) hp (fldT_no r0 b g (by decide +kernel) (by decide +kernel) (by decide +kernel)) fun H1 e1 => g_cons (he H1 (Ex.refl _) _ fun H2 e2 => g_nil ⟨_, _, rfl, ms, p, b, rows, g, past, rfl, A.mono (e1.trans e2), W.few, .int _, hl, fun c hc hcl H3 e3 A3 => ?_, fun h => ?_⟩))
  · have : c = j := by have := V.int.inj hc; omega
    subst this
    exact k H3 ((Ex.msk (e1.trans e2)).trans e3) A3
  · exact absurd ((decide_eq_true (by omega) : place (.int (j : Int)) (g : Int) = true).symm.trans h) (by decide)
theorem q_leaveT {j : Nat} (hv : σ[i]? = some (some (.ref p))) (A : TabAt C ms H p b rows g past) (W : WfT rows g) (hl : past.length < 90000) (hj : j < rows.length) (he : ∀ {H1 : Hp}, Ev te σ H1 (.int (j : Int)))
    (k : ∀ H', Ex (Fs.msk H [p, b]) H' → TabAt C ms H' p b (rows.take j ++ rows.drop (j + 1)) g (past ++ [(rows, g)]) → tz D σ H') : tSeq (tDrop (tMeth C "leave" (sp_Table_leave K C cl) [] E (tVar i) (tCons te tNil))) tz D σ H := by
  obtain ⟨⟨dx, r0, hp, _⟩, _⟩ := id A
  refine q_dr (g_meth (ev_var hv) hp (fldT_no r0 b g (by decide +kernel) (by decide +kernel) (by decide +kernel)) fun H1 e1 => g_cons (he H1 (Ex.refl _) _ fun H2 e2 => g_nil ⟨_, _, rfl, ms, p, b, rows, g, past, rfl, A.mono (e1.trans e2), W.few, .int _, hl, fun c hc hcl H3 e3 A3 => ?_, fun h => ?_⟩))
  · have : c = j := by have := V.int.inj hc; omega
    subst this
    exact k H3 ((Ex.msk (e1.trans e2)).trans e3) A3
  · exact absurd ((decide_eq_true (by omega) : place (.int (j : Int)) (rows.length : Int) = true).symm.trans h) (by decide)
theorem q_backT {x : List (List Int) × Nat} (hv : σ[i]? = some (some (.ref p))) (A : TabAt C ms H p b rows g (past ++ [x])) (k : ∀ H', Ex (Fs.msk H [p, b]) H' → TabAt C ms H' p b x.1 x.2 past → tz D σ H') : tSeq (tDrop (tMeth C "back" (sp_Table_back K C) [] E (tVar i) tNil)) tz D σ H := by
  obtain ⟨⟨dx, r0, hp, _⟩, _⟩ := id A
  refine q_dr (g_meth (ev_var hv) hp (fldT_no r0 b g (by decide +kernel) (by decide +kernel) (by decide +kernel)) fun H1 e1 => g_nil ⟨_, rfl, ms, p, b, rows, g, past ++ [x], rfl, A.mono e1, fun h => absurd h (by simp), fun past' y hy H2 e2 A2 => ?_⟩)
  have h := List.append_inj' hy rfl
  have h1 := h.1
  have h2 := (List.cons.inj h.2).1
  subst h1 h2
  exact k H2 ((Ex.msk e1).trans e2) A2
/-- a deal that is refused -/
theorem ev_ref {r : Bool} {n : Nat} (hv : σ[i]? = some (some (.ref p))) (A : TabAt C ms H p b rows g past) (W : WfT rows g) (hn : dueQ r rows g = n) (h0 : n ≠ 0) : Ev (tCall (sp__law_deal_of K C) [] E (tCons (tVar i) (tCons (tC (.bl r)) tNil))) σ H (.str (nameQ n)) :=
  ev_call (ea_cons (ev_var hv) (ea_cons ev_c ea_nil)) fun H2 e2 Q q E => ⟨_, _, rfl, ms, p, b, rows, g, past, r, rfl, rfl, A.mono e2, W, fun h => absurd (hn.symm.trans h) h0, fun _ => by rw [hn]; exact q⟩
/-- a deed that is refused -/
theorem ev_tref {j l : Nat} {w : Str} {d : Deed} {ys : List V} {n : Nat} (hv : σ[i]? = some (some (.ref p))) (hj : σ[j]? = some (some (.ref l))) (A : TabAt C ms H p b rows g past) (W : WfT rows g) (hpl : past.length < 90000) (hl : H l = some (.lst ys)) (hz : ys.length ≤ 60) (hy : ∀ y ∈ ys, ∀ H', Itm K H' y) (hw : d.word = w) (hd : d.line = some ys) (hn : dueE d rows.length g = n) (h0 : n ≠ 0) :
    Ev (tCall (sp__law_told K C) [] E (tCons (tVar i) (tCons (tLst (tCons (tC (.str w)) (tCons (tVar j) tNil))) tNil))) σ H (.str (nameE n)) := fun H1 e1 Q q => by
  refine g_call (g_cons (ev_var hv H1 (Ex.refl _) _ fun H2 e2 => g_cons (g_lst (g_cons (g_c (g_cons (ev_var hj H2 (Ex.refl _) _ fun H3 e3 => g_nil ⟨sz_of (by show 2 ≤ 100000; omega), fun dq hdq => g_nil ?_⟩)))))))
  have x4 := Ex.new (o := .lst [.str w, .ref l]) hdq
  have e14 := ((e1.trans e2).trans e3).trans x4
  refine ⟨_, _, rfl, ms, p, b, dq, l, d, rows, g, past, rfl, rfl, A.mono e14, W, ⟨by rw [upd_same, line_items hd l, hw], fun zs hzs => ?_, fun h => by rw [hd] at h; cases h⟩, hpl, fun h => absurd (hn.symm.trans h) h0, fun _ H4 e4 => ?_⟩
  · obtain rfl : ys = zs := Option.some.inj (hd.symm.trans hzs)
    exact ⟨e14 _ _ hl, hz, fun y m => hy y m _⟩
  · rw [hn]
    exact q H4 (((e2.trans e3).trans x4).trans e4)
end
theorem wf2 {rows : List (List Int)} {g : Nat} (h9 : rows.length ≤ 9) (h40 : g ≤ 40) (h : ∀ r ∈ rows, r.length = g ∧ ∀ b ∈ r, 0 ≤ b ∧ b ≤ 1000000000000) : WfT rows g := ⟨h9, h40, fun r m => (h r m).1, fun r m => (h r m).2⟩
theorem two_row {a b : Int} (ha : 0 ≤ a ∧ a ≤ 1000000000000) (hb : 0 ≤ b ∧ b ≤ 1000000000000) : [a, b].length = 2 ∧ ∀ x ∈ [a, b], 0 ≤ x ∧ x ≤ 1000000000000 := ⟨rfl, fun x m => by
  rcases List.mem_cons.mp m with rfl | m
  · exact ha
  · rw [List.mem_singleton.mp m]; exact hb⟩
/-- [[..], [..]] -/
theorem g_lst2F {σ : L2.St} {H : Hp} {te tf : TE} {ys zs : List V} {Q : VK} (h : EvL te σ H ys) (h2 : EvL tf σ H zs) (q : ∀ p r r2 H2, H p = none → H r = none → H r2 = none → Ex H H2 → H2 r = some (.lst ys) → H2 r2 = some (.lst zs) → H2 p = some (.lst [V.ref r, V.ref r2]) → Q (.ref p) H2) : tLst (tCons te (tCons tf tNil)) σ H Q :=
  g_lst (g_cons (h H (Ex.refl _) _ fun r H1 hr e1 h1 => g_cons (h2 H1 e1 _ fun r2 H2 hr2 e2 h3 => g_nil ⟨sz_of (by show 2 ≤ 100000; omega), fun l hl => q l r r2 _ (fresh_back (e1.trans e2) hl) hr (fresh_back e1 hr2) ((e1.trans e2).trans (Ex.new hl)) ((e2.trans (Ex.new hl)) _ _ h1) ((Ex.new hl) _ _ h3) upd_same⟩)))
def sp__law_made_good (K : PySem.W.Frag) (C : Addr) (cl : Nat → Addr) : Sp := sp1X fun x H Q E => ∃ c : Int, x = .int c ∧ ∀ H', Q (.bl true) H'
section
variable {P : Program} {w : World} {K : PySem.W.Frag} {mg : Str → Option Value} {base : Heap} {cl : Nat → Addr} {C : Addr}
theorem ok__law_made_good (D : DnX K mg "_law_made_good" s__law_made_good ["_law_first"]) (B : Bt mg) (T : TabC K mg C) (h_Table___init__ : OkM P w K mg base CX0 1 C "__init__" ["self"] (sp_Table___init__ K C)) (h_Table_put : OkM P w K mg base (L2.CX P w) 4 C "put" ["self", "column"] (sp_Table_put K C cl)) (h_Table_take : OkM P w K mg base (L2.CX P w) 4 C "take" ["self", "good"] (sp_Table_take K C cl)) (h_Table_come : OkM P w K mg base (L2.CX P w) 4 C "come" ["self", "row"] (sp_Table_come K C cl)) (h_Table_back : OkM P w K mg base CX0 1 C "back" ["self"] (sp_Table_back K C)) (h_Table_leave : OkM P w K mg base (L2.CX P w) 4 C "leave" ["self", "person"] (sp_Table_leave K C cl)) (h__law_deal_of : Ok P w K mg base CX0 7 "_law_deal_of" ["_law_table", "_law_rooms"] (sp__law_deal_of K C)) (h__law_told : Ok P w K mg base CX0 6 "_law_told" ["_law_table", "_law_deed_here"] (sp__law_told K C)) (h_Table_in_rooms : OkM P w K mg base (L2.CX P w) 6 C "in_rooms" ["self"] (sp_Table_in_rooms K C cl)) (h_in_rooms_rooms : Ok P w K mg base (L2.CX P w) 5 "in_rooms_rooms" ["bids"] (sp_in_rooms K cl)) (h_Table_in_heaps : OkM P w K mg base (L2.CX P w) 6 C "in_heaps" ["self"] (sp_Table_in_heaps K C cl)) (h__law_by_bids : Ok P w K mg base CX0 2 "_law_by_bids" ["_law_rows", "_law_goods"] (sp__law_by_bids K)) : Ok P w K mg base (L2.CX P w) 8 "_law_made_good" ["_law_first"] (sp__law_made_good K C cl) := by
  refine okX_of D sc__law_made_good (fun vs H Q E h => by obtain ⟨_, rfl, _⟩ := h; rfl) (fun f cdv A outer s H vs Q E hr h => ⟨_, (pss_cons (ps_set (i := 1) sc__law_made_good.nd rfl (Or.inl rfl) (pe_mkT h_Table___init__ T (hr.mono (by decide)) (by rfl) pass0))
      (pss_cons (ps_set (i := 2) sc__law_made_good.nd rfl (Or.inl rfl) (pe_lst (pa_cons (pe_lst (pa_cons (pe_op op_mod (pv 0) pe_int) (pa_cons (pe_op op_mod (pe_op op_fdiv (pv 0) pe_int) pe_int) pa_nil))) (pa_cons (pe_lst (pa_cons (pe_op op_mod (pe_op op_fdiv (pv 0) pe_int) pe_int) (pa_cons (pe_op op_mod (pe_op op_fdiv (pv 0) pe_int) pe_int) pa_nil))) pa_nil))))
      (pss_cons (ps_set (i := 3) sc__law_made_good.nd rfl (Or.inl rfl) (pe_lst (pa_cons (pe_ok h__law_deal_of hr (by rfl) pass0 (pa_cons (pv 1) (pa_cons pe_bl pa_nil))) (pa_cons (pe_ok h__law_deal_of hr (by rfl) pass0 (pa_cons (pv 1) (pa_cons pe_bl pa_nil))) pa_nil))))
      (pss_cons (ps_expr (pe_okM h_Table_put T (hr.mono (by decide)) (pv 1) (passes_call (takes_of rfl rfl rfl rfl) (fun _ _ _ _ h => h)) (pa_cons (pe_lst pa_nil) pa_nil)))
      (pss_cons (ps_expr (pe_okM h_Table_put T (hr.mono (by decide)) (pv 1) (passes_call (takes_of rfl rfl rfl rfl) (fun _ _ _ _ h => h)) (pa_cons (pe_lst pa_nil) pa_nil)))
      (pss_cons (ps_set (i := 4) sc__law_made_good.nd rfl (Or.inl rfl) (pe_slice (slK (K := K)) (pe_ix (ixL (K := K)) (pv 2) pe_int (fun _ _ => rfl)) po_none (po_some pe_int)))
      (pss_cons (ps_set (i := 3) sc__law_made_good.nd rfl (Or.inl rfl) (pe_op op_cat (pv 3) (pe_lst (pa_cons (pe_ok h__law_deal_of hr (by rfl) pass0 (pa_cons (pv 1) (pa_cons pe_bl pa_nil))) (pa_cons (pe_ok h__law_told (hr.mono (by decide)) (by rfl) pass0 (pa_cons (pv 1) (pa_cons (pe_lst (pa_cons pe_str (pa_cons (pv 4) pa_nil))) pa_nil))) pa_nil)))))
      (pss_cons (ps_expr (pe_okM h_Table_take T (hr.mono (by decide)) (pv 1) (passes_call (takes_of rfl rfl rfl rfl) (fun _ _ _ _ h => h)) (pa_cons pe_int pa_nil)))
      (pss_cons (ps_expr (pe_okM h_Table_come T (hr.mono (by decide)) (pv 1) (passes_call (takes_of rfl rfl rfl rfl) (fun _ _ _ _ h => h)) (pa_cons (pv 4) pa_nil)))
      (pss_cons (ps_expr (pe_okM0 h_Table_back T (hr.mono (by decide)) (pv 1) pass0))
      (pss_cons (ps_expr (pe_okM0 h_Table_back T (hr.mono (by decide)) (pv 1) pass0))
      (pss_cons (ps_expr (pe_bm PySem.F.plainAttrs_list PySem.F.slot_list_append PySem.F.type_list_append mt_append (pv 4) (pa_cons (pe_ix (ixL (K := K)) (pe_ix (ixL (K := K)) (pv 2) pe_int (fun _ _ => rfl)) pe_int (fun _ _ => rfl)) pa_nil)))
      (pss_cons (ps_expr (pe_okM h_Table_come T (hr.mono (by decide)) (pv 1) (passes_call (takes_of rfl rfl rfl rfl) (fun _ _ _ _ h => h)) (pa_cons (pv 4) pa_nil)))
      (pss_cons (ps_set (i := 3) sc__law_made_good.nd rfl (Or.inl rfl) (pe_op op_cat (pv 3) (pe_lst (pa_cons (pe_ok h__law_deal_of hr (by rfl) pass0 (pa_cons (pv 1) (pa_cons pe_bl pa_nil))) pa_nil))))
      (pss_cons (ps_if (pt_cmpR (neK (K := K) hr.units) (pv 3) (pe_lst (pa_cons pe_str (pa_cons pe_str (pa_cons pe_str (pa_cons pe_str (pa_cons pe_str pa_nil)))))) (nomark _))
        (pss_one (ps_ret pe_bl))
        pss_nil)
      (pss_cons (ps_expr (pe_okM h_Table_come T (hr.mono (by decide)) (pv 1) (passes_call (takes_of rfl rfl rfl rfl) (fun _ _ _ _ h => h)) (pa_cons (pe_ix (ixL (K := K)) (pv 2) pe_int (fun _ _ => rfl)) pa_nil)))
      (pss_cons (ps_if (PW.pt (pw_or (pt_cmpR (neK (K := K) hr.units) (pe_okM0 h_Table_in_rooms T (hr.mono (by decide)) (pv 1) (passes_call (takes_of rfl rfl rfl rfl) (fun _ _ _ _ h => h))) (pe_okS h_in_rooms_rooms (hr.mono (by decide)) (by rfl) (fun σ => passAt (takes_of rfl rfl rfl rfl) σ) (pa_cons (pv 2) pa_nil)) (nomark _)) (pw_or1 (pt_cmpR (neK (K := K) hr.units) (pe_okM0 h_Table_in_heaps T (hr.mono (by decide)) (pv 1) (passes_call (takes_of rfl rfl rfl rfl) (fun _ _ _ _ h => h))) (pe_ok h__law_by_bids (hr.mono (by decide)) (by rfl) pass0 (pa_cons (pv 2) (pa_cons pe_int pa_nil))) (nomark _)))))
        (pss_one (ps_ret pe_bl))
        pss_nil)
      (pss_cons (ps_set (i := 5) sc__law_made_good.nd rfl (Or.inl rfl) (pe_lst (pa_cons pe_int pa_nil)))
      (pss_cons (ps_if (pt_cmpR op_ne (pe_ok h__law_told (hr.mono (by decide)) (by rfl) pass0 (pa_cons (pv 1) (pa_cons (pe_lst (pa_cons pe_str (pa_cons (pv 5) pa_nil))) pa_nil))) pe_str (nomark _))
        (pss_one (ps_ret pe_bl))
        pss_nil)
      (pss_cons (ps_expr (pe_okM h_Table_leave T (hr.mono (by decide)) (pv 1) (passes_call (takes_of rfl rfl rfl rfl) (fun _ _ _ _ h => h)) (pa_cons pe_int pa_nil)))
      (pss_cons (ps_expr (pe_okM h_Table_put T (hr.mono (by decide)) (pv 1) (passes_call (takes_of rfl rfl rfl rfl) (fun _ _ _ _ h => h)) (pa_cons (pv 5) pa_nil)))
      (pss_cons (ps_expr (pe_okM0 h_Table_back T (hr.mono (by decide)) (pv 1) pass0))
      (pss_cons (ps_expr (pe_okM0 h_Table_back T (hr.mono (by decide)) (pv 1) pass0))
      (pss_cons (ps_expr (pe_bm PySem.F.plainAttrs_list PySem.F.slot_list_append PySem.F.type_list_append mt_append (pv 5) (pa_cons pe_int pa_nil)))
      (pss_cons (ps_expr (pe_okM h_Table_put T (hr.mono (by decide)) (pv 1) (passes_call (takes_of rfl rfl rfl rfl) (fun _ _ _ _ h => h)) (pa_cons (pv 5) pa_nil)))
      (pss_cons (ps_expr (pe_okM0 h_Table_back T (hr.mono (by decide)) (pv 1) pass0))
      (pss_cons (ps_expr (pe_okM h_Table_leave T (hr.mono (by decide)) (pv 1) (passes_call (takes_of rfl rfl rfl rfl) (fun _ _ _ _ h => h)) (pa_cons pe_int pa_nil)))
      (pss_cons (ps_if (pt_cmpR op_ne (pe_ok h__law_deal_of hr (by rfl) pass0 (pa_cons (pv 1) (pa_cons pe_bl pa_nil))) pe_str (nomark _))
        (pss_one (ps_ret pe_bl))
        pss_nil)
      (pss_cons (ps_expr (pe_okM0 h_Table_back T (hr.mono (by decide)) (pv 1) pass0))
      (pss_one (ps_ret (pe_cmpR (eqK (K := K) hr.units) (pe_okM0 h_Table_in_rooms T (hr.mono (by decide)) (pv 1) (passes_call (takes_of rfl rfl rfl rfl) (fun _ _ _ _ h => h))) (pe_okS h_in_rooms_rooms (hr.mono (by decide)) (by rfl) (fun σ => passAt (takes_of rfl rfl rfl rfl) σ) (pa_cons (pv 2) pa_nil)) (nomark _))))))))))))))))))))))))))))))))), ?_⟩)
  obtain ⟨x, rfl, c, rfl, q⟩ := h
  obtain ⟨r0, hr0⟩ : ∃ r0 : List Int, r0 = [c % 3, c / 3 % 3] := ⟨_, rfl⟩
  obtain ⟨r1, hr1⟩ : ∃ r1 : List Int, r1 = [c / 9 % 3, c / 27 % 3] := ⟨_, rfl⟩
  have k0 : r0.length = 2 ∧ ∀ x ∈ r0, 0 ≤ x ∧ x ≤ 1000000000000 := by rw [hr0]; exact two_row (by omega) (by omega)
  have k1 : r1.length = 2 ∧ ∀ x ∈ r1, 0 ≤ x ∧ x ≤ 1000000000000 := by rw [hr1]; exact two_row (by omega) (by omega)
  have kc : 0 ≤ c % 3 ∧ c % 3 ≤ 1000000000000 := by omega
  have W01 : WfT [r0, r1] 2 := wf2 (by show 2 ≤ 9; decide) (by decide) fun r m => by
    rcases List.mem_cons.mp m with rfl | m
    · exact k0
    · rw [List.mem_singleton.mp m]; exact k1
  have W0 : WfT [r0] 2 := wf2 (by show 1 ≤ 9; decide) (by decide) fun r m => by rw [List.mem_singleton.mp m]; exact k0
  have W1 : WfT [r1] 2 := wf2 (by show 1 ≤ 9; decide) (by decide) fun r m => by rw [List.mem_singleton.mp m]; exact k1
  -- the table
  refine q_set (fun p dx hp hdx hne => ⟨.ref p, rfl, p, dx, rfl, upd_same, fun b H1 hb A1 e1 => ⟨rfl, ?_⟩⟩)
  have A1 := A1 [] (fun c m => nomatch m) (fun m => nomatch m)
  clear e1 hb
  have kp : H1 p ≠ none := A1.kn2 p (by simp)
  have kb : H1 b ≠ none := A1.kn2 b (by simp)
  have npb : ∀ {c : Addr}, H1 c = none → c ∉ [p, b] := fun {c} h m => by
    rcases List.mem_cons.mp m with rfl | m
    · exact kp h
    · rw [List.mem_singleton.mp m] at h; exact kb h
  -- the rows
  have row : ∀ {H' : Hp} {v1 v2 : Int} {t1 t2 : TE} {σ : L2.St}, Ev t1 σ H' (.int v1) → Ev t2 σ H' (.int v2) → EvL (tLst (tCons t1 (tCons t2 tNil))) σ H' ([v1, v2].map V.int) := fun h1 h2 => el_lst (ea_cons h1 (ea_cons h2 ea_nil)) (by show 2 ≤ 100000; decide)
  have m3 : ∀ {σ : L2.St} {H' : Hp} {te : TE} {v : Int}, Ev te σ H' (.int v) → Ev (tOp (rI (fun _ j => 0 < j) fun i j => .int (i % j)) te (tC (.int 3))) σ H' (.int (v % 3)) := fun h => ev_op h ev_c (rv_I (by show (0 : Int) < 3; decide))
  have dv : ∀ {σ : L2.St} {H' : Hp} {k : Int}, σ[0]? = some (some (.int c)) → CDiv c k → Ev (tOp (rI CDiv fun i j => .int (i / j)) (tVar 0) (tC (.int k))) σ H' (.int (c / k)) := fun h hk => ev_op (ev_var h) ev_c (rv_I hk)
  refine q_set (g_lst2F (row (m3 (ev_var rfl)) (m3 (dv rfl ⟨by decide, by decide⟩))) (row (m3 (dv rfl ⟨by decide, by decide⟩)) (m3 (dv rfl ⟨by decide, by decide⟩))) fun a u0 u1 H2 ha hu0 hu1 e2 h0 h1 h2 => ?_)
  rw [← hr0] at h0
  rw [← hr1] at h1
  have hTa : TV (Fs.msk H2 [p, b]) a (iv [r0, r1]) := tv_two (by rw [msk_at (npb ha)]; exact h2) (by rw [msk_at (npb hu0)]; exact h0) (by rw [msk_at (npb hu1)]; exact h1)
  have A2 := A1.mono e2
  have d1 : ∀ {r : Bool} {g : Nat}, dueQ r [] g = 1 := fun {r g} => if_pos rfl
  -- refused
  refine q_asgL (el_lst (ea_cons (ev_ref rfl A2 wf_nil d1 (by decide)) (ea_cons (ev_ref rfl A2 wf_nil d1 (by decide)) ea_nil)) (by show 2 ≤ 100000; decide)) fun t1 H3 ht1 e3 h3 => ?_
  have A3 := A2.mono e3
  have X3 : Ex (Fs.msk H2 [p, b]) H3 := msk_le.trans e3
  have nt1 : t1 ∉ [p, b] := npb (fresh_back e2 ht1)
  have ell : ∀ {σ : L2.St} {H1 : Hp} {Q : VK}, (∀ l H2, Ex H1 H2 → SqL K H2 l (([] : List Int).map V.int) → Q (.ref l) H2) → tLst tNil σ H1 Q := fun k => el_lst ea_nil (by decide) _ (Ex.refl _) _ fun a H2 ha e h => k a H2 e (sq_of h)
  refine q_putT (r := []) rfl A3 wf_nil (by decide) rfl (fun H' e Q k => ell k) fun H4 e4 A4 => ?_
  have A4 : TabAt C [] H4 p b [] 1 [([], 0)] := A4
  refine q_putT (r := []) rfl A4 (wf_e 1 (by decide)) (by show 1 < 90000; decide) rfl (fun H' e Q k => ell k) fun H5 e5 A5 => ?_
  have A5 : TabAt C [] H5 p b [] 2 [([], 0), ([], 1)] := A5
  have X5 := two_up (two_up X3 e4) e5
  have h35 : H5 t1 = some (.lst [.str "NoPeople", .str "NoPeople"]) := two_up e4 e5 _ _ (by rw [msk_at nt1]; exact h3)
  have a5 : H5 a = some (.lst [.ref u0, .ref u1]) := X5 _ _ (by rw [msk_at (npb ha)]; exact h2)
  have u05 : H5 u0 = some (.lst (r0.map V.int)) := X5 _ _ (by rw [msk_at (npb hu0)]; exact h0)
  -- a row that is too short
  refine q_asgL (el_slT (k := 1) (ev_op (ev_var rfl) ev_c (rv_ixL (sq_of a5) (at_k (k := 0) rfl))) (sq_of u05) ev_c) fun l H6 hl e6 h6 => ?_
  have hl2 : H2 l = none := by
    cases z : H2 l with
    | none => rfl
    | some o =>
      have nl : l ∉ [p, b] ∨ l ∈ [p, b] := by by_cases m : l ∈ [p, b]; exact .inr m; exact .inl m
      rcases nl with nl | nl
      · rw [X5 _ _ (by rw [msk_at nl]; exact z)] at hl; cases hl
      · exact absurd hl (A5.kn2 l (by
          rcases List.mem_cons.mp nl with rfl | m
          · simp
          · rw [List.mem_singleton.mp m]; simp))
  have h6 : H6 l = some (.lst [.int (c % 3)]) := by
    rw [hr0] at h6
    exact h6
  have nlp : l ∉ [p, b] := npb (fresh_back e2 hl2)
  have nlp' : p ≠ l ∧ b ≠ l := ⟨fun z => nlp (by rw [z]; simp), fun z => nlp (by rw [z]; simp)⟩
  have A6 : TabAt C [l] H6 p b [] 2 [([], 0), ([], 1)] := A5.add e6 hl (some_nn h6)
  have X6 := X5.trans e6
  refine q_asgL (el_catV (ev_var rfl) (e6 _ _ h35) (el_lst (ea_cons (ev_ref rfl A6 (wf_e 2 (by decide)) d1 (by decide)) (ea_cons (ev_tref (l := l) (w := "come") (d := .come [.int (c % 3)]) (n := 3) rfl rfl A6 (wf_e 2 (by decide)) (by show 2 < 90000; decide) h6 (by show 1 ≤ 60; decide) (fun y m H' => by rw [List.mem_singleton.mp m]; exact itm_int _) rfl rfl rfl (by decide)) ea_nil)) (by show 2 ≤ 100000; decide)) (by show 4 ≤ 100000; decide)) fun t2 H7 ht2 e7 h7 => ?_
  have A7 := A6.mono e7
  have X7 := X6.trans e7
  have nt2 : t2 ∉ [p, b] := fun m => by
    have := A6.kn2 t2 (by
      rcases List.mem_cons.mp m with rfl | m
      · simp
      · rw [List.mem_singleton.mp m]; simp)
    exact this ht2
  -- it is taken when a good has gone
  refine q_takeT (j := 0) rfl A7 (wf_e 2 (by decide)) (by show 2 < 90000; decide) (by decide) ev_c fun H8 e8 A8 => ?_
  have A8 : TabAt C [l] H8 p b [] 1 [([], 0), ([], 1), ([], 2)] := A8
  have l8 : H8 l = some (.lst [.int (c % 3)]) := e8 _ _ (by rw [msk_at nlp]; exact e7 _ _ h6)
  have one : ∀ b ∈ [c % 3], 0 ≤ b ∧ b ≤ 1000000000000 := fun b m => by rw [List.mem_singleton.mp m]; exact kc
  refine q_comeT (r := [c % 3]) rfl A8 (by show 3 < 90000; decide) (dueC_ok (by decide) rfl one) (fun H' e Q k => ev_var rfl H' (Ex.refl _) _ fun H2 e2 => k l H2 e2 (sq_of ((e.trans e2) _ _ l8))) fun H9 e9 A9 => ?_
  refine q_backT rfl A9 fun H10 e10 A10 => ?_
  have A10 : TabAt C [l] H10 p b [] 1 ([([], 0), ([], 1)] ++ [([], 2)]) := A10
  refine q_backT rfl A10 fun H11 e11 A11 => ?_
  have A11 : TabAt C [l] H11 p b [] 2 [([], 0), ([], 1)] := A11
  have e711 := two_up (two_up (two_up e8 e9) e10) e11
  have X11 := two_up X7 e711
  have h711 : H11 t2 = some (.lst ([.str "NoPeople", .str "NoPeople"] ++ [.str "NoPeople", .str "Uneven"])) := e711 _ _ (by rw [msk_at nt2]; exact h7)
  have l11 : H11 l = some (.lst [.int (c % 3)]) := e711 _ _ (by rw [msk_at nlp]; exact e7 _ _ h6)
  have a11 : H11 a = some (.lst [.ref u0, .ref u1]) := X11 _ _ (by rw [msk_at (npb ha)]; exact h2)
  have u011 : H11 u0 = some (.lst (r0.map V.int)) := X11 _ _ (by rw [msk_at (npb hu0)]; exact h0)
  -- made good
  refine q_app (v := .int (c / 3 % 3)) l11 (ev_var rfl) (ev_op (ev_op (ev_var rfl) ev_c (rv_ixL (sq_of a11) (at_k (k := 0) rfl))) ev_c (rv_ixL (sq_of u011) (at_k (k := 1) (by rw [hr0]; rfl)))) (by show 1 < 100000; decide) fun H12 e12 => ?_
  have ntl : t2 ≠ l := fun z => by rw [z, h6] at ht2; cases ht2
  have l13 : (upd H12 l (.lst ([.int (c % 3)] ++ [.int (c / 3 % 3)]))) l = some (.lst (r0.map V.int)) := by rw [upd_same, hr0]; rfl
  have t13 : (upd H12 l (.lst ([.int (c % 3)] ++ [.int (c / 3 % 3)]))) t2 = some (.lst ([.str "NoPeople", .str "NoPeople"] ++ [.str "NoPeople", .str "Uneven"])) := by rw [upd_ne ntl]; exact e12 _ _ h711
  have A13 : TabAt C [l] (upd H12 l (.lst ([.int (c % 3)] ++ [.int (c / 3 % 3)]))) p b [] 2 [([], 0), ([], 1)] := Ob.TabAt.only A11 e12 (by simp) nlp'.1 nlp'.2
  have X13 : Ex (Fs.msk H2 [p, b]) (upd H12 l (.lst ([.int (c % 3)] ++ [.int (c / 3 % 3)]))) := fun z o h => by
    rw [upd_ne fun y => by rw [y] at h; rw [(msk_of h).1] at hl2; cases hl2]
    exact e12 _ _ (X11 _ _ h)
  generalize upd H12 l (.lst ([.int (c % 3)] ++ [.int (c / 3 % 3)])) = H13 at l13 t13 A13 X13
  refine q_comeT (r := r0) rfl A13 (by show 2 < 90000; decide) (dueC_ok (by decide) k0.1 k0.2) (fun H' e Q k => ev_var rfl H' (Ex.refl _) _ fun H2 e2 => k l H2 e2 (sq_of ((e.trans e2) _ _ l13))) fun H14 e14 A14 => ?_
  have A14 : TabAt C [l] H14 p b [r0] 2 [([], 0), ([], 1), ([], 2)] := A14
  have X14 := two_up X13 e14
  have t14 := e14 _ _ (show Fs.msk H13 [p, b] t2 = some _ by rw [msk_at nt2]; exact t13)
  have d2 : dueQ true [r0] 2 = 2 := by
    unfold dueQ
    rw [if_neg (by simp), if_pos ⟨rfl, by show 1 < 2; decide⟩]
  refine q_asgL (el_catV (ev_var rfl) t14 (el_lst (ea_cons (ev_ref rfl A14 W0 d2 (by decide)) ea_nil) (by show 1 ≤ 100000; decide)) (by show 5 ≤ 100000; decide)) fun t3 H15 ht3 e15 h15 => ?_
  have A15 := A14.mono e15
  have X15 := X14.trans e15
  -- what was told
  refine q_no (et_test (ev_opL (z := .bl false) (ev_var rfl) (el_lst (ea_cons ev_c (ea_cons ev_c (ea_cons ev_c (ea_cons ev_c (ea_cons ev_c ea_nil))))) (by show 5 ≤ 100000; decide)) fun f H16 h16 e16 => ?_)) fun H16 e16 => ?_
  · have sds : ∀ xs : List Str, DpAll K H16 (xs.map V.str) (xs.map PyData.str) := fun xs => by
      induction xs with
      | nil => exact .nil
      | cons x r ih => exact .cons (.str x) ih
    exact rv_neR (d := .list ((["NoPeople", "NoPeople", "NoPeople", "Uneven", "TooMany"] : List Str).map PyData.str)) (by decide +kernel) (.lst (sq_of (e16 _ _ h15)) (sds (["NoPeople", "NoPeople", "NoPeople", "Uneven", "TooMany"] : List Str))) (.lst (sq_of h16) (sds (["NoPeople", "NoPeople", "NoPeople", "Uneven", "TooMany"] : List Str)))
  have A16 := A15.mono e16
  have X16 := X15.trans e16
  have ta16 := hTa.mono X16
  obtain ⟨as, s1, s2, s3⟩ := id ta16
  have hu1l : ∀ {H' : Hp}, Ex (Fs.msk H2 [p, b]) H' → H' a = some (.lst [.ref u0, .ref u1]) ∧ H' u1 = some (.lst (r1.map V.int)) := fun X => ⟨X _ _ (by rw [msk_at (npb ha)]; exact h2), X _ _ (by rw [msk_at (npb hu1)]; exact h1)⟩
  refine q_comeT (r := r1) rfl A16 (by show 3 < 90000; decide) (dueC_ok (by show 1 < 9; decide) k1.1 k1.2) (fun H' e Q k => ev_op (ev_var rfl) ev_c (rv_ixL (sq_of (e _ _ (hu1l X16).1)) (at_k (k := 1) rfl)) H' (Ex.refl _) _ fun H2 e2 => k u1 H2 e2 (sq_of ((e.trans e2) _ _ (hu1l X16).2))) fun H17 e17 A17 => ?_
  have A17 : TabAt C [l] H17 p b [r0, r1] 2 [([], 0), ([], 1), ([], 2), ([r0], 2)] := A17
  have X17 := two_up X16 e17
  -- the deals of both
  have dT : dueQ true [r0, r1] 2 = 0 := by
    unfold dueQ
    rw [if_neg (by simp), if_neg fun z => by have h := z.2; exact absurd h (by show ¬ 2 < 2; decide)]
  have dF : dueQ false [r0, r1] 2 = 0 := by
    unfold dueQ
    rw [if_neg (by simp), if_neg fun z => nomatch z.1]
  have dRw := (dueR_wf W01).trans dT
  have nr : [r0, r1] ≠ [] := by simp
  have hB := W01.bids (by show 0 < 2; decide)
  have rooms : ∀ {H' H'' : Hp} {ms : List Addr} {past : Past} {σ : L2.St} {Q : V → V → Hp → Prop} {E1 : XK} {E2 : L2.St → XK}, σ[1]? = some (some (.ref p)) → σ[2]? = some (some (.ref a)) → TabAt C ms H' p b [r0, r1] 2 past → Ex (Fs.msk H2 [p, b]) H' → Ex H' H'' →
      (∀ d1 d2 hs ss H3, Ex H'' H3 → DealAt H3 d1 hs ss → DealAt H3 d2 hs ss → Q (.ref d1) (.ref d2) H3) → tMeth C "in_rooms" (sp_Table_in_rooms K C cl) [] E1 (tVar 1) tNil σ H'' fun x H1 => tCallS (sp_in_rooms K cl) E2 (tCons (tVar 2) tNil) σ H1 fun y H2 => Q x y H2 := fun {H' H'' ms past σ Q E1 E2} h1 h2 A X e k => by
    obtain ⟨⟨dx, r, hp, _⟩, _⟩ := id A
    refine g_meth (ev_var h1) (e _ _ hp) (fldT_no r b 2 (by decide +kernel) (by decide +kernel) (by decide +kernel)) fun H3 e3 => g_nil ⟨_, rfl, ms, p, b, [r0, r1], 2, past, rfl, A.mono (e.trans e3), W01, fun _ d1 hp1 sp1 hps1 H4 D1 e4 => ?_, fun h => absurd dT h⟩
    have ta := ((hTa.mono X).mono ((e.trans e3).trans e4))
    refine g_cons (ev_var h2 H4 (Ex.refl _) _ fun H5 e5 => g_nil ⟨_, rfl, a, iv [r0, r1], rfl, (ta.mono e5).lv, any_flat _, fun _ => ta.mono e5, fun _ d2 hp2 sp2 hps2 H6 D2 e6 => ?_, fun h => absurd dRw h⟩)
    rw [hsOf_vi, (dueB_wf W01 nr).2] at D2
    exact k d1 d2 (heapsR [r0, r1] 2) (payR [r0, r1] 2) H6 ((e3.trans e4).trans (e5.trans e6)) (D1.at_.mono (e5.trans e6)) D2.at_
  refine q_no (et_orF (et_test fun H18 e18 Q k => g_op (rooms rfl rfl A17 X17 e18 fun d1 d2 hs ss H19 e19 a1 a2 => rv_neDeal a1 a2 H19 (Ex.refl _) _ fun H20 e20 => k H20 (e19.trans e20))) (et_test fun H18 e18 Q k => g_op ?_)) fun H18 e18 => ?_
  · obtain ⟨⟨dx, r, hp, _⟩, _⟩ := id A17
    refine g_meth (ev_var rfl) (e18 _ _ hp) (fldT_no r b 2 (by decide +kernel) (by decide +kernel) (by decide +kernel)) fun H3 e3 => g_nil ⟨_, rfl, [l], p, b, [r0, r1], 2, _, rfl, A17.mono (e18.trans e3), W01, fun _ d1 hp1 sp1 hps1 H4 D1 e4 => ?_, fun h => absurd dF h⟩
    have ta := ((hTa.mono X17).mono ((e18.trans e3).trans e4))
    refine g_call (ea_cons (ev_var rfl) (ea_cons ev_c ea_nil) H4 (Ex.refl _) _ fun H5 e5 => ⟨_, _, rfl, a, [r0, r1], 2, rfl, rfl, (ta.mono e5).lv, hB, fun d2 hp2 sp2 hps2 H6 D2 e6 => ?_⟩)
    exact rv_neDeal (D1.at_.mono (e5.trans e6)) D2.at_ H6 (Ex.refl _) _ fun H7 e7 => k H7 (((e3.trans e4).trans (e5.trans e6)).trans e7)
  have A18 := A17.mono e18
  have X18 := X17.trans e18
  -- a column that is too short
  refine q_asgL (el_lst (ea_cons ev_c ea_nil) (by show 1 ≤ 100000; decide)) fun cc H19 hcc e19 h19 => ?_
  have hcc2 : H2 cc = none := by
    cases z : H2 cc with
    | none => rfl
    | some o =>
      by_cases m : cc ∈ [p, b]
      · exact absurd hcc (A18.kn2 cc (by
          rcases List.mem_cons.mp m with rfl | m
          · simp
          · rw [List.mem_singleton.mp m]; simp))
      · rw [X18 _ _ (by rw [msk_at m]; exact z)] at hcc; cases hcc
  have ncp : cc ∉ [p, b] := npb (fresh_back e2 hcc2)
  have ncp' : p ≠ cc ∧ b ≠ cc := ⟨fun z => ncp (by rw [z]; simp), fun z => ncp (by rw [z]; simp)⟩
  have A19 : TabAt C [cc, l] H19 p b [r0, r1] 2 [([], 0), ([], 1), ([], 2), ([r0], 2)] := A18.add e19 hcc (some_nn h19)
  have X19 := X18.trans e19
  refine q_no (et_is (et_test (ev_op (ev_tref (l := cc) (w := "put") (d := .put [.int 1]) (n := 3) rfl rfl A19 W01 (by show 4 < 90000; decide) h19 (by show 1 ≤ 60; decide) (fun y m H' => by rw [List.mem_singleton.mp m]; exact itm_int _) rfl rfl rfl (by decide)) ev_c (rv_ne rfl))) (by decide +kernel)) fun H20 e20 => ?_
  have A20 := A19.mono e20
  have X20 := X19.trans e20
  refine q_leaveT (j := 1) rfl A20 W01 (by show 4 < 90000; decide) (by show 1 < 2; decide) ev_c fun H21 e21 A21 => ?_
  have A21 : TabAt C [cc, l] H21 p b [r0] 2 [([], 0), ([], 1), ([], 2), ([r0], 2), ([r0, r1], 2)] := A21
  have c21 : H21 cc = some (.lst [.int 1]) := e21 _ _ (by rw [msk_at ncp]; exact e20 _ _ h19)
  refine q_putT (r := [1]) rfl A21 W0 (by show 5 < 90000; decide) (dueP_ok (by decide) rfl (fun b m => by rw [List.mem_singleton.mp m]; decide)) (fun H' e Q k => ev_var rfl H' (Ex.refl _) _ fun H2 e2 => k cc H2 e2 (sq_of ((e.trans e2) _ _ c21))) fun H22 e22 A22 => ?_
  refine q_backT rfl A22 fun H23 e23 A23 => ?_
  have A23 : TabAt C [cc, l] H23 p b [r0] 2 ([([], 0), ([], 1), ([], 2), ([r0], 2)] ++ [([r0, r1], 2)]) := A23
  refine q_backT rfl A23 fun H24 e24 A24 => ?_
  have A24 : TabAt C [cc, l] H24 p b [r0, r1] 2 [([], 0), ([], 1), ([], 2), ([r0], 2)] := A24
  have e2124 := two_up (two_up e22 e23) e24
  have X24 := two_up (two_up X20 e21) e2124
  have c24 : H24 cc = some (.lst [.int 1]) := e2124 _ _ (by rw [msk_at ncp]; exact c21)
  -- made good
  refine q_app (v := .int 2) c24 (ev_var rfl) ev_c (by show 1 < 100000; decide) fun H25 e25 => ?_
  have c26 : (upd H25 cc (.lst ([.int 1] ++ [.int 2]))) cc = some (.lst ([1, 2].map V.int)) := by rw [upd_same]; rfl
  have A26 : TabAt C [cc, l] (upd H25 cc (.lst ([.int 1] ++ [.int 2]))) p b [r0, r1] 2 [([], 0), ([], 1), ([], 2), ([r0], 2)] := Ob.TabAt.only A24 e25 (by simp) ncp'.1 ncp'.2
  have X26 : Ex (Fs.msk H2 [p, b]) (upd H25 cc (.lst ([.int 1] ++ [.int 2]))) := fun z o h => by
    rw [upd_ne fun y => by rw [y] at h; rw [(msk_of h).1] at hcc2; cases hcc2]
    exact e25 _ _ (X24 _ _ h)
  generalize upd H25 cc (.lst ([.int 1] ++ [.int 2])) = H26 at c26 A26 X26
  refine q_putT (r := [1, 2]) rfl A26 W01 (by show 4 < 90000; decide) (dueP_ok (by decide) rfl (two_row (by decide) (by decide)).2) (fun H' e Q k => ev_var rfl H' (Ex.refl _) _ fun H2 e2 => k cc H2 e2 (sq_of ((e.trans e2) _ _ c26))) fun H27 e27 A27 => ?_
  refine q_backT rfl A27 fun H28 e28 A28 => ?_
  have A28 : TabAt C [cc, l] H28 p b [r0, r1] 2 [([], 0), ([], 1), ([], 2), ([r0], 2)] := A28
  refine q_leaveT (j := 0) rfl A28 W01 (by show 4 < 90000; decide) (by show 0 < 2; decide) ev_c fun H29 e29 A29 => ?_
  have A29 : TabAt C [cc, l] H29 p b [r1] 2 ([([], 0), ([], 1), ([], 2), ([r0], 2)] ++ [([r0, r1], 2)]) := A29
  have d3 : dueQ true [r1] 2 = 2 := by
    unfold dueQ
    rw [if_neg (by simp), if_pos ⟨rfl, by show 1 < 2; decide⟩]
  refine q_no (et_is (et_test (ev_op (ev_ref rfl A29 W1 d3 (by decide)) ev_c (rv_ne rfl))) (by decide +kernel)) fun H30 e30 => ?_
  refine q_backT rfl (A29.mono e30) fun H31 e31 A31 => ?_
  have A31 : TabAt C [cc, l] H31 p b [r0, r1] 2 [([], 0), ([], 1), ([], 2), ([r0], 2)] := A31
  have X31 := two_up ((two_up (two_up (two_up X26 e27) e28) e29).trans e30) e31
  exact g_ret (g_op (rooms rfl rfl A31 X31 (Ex.refl _) fun d1 d2 hs ss H32 e32 a1 a2 => rv_eqDeal a1 a2 H32 (Ex.refl _) _ fun H33 e33 => q H33))
end
/-! ### _law_held -/
abbrev s__law_held : Stmt := topS 57
theorem sc__law_held : FnScope ["_law_table", "_law_rows", "_law_goods", "_law_held_here", "_law_row"] ["_law_table", "_law_rows", "_law_goods", "_law_held_here"] (defScope s__law_held) := ⟨rfl, rfl, rfl, by decide +kernel, rfl, by decide +kernel, by decide +kernel⟩
def sp__law_held (K : PySem.W.Frag) (C : Addr) (cl : Nat → Addr) : Sp := sp4X fun x y z u H Q E => ∃ (ms : List Addr) (p b a hh : Addr) (rows : List (List Int)) (g : Nat) (past : Past) (vs : List Addr), x = .ref p ∧ y = .ref a ∧ z = .int (g : Int) ∧ u = .ref hh ∧ TabAt C ms H p b rows g past ∧ TV (Fs.msk H (p :: b :: ms)) a (iv rows) ∧ WfT rows g ∧ hh ∈ ms ∧ H hh = some (.lst (vs.map V.ref)) ∧ vs.length ≤ 1000 ∧ HeldD (Fs.msk H (p :: b :: ms)) vs ∧ p ≠ hh ∧ b ≠ hh ∧
  ∀ H' vs', Ex (Fs.msk H [hh]) H' → H' hh = some (.lst (vs'.map V.ref)) → HeldD (Fs.msk H' (p :: b :: ms)) vs' → vs'.length ≤ vs.length + 2 → Q (.bl true) H'
section
variable {P : Program} {w : World} {K : PySem.W.Frag} {mg : Str → Option Value} {base : Heap} {cl : Nat → Addr} {C : Addr}
theorem ok__law_held (D : DnX K mg "_law_held" s__law_held ["_law_table", "_law_rows", "_law_goods", "_law_held_here"]) (B : Bt mg) (T : TabC K mg C) (h_Table_in_heaps : OkM P w K mg base (L2.CX P w) 6 C "in_heaps" ["self"] (sp_Table_in_heaps K C cl)) (h__law_by_bids : Ok P w K mg base CX0 2 "_law_by_bids" ["_law_rows", "_law_goods"] (sp__law_by_bids K)) (h_Table_in_rooms : OkM P w K mg base (L2.CX P w) 6 C "in_rooms" ["self"] (sp_Table_in_rooms K C cl)) (h_in_rooms_rooms : Ok P w K mg base (L2.CX P w) 5 "in_rooms_rooms" ["bids"] (sp_in_rooms K cl)) : Ok P w K mg base (L2.CX P w) 7 "_law_held" ["_law_table", "_law_rows", "_law_goods", "_law_held_here"] (sp__law_held K C cl) := by
  refine okX_of D sc__law_held (fun vs H Q E h => by obtain ⟨_, _, _, _, rfl, _⟩ := h; rfl) (fun f cdv A outer s H vs Q E hr h => ⟨_, (pss_cons (ps_if (pt_cmpR (eqK (K := K) hr.units) (pv 1) (pe_lst pa_nil) (nomark _))
        (pss_one (ps_ret pe_bl))
        pss_nil)
      (pss_cons (ps_expr (pe_bm PySem.F.plainAttrs_list PySem.F.slot_list_append PySem.F.type_list_append mt_append (pv 3) (pa_cons (pe_tup (pa_cons (pe_okM0 h_Table_in_heaps T hr (pv 0) (passes_call (takes_of rfl rfl rfl rfl) (fun _ _ _ _ h => h))) (pa_cons (pe_ok h__law_by_bids (hr.mono (by decide)) (by rfl) pass0 (pa_cons (pv 1) (pa_cons (pv 2) pa_nil))) pa_nil))) pa_nil)))
      (pss_cut (ps_if (PW.pt (pw_and (pt_cmpR op_eq (pe_op op_mod (pe_callB (lenK (K := K)) (by rfl) B.len PySem.boot_len (pa_cons (pv 3) pa_nil)) pe_int) pe_int (nomark _)) (pw_and1 (pt_cmpR op_le (pv 2) (pe_callB (lenK (K := K)) (by rfl) B.len PySem.boot_len (pa_cons (pv 1) pa_nil)) (nomark _)))))
        (pss_one (ps_expr (pe_bm PySem.F.plainAttrs_list PySem.F.slot_list_append PySem.F.type_list_append mt_append (pv 3) (pa_cons (pe_tup (pa_cons (pe_okM0 h_Table_in_rooms T hr (pv 0) (passes_call (takes_of rfl rfl rfl rfl) (fun _ _ _ _ h => h))) (pa_cons (pe_okS h_in_rooms_rooms (hr.mono (by decide)) (by rfl) (fun σ => passAt (takes_of rfl rfl rfl rfl) σ) (pa_cons (pe_lc (own := [("_law_row", 4)]) rfl sc__law_held.nd  (pi_listK (K := K) (pv 1)) (blkOk_by (own := [("_law_row", 4)]) (N := ["_law_table", "_law_rows", "_law_goods", "_law_held_here", "_law_row"]) (sc := (defScope s__law_held)) (by decide +kernel)) (fun _ _ _ _ _ => (pg_name (i := 4) sc__law_held.nd rfl (Or.inl rfl))) (fun _ _ _ _ _ => pts_nil) (fun _ _ _ _ _ => (pe_callTy (listK (K := K)) (by rfl) B.list (by decide +kernel) (pa_cons (pv 4) pa_nil)))) pa_nil)) pa_nil))) pa_nil))))
        pss_nil)
      (pss_one (ps_ret (pe_and (pe_cmpR (eqK (K := K) hr.units) (pe_ix (ixT (K := K)) (pe_ix (ixL (K := K)) (pv 3) (pe_un un_neg pe_int) (fun _ _ => rfl)) pe_int (fun _ _ => rfl)) (pe_ix (ixT (K := K)) (pe_ix (ixL (K := K)) (pv 3) (pe_un un_neg pe_int) (fun _ _ => rfl)) pe_int (fun _ _ => rfl)) (nomark _)) (pe_one (pe_cmpR (eqK (K := K) hr.units) (pe_ix (ixT (K := K)) (pe_ix (ixL (K := K)) (pv 3) (pe_op op_sub (pe_callB (lenK (K := K)) (by rfl) B.len PySem.boot_len (pa_cons (pv 3) pa_nil)) pe_int) (fun _ _ => rfl)) pe_int (fun _ _ => rfl)) (pe_ix (ixT (K := K)) (pe_ix (ixL (K := K)) (pv 3) (pe_op op_sub (pe_callB (lenK (K := K)) (by rfl) B.len PySem.boot_len (pa_cons (pv 3) pa_nil)) pe_int) (fun _ _ => rfl)) pe_int (fun _ _ => rfl)) (nomark _))))))))), ?_⟩)
  obtain ⟨x, y, z, u, rfl, ms, p, b, a, hh, rows, g, past, vs, rfl, rfl, rfl, rfl, A, hT, W, mh, hhh, hvl, hH, nph, nbh, q⟩ := h
  have hrl := iv_len rows
  have mh3 : hh ∈ p :: b :: ms := List.mem_cons_of_mem _ (List.mem_cons_of_mem _ mh)
  have itm : ∀ {H' : Hp}, ∀ ys ∈ iv rows, ∀ y ∈ ys, Itm K H' y := fun {H'} ys m y hy => by
    obtain ⟨z, _, rfl⟩ := List.mem_map.mp m
    exact itm_ints z y hy
  refine q_when (et_is (et_test (ev_none (ev_var rfl) (hT.mono msk_le).lv itm)) (by rw [hrl])) (fun h H1 e1 => ?_) fun h H1 e1 => ?_
  · exact s_ret ev_c fun H2 e2 => q H2 vs (msk_le.trans (e1.trans e2)) ((e1.trans e2) _ _ hhh) (hH.mono (Ex.msk (e1.trans e2))) (by omega)
  have n0 : rows.length ≠ 0 := of_decide_eq_false h
  have nr : rows ≠ [] := fun z => n0 (by rw [z]; rfl)
  have hpos : 0 < rows.length := by omega
  have hB := W.bids hpos
  have dF : dueQ false rows g = 0 := by
    unfold dueQ
    rw [if_neg nr, if_neg fun z => nomatch z.1]
  have A1 := A.mono e1
  obtain ⟨⟨dx, r, hp, _⟩, _⟩ := id A1
  have nm : ∀ {m : Str}, ¬ m = "_rows" → ¬ m = "_goods" → ¬ m = "_before" → (fldT r b g).lookup m = none := fldT_no r b g
  refine q_dr ⟨.ref hh, rfl, Or.inl ⟨rfl, _, sq_of (e1 _ _ hhh)⟩, g_cons (g_tup (g_cons (g_meth (ev_var rfl) hp (nm (by decide +kernel) (by decide +kernel) (by decide +kernel)) fun H2 e2 => g_nil ⟨_, rfl, ms, p, b, rows, g, past, rfl, A1.mono e2, W, fun _ d1 hp1 sp1 hps1 H3 D1 e3 =>
    g_cons (g_call (ea_cons (ev_var rfl) (ea_cons (ev_var rfl) ea_nil) H3 (Ex.refl _) _ fun H4 e4 => ⟨_, _, rfl, a, rows, g, rfl, rfl, ((hT.mono msk_le).mono (((e1.trans e2).trans e3).trans e4)).lv, hB, fun d2 hp2 sp2 hps2 H5 D2 e5 => g_nil ⟨sz_of (by show 2 ≤ 100000; omega), fun w hw => g_nil ⟨hh, vs.map V.ref, .ref w, rfl, rfl, ?_, sz_lt (by rw [List.length_map]; omega), ?_⟩⟩⟩)), fun h => absurd dF h⟩)))⟩
  · exact ((((e1.trans e2).trans e3).trans (e4.trans e5)).trans (Ex.new hw)) _ _ hhh
  have e05 := ((e1.trans e2).trans e3).trans (e4.trans e5)
  have D1' := ((D1.back (e1.trans e2)).ext (e4.trans e5)).nw
  have D2' := (D2.back (((e1.trans e2).trans e3).trans e4)).nw
  have H6H := HeldD.push (o := .lst (vs.map V.ref ++ [.ref w])) hH e05 A.kn2 mh3 hw D1' D2'
  have x6 : Ex (Fs.msk H [hh]) (upd (upd H5 w (.tup [.ref d1, .ref d2])) hh (.lst (vs.map V.ref ++ [.ref w]))) := fun c o h => by
    obtain ⟨h1, h2⟩ := msk_of h
    rw [upd_ne fun z => h2 (by rw [z]; exact List.mem_singleton.mpr rfl)]
    exact (e05.trans (Ex.new hw)) _ _ h1
  have h6 : (upd (upd H5 w (.tup [.ref d1, .ref d2])) hh (.lst (vs.map V.ref ++ [.ref w]))) hh = some (.lst ((vs ++ [w]).map V.ref)) := by rw [upd_same, List.map_append]; rfl
  generalize upd (upd H5 w (.tup [.ref d1, .ref d2])) hh (.lst (vs.map V.ref ++ [.ref w])) = H6 at H6H x6 h6
  have A6 : TabAt C ms H6 p b rows g past := A.keep x6 (fun c m => by rw [List.mem_singleton.mp m]; exact mh) (fun m => nph (List.mem_singleton.mp m)) (fun m => nbh (List.mem_singleton.mp m)) fun c m => by rw [List.mem_singleton.mp m]; exact some_nn h6
  have e6m := ex_mm x6 (m := p :: b :: ms) fun c m => by rw [List.mem_singleton.mp m]; exact mh3
  have hT6 := hT.mono e6m
  have hl1 : (vs ++ [w]).length = vs.length + 1 := by rw [List.length_append]; rfl
  obtain ⟨vs1, hv1⟩ : ∃ vs1, vs1 = vs ++ [w] := ⟨_, rfl⟩
  rw [← hv1] at H6H h6 hl1
  refine q_cut (M := fun σ H' => ∃ vs2, σ = [some (.ref p), some (.ref a), some (.int (g : Int)), some (.ref hh), none] ∧ Ex (Fs.msk H [hh]) H' ∧ H' hh = some (.lst (vs2.map V.ref)) ∧ HeldD (Fs.msk H' (p :: b :: ms)) vs2 ∧ vs2.length ≤ vs.length + 2 ∧ 0 < vs2.length) ?_ ?_
  · refine s_when (et_and (et_test (ev_op (ev_op (ev_len (ev_var rfl) (sq_of h6)) ev_c (rv_I (by show (0 : Int) < 8; decide))) ev_c (rv_eq rfl))) fun _ => et_test (ev_op (ev_var rfl) (ev_is (ev_lenLL (hT6.mono msk_le).lv (ev_var rfl)) (by rw [hrl])) rv_I0)) (fun hb H7 e7 => ?_) fun _ H7 e7 => ⟨vs1, rfl, x6.trans e7, e7 _ _ h6, H6H.mono (Ex.msk e7), by omega, by omega⟩
    have hg := of_decide_eq_true (Bool.and_eq_true_iff.mp hb).2
    have dR : dueQ true rows g = 0 := by
      unfold dueQ
      rw [if_neg nr, if_neg fun z => by have := z.2; omega]
    have A7 := A6.mono e7
    obtain ⟨⟨dx7, r7, hp7, _⟩, _⟩ := id A7
    have dRw := (dueR_wf W).trans dR
    refine g_drop ⟨.ref hh, rfl, Or.inl ⟨rfl, _, sq_of (e7 _ _ h6)⟩, g_cons (g_tup (g_cons (g_meth (ev_var rfl) hp7 (fldT_no r7 b g (by decide +kernel) (by decide +kernel) (by decide +kernel)) fun H8 e8 => g_nil ⟨_, rfl, ms, p, b, rows, g, past, rfl, A7.mono e8, W, fun _ d3 hp3 sp3 hps3 H9 D3 e9 =>
      g_cons (g_cons (en_copy (ev_var rfl) ((hT6.mono msk_le).mono ((e7.trans e8).trans e9)).lv (by rw [hrl]; have := W.l9; omega) (fun _ => rfl) (fun _ => rfl) H9 (Ex.refl _) _ fun c cs H10 Lc e10 => g_nil ⟨_, rfl, c, iv rows, rfl, Lc.lv, any_flat rows, fun _ => Lc.tv, fun _ d4 hp4 sp4 hps4 H11 D4 e11 => g_nil ⟨sz_of (by show 2 ≤ 100000; omega), fun w2 hw2 => g_nil ⟨hh, vs1.map V.ref, .ref w2, rfl, rfl, ?_, sz_lt (by rw [List.length_map]; omega), ?_⟩⟩, fun h => absurd dRw h⟩)), fun h => absurd dR h⟩)))⟩
    · exact (((e7.trans e8).trans e9).trans ((e10.trans e11).trans (Ex.new hw2))) _ _ h6
    have e611 := ((e7.trans e8).trans e9).trans (e10.trans e11)
    rw [hsOf_vi, (dueB_wf W nr).2] at D4
    have D3' := ((D3.back (e7.trans e8)).ext (e10.trans e11)).nw
    have D4' := (D4.back (((e7.trans e8).trans e9).trans e10)).nw
    have H12H := HeldD.push (o := .lst (vs1.map V.ref ++ [.ref w2])) H6H e611 A6.kn2 mh3 hw2 D3' D4'
    refine ⟨vs1 ++ [w2], rfl, fun c o h => ?_, by rw [upd_same, List.map_append]; rfl, H12H, by rw [List.length_append]; show _ + 1 ≤ _; omega, by rw [List.length_append]; omega⟩
    obtain ⟨h1, h2⟩ := msk_of h
    rw [upd_ne fun z => h2 (by rw [z]; exact List.mem_singleton.mpr rfl)]
    exact (e611.trans (Ex.new hw2)) _ _ (x6 _ _ h)
  rintro σ H7 ⟨vs2, rfl, x7, h7, H7H, hl2, hpos2⟩
  have same : ∀ {tk : TE} {k : Int} {v : Addr}, Ev tk [some (.ref p), some (.ref a), some (.int (g : Int)), some (.ref hh), none] H7 (.int k) → v ∈ vs2 → atI (vs2.map V.ref) k = some (.ref v) → Ev (tOp (rEqD K) (tOp (rIxT K) (tOp (rIxL K) (tVar 3) tk) (tC (.int 0))) (tOp (rIxT K) (tOp (rIxL K) (tVar 3) tk) (tC (.int 1)))) [some (.ref p), some (.ref a), some (.int (g : Int)), some (.ref hh), none] H7 (.bl true) := fun {tk k v} hk m hat => by
    obtain ⟨d1, d2, hs, ss, h1, h2, h3⟩ := H7H v m
    exact ev_op (ev_op (ev_op (ev_var rfl) hk (rv_ixL (sq_of h7) hat)) ev_c (rv_ixT (st_of (msk_le _ _ h1)) (at_k (k := 0) rfl))) (ev_op (ev_op (ev_var rfl) hk (rv_ixL (sq_of h7) hat)) ev_c (rv_ixT (st_of (msk_le _ _ h1)) (at_k (k := 1) rfl))) (rv_eqDeal (h2.mono msk_le) (h3.mono msk_le))
  obtain ⟨v1, m1, a1⟩ := at_m1 hpos2
  obtain ⟨v2, m2, a2⟩ := at_m2 hpos2
  exact s_ret (ev_andV (a := true) (b := true) (same (ev_un ev_c ru_neg) m1 a1) fun _ => same (ev_is (ev_op (ev_len (ev_var rfl) (sq_of h7)) ev_c rv_I0) (by rw [List.length_map])) m2 a2) fun H8 e8 => q H8 vs2 (x7.trans e8) (e8 _ _ h7) (H7H.mono (Ex.msk e8)) hl2
end
/-! ### law -/
abbrev s_law : Stmt := topS 58
theorem sc_law : FnScope ["_law_script", "_law_held_here", "_law_table", "_law_first", "_law_rows", "_law_goods", "_law_past", "_law_k", "_law_deed_here", "_law_due_here", "_law_told_here"] ["_law_script"] (defScope s_law) := ⟨rfl, rfl, rfl, by decide +kernel, rfl, by decide +kernel, by decide +kernel⟩
theorem next_base {d : Deed} {rows : List (List Int)} {g : Nat} {bs past : Past} (h : d ≠ .back ∨ past ≠ []) : nextE d rows g (bs ++ past) = ((nextE d rows g past).1, (nextE d rows g past).2.1, bs ++ (nextE d rows g past).2.2) := by
  by_cases db : d = .back
  · subst db
    obtain ⟨past', x, rfl⟩ := last_of (h.resolve_left fun z => z rfl)
    rw [← List.append_assoc, next_back, next_back]
  · rw [next_do db, next_do db, List.append_assoc]
theorem word_b (d : Deed) : decide (V.str d.word = V.str "back") = true ↔ d = .back := by
  match d with
  | .come _ => exact ⟨fun h => absurd h (by show ¬ decide (V.str "come" = V.str "back") = true; decide +kernel), fun h => nomatch h⟩
  | .leave _ => exact ⟨fun h => absurd h (by show ¬ decide (V.str "leave" = V.str "back") = true; decide +kernel), fun h => nomatch h⟩
  | .put _ => exact ⟨fun h => absurd h (by show ¬ decide (V.str "put" = V.str "back") = true; decide +kernel), fun h => nomatch h⟩
  | .take _ => exact ⟨fun h => absurd h (by show ¬ decide (V.str "take" = V.str "back") = true; decide +kernel), fun h => nomatch h⟩
  | .bid _ _ _ => exact ⟨fun h => absurd h (by show ¬ decide (V.str "bid" = V.str "back") = true; decide +kernel), fun h => nomatch h⟩
  | .back => exact ⟨fun _ => rfl, fun _ => (by decide +kernel : decide (V.str "back" = V.str "back") = true)⟩
theorem word_f {d : Deed} (h : d ≠ .back) : decide (V.str d.word = V.str "back") = false := by
  cases z : decide (V.str d.word = V.str "back") with
  | false => rfl
  | true => exact absurd ((word_b d).mp z) h
/-- what the law keeps: the rows, the states before -/
structure Lw (L : List Addr) (H : Hp) (pp rr : Addr) (rows : List (List Int)) (past : Past) : Prop where
  ro : TV (Fs.msk H L) rr (iv rows)
  pa : ∃ us : List Addr, H pp = some (.lst (us.map V.ref)) ∧ PastAt (Fs.msk H L) us past
structure W13 (C : Addr) (H : Hp) (p b pp hh rr : Addr) (bs : Past) (rows : List (List Int)) (g : Nat) (past : Past) (k : Nat) : Prop where
  ta : TabAt C [pp, hh] H p b rows g (bs ++ past)
  lw : Lw [p, b, pp, hh] H pp rr rows past
  he : ∃ vs : List Addr, H hh = some (.lst (vs.map V.ref)) ∧ HeldD (Fs.msk H [p, b, pp, hh]) vs ∧ vs.length ≤ 2 * k
  wf : WfT rows g
  wp : ∀ x ∈ past, WfT x.1 x.2
  le : past.length ≤ k
theorem W13.mono {C : Addr} {H H' : Hp} {p b pp hh rr : Addr} {bs : Past} {rows : List (List Int)} {g : Nat} {past : Past} {k : Nat} (W : W13 C H p b pp hh rr bs rows g past k) (e : Ex H H') : W13 C H' p b pp hh rr bs rows g past k := by
  obtain ⟨us, h1, h2⟩ := W.lw.pa
  obtain ⟨vs, h3, h4, h5⟩ := W.he
  exact ⟨W.ta.mono e, ⟨W.lw.ro.mono (Ex.msk e), us, e _ _ h1, h2.mono (Ex.msk e)⟩, ⟨vs, e _ _ h3, h4.mono (Ex.msk e), h5⟩, W.wf, W.wp, W.le⟩
theorem q_ifnot {σ : L2.St} {H : Hp} {te : TE} {tu tz : TS} {D : Ends} (h : te σ H fun x H1 => ∃ k, x = .bl k ∧ if (!k) = true then tu { D with nx := tz D } σ H1 else tz D σ H1) : tSeq (tIfS (tNot (tB te)) tu tNext) tz D σ H := h
theorem len_0 {α : Type} {x : List α} : decide (x.length = 0) = x.isEmpty := by cases x <;> rfl
def sp_law (K : PySem.W.Frag) : Sp := sp1 fun x H Q => ∃ (a : Addr) (ns : List Int), x = .ref a ∧ ns.length ≤ 63 ∧ SqL K H a (ns.map V.int) ∧ ∀ H', Q (.bl true) H'
theorem law_start {K : PySem.W.Frag} {H : Hp} {a : Addr} {ns : List Int} (hl : ns.length ≤ 63) (hS : SqL K H a (ns.map V.int)) : sp_law K [.ref a] H (fun v _ => v = .bl true) (fun _ _ _ => False) := ⟨.ref a, rfl, a, ns, rfl, hl, hS, fun _ => rfl⟩
section
variable {P : Program} {w : World} {K : PySem.W.Frag} {mg : Str → Option Value} {base : Heap} {cl : Nat → Addr} {C : Addr}
theorem ok_law (D : DnX K mg "law" s_law ["_law_script"]) (B : Bt mg) (T : TabC K mg C) (h_Table___init__ : OkM P w K mg base CX0 1 C "__init__" ["self"] (sp_Table___init__ K C)) (h__law_cell : Ok P w K mg base CX0 1 "_law_cell" ["_law_script", "_law_k"] (sp__law_cell K)) (h_Table_put : OkM P w K mg base (L2.CX P w) 4 C "put" ["self", "column"] (sp_Table_put K C cl)) (h_Table_come : OkM P w K mg base (L2.CX P w) 4 C "come" ["self", "row"] (sp_Table_come K C cl)) (h__law_deed : Ok P w K mg base CX0 3 "_law_deed" ["_law_cell_here", "_law_rows", "_law_goods"] (sp__law_deed K)) (h__law_due : Ok P w K mg base CX0 4 "_law_due" ["_law_deed_here", "_law_rows", "_law_goods"] (sp__law_due K)) (h__law_made_good : Ok P w K mg base (L2.CX P w) 8 "_law_made_good" ["_law_first"] (sp__law_made_good K C cl)) (h__law_told : Ok P w K mg base CX0 6 "_law_told" ["_law_table", "_law_deed_here"] (sp__law_told K C)) (h__law_behind : Ok P w K mg base CX0 1 "_law_behind" ["_law_deed_here", "_law_rows"] (sp__law_behind K)) (h__law_held : Ok P w K mg base (L2.CX P w) 7 "_law_held" ["_law_table", "_law_rows", "_law_goods", "_law_held_here"] (sp__law_held K C cl)) (h__law_fair : Ok P w K mg base (L2.CX P w) 8 "_law_fair" ["_law_table", "_law_rows", "_law_goods", "_law_rooms"] (sp__law_fair K C cl)) : Ok P w K mg base (L2.CX P w) 9 "law" ["_law_script"] (sp_law K) := by
  refine okX_of D sc_law (fun vs H Q E h => by obtain ⟨_, rfl, _⟩ := h; rfl) (fun f cdv A outer s H vs Q E hr h => ⟨_, (pss_cons (ps_set (i := 1) sc_law.nd rfl (Or.inl rfl) (pe_lst pa_nil))
      (pss_cons (ps_set (i := 2) sc_law.nd rfl (Or.inl rfl) (pe_mkT h_Table___init__ T (hr.mono (by decide)) (by rfl) pass0))
      (pss_cons (ps_set (i := 3) sc_law.nd rfl (Or.inl rfl) (pe_ok h__law_cell (hr.mono (by decide)) (by rfl) pass0 (pa_cons (pv 0) (pa_cons pe_int pa_nil))))
      (pss_cons (ps_set (i := 4) sc_law.nd rfl (Or.inl rfl) (pe_lst (pa_cons (pe_lst (pa_cons (pe_op op_mod (pv 3) pe_int) (pa_cons (pe_op op_mod (pe_op op_fdiv (pv 3) pe_int) pe_int) pa_nil))) (pa_cons (pe_lst (pa_cons (pe_op op_mod (pe_op op_fdiv (pv 3) pe_int) pe_int) (pa_cons (pe_op op_mod (pe_op op_fdiv (pv 3) pe_int) pe_int) pa_nil))) pa_nil))))
      (pss_cons (ps_expr (pe_okM h_Table_put T (hr.mono (by decide)) (pv 2) (passes_call (takes_of rfl rfl rfl rfl) (fun _ _ _ _ h => h)) (pa_cons (pe_lst pa_nil) pa_nil)))
      (pss_cons (ps_expr (pe_okM h_Table_put T (hr.mono (by decide)) (pv 2) (passes_call (takes_of rfl rfl rfl rfl) (fun _ _ _ _ h => h)) (pa_cons (pe_lst pa_nil) pa_nil)))
      (pss_cons (ps_expr (pe_okM h_Table_come T (hr.mono (by decide)) (pv 2) (passes_call (takes_of rfl rfl rfl rfl) (fun _ _ _ _ h => h)) (pa_cons (pe_callTy (listK (K := K)) (by rfl) B.list (by decide +kernel) (pa_cons (pe_ix (ixL (K := K)) (pv 4) pe_int (fun _ _ => rfl)) pa_nil)) pa_nil)))
      (pss_cons (ps_expr (pe_okM h_Table_come T (hr.mono (by decide)) (pv 2) (passes_call (takes_of rfl rfl rfl rfl) (fun _ _ _ _ h => h)) (pa_cons (pe_callTy (listK (K := K)) (by rfl) B.list (by decide +kernel) (pa_cons (pe_ix (ixL (K := K)) (pv 4) pe_int (fun _ _ => rfl)) pa_nil)) pa_nil)))
      (pss_cons (ps_set (i := 5) sc_law.nd rfl (Or.inl rfl) pe_int)
      (pss_cons (ps_set (i := 6) sc_law.nd rfl (Or.inl rfl) (pe_lst pa_nil))
      (pss_cons (ps_for (passes_of rfl) rfl (pi_range2 (by rfl) B.range (pa_cons pe_int (pa_cons (pe_callB (lenK (K := K)) (by rfl) B.len PySem.boot_len (pa_cons (pv 0) pa_nil)) pa_nil))) (pg_name (i := 7) sc_law.nd rfl (Or.inl rfl))
        (pss_cons (ps_set (i := 8) sc_law.nd rfl (Or.inl rfl) (pe_ok h__law_deed (hr.mono (by decide)) (by rfl) pass0 (pa_cons (pe_ix (ixL (K := K)) (pv 0) (pv 7) (fun _ _ => rfl)) (pa_cons (pv 4) (pa_cons (pv 5) pa_nil)))))
        (pss_cons (ps_set (i := 9) sc_law.nd rfl (Or.inl rfl) (pe_ok h__law_due (hr.mono (by decide)) (by rfl) pass0 (pa_cons (pv 8) (pa_cons (pv 4) (pa_cons (pv 5) pa_nil)))))
        (pss_cut (ps_if (PW.pt (pw_or (pt_cmpR op_ne (pe_ix (ixL (K := K)) (pv 8) pe_int (fun _ _ => rfl)) pe_str (nomark _)) (pw_or1 (pt_cmpR (neK (K := K) hr.units) (pv 6) (pe_lst pa_nil) (nomark _)))))
          (pss_one (ps_expr (pe_ok h__law_told (hr.mono (by decide)) (by rfl) pass0 (pa_cons (pv 2) (pa_cons (pv 8) pa_nil)))))
          pss_nil)
        (pss_cut (ps_if (PW.pt (pw_and (pt_cmpR op_eq (pe_ix (ixL (K := K)) (pv 8) pe_int (fun _ _ => rfl)) pe_str (nomark _)) (pw_and1 (pt_cmpR (neK (K := K) hr.units) (pv 6) (pe_lst pa_nil) (nomark _)))))
          (pss_one (ps_asg (pe_bm0 PySem.F.plainAttrs_list PySem.F.slot_list_pop PySem.F.type_list_pop mt_pop (pv 6)) (pg_tupK (K := K) (n := 2) rfl (pgs_cons (pg_name (i := 4) sc_law.nd rfl (Or.inl rfl)) (pgs_cons (pg_name (i := 5) sc_law.nd rfl (Or.inl rfl)) pgs_nil)))))
          pss_nil)
        (pss_cut (ps_if (PW.pt (pw_and (pt_cmpR op_ne (pe_ix (ixL (K := K)) (pv 8) pe_int (fun _ _ => rfl)) pe_str (nomark _)) (pw_and1 (pt_cmpR op_eq (pv 9) pe_str (nomark _)))))
          (pss_cons (ps_expr (pe_bm PySem.F.plainAttrs_list PySem.F.slot_list_append PySem.F.type_list_append mt_append (pv 6) (pa_cons (pe_tup (pa_cons (pv 4) (pa_cons (pv 5) pa_nil))) pa_nil)))
          (pss_cons (ps_set (i := 4) sc_law.nd rfl (Or.inl rfl) (pe_ok h__law_behind (hr.mono (by decide)) (by rfl) pass0 (pa_cons (pv 8) (pa_cons (pv 4) pa_nil))))
          (pss_one (ps_set (i := 5) sc_law.nd rfl (Or.inl rfl) (pe_op op_sub (pe_op op_add (pv 5) (pe_callTy call_int1 (by rfl) B.int (by decide +kernel) (pa_cons (pe_cmpR op_eq (pe_ix (ixL (K := K)) (pv 8) pe_int (fun _ _ => rfl)) pe_str (nomark _)) pa_nil))) (pe_callTy call_int1 (by rfl) B.int (by decide +kernel) (pa_cons (pe_cmpR op_eq (pe_ix (ixL (K := K)) (pv 8) pe_int (fun _ _ => rfl)) pe_str (nomark _)) pa_nil)))))))
          pss_nil)
        (pss_cons (ps_if (pt_not (pt_val (pe_okS h__law_held (hr.mono (by decide)) (by rfl) (fun σ => passAt (takes_of rfl rfl rfl rfl) σ) (pa_cons (pv 2) (pa_cons (pv 4) (pa_cons (pv 5) (pa_cons (pv 1) pa_nil)))))))
          (pss_one (ps_ret pe_bl))
          pss_nil)
        (pss_one (ps_if (PW.pt (pw_and (pt_cmpR op_eq (pv 7) (pe_op op_fdiv (pe_callB (lenK (K := K)) (by rfl) B.len PySem.boot_len (pa_cons (pv 0) pa_nil)) pe_int) (nomark _)) (pw_and1 (pt_not (pt_val (pe_okS h__law_fair hr (by rfl) (fun σ => passAt (takes_of rfl rfl rfl rfl) σ) (pa_cons (pv 2) (pa_cons (pv 4) (pa_cons (pv 5) (pa_cons (pe_cmpR op_eq (pe_op op_mod (pe_op op_fdiv (pv 3) pe_int) pe_int) pe_int (nomark _)) pa_nil))))))))))
          (pss_one (ps_ret pe_bl))
          pss_nil)))))))))
      (pss_cons (ps_for (passes_of rfl) rfl (pi_range1 (by rfl) B.range (pa_cons pe_int pa_nil)) (pg_name (i := 7) sc_law.nd rfl (Or.inl rfl))
        (pss_one (ps_if (pt_not (pt_val (pe_okS h__law_fair hr (by rfl) (fun σ => passAt (takes_of rfl rfl rfl rfl) σ) (pa_cons (pv 2) (pa_cons (pv 4) (pa_cons (pv 5) (pa_cons (pe_cmpR op_eq (pe_op op_mod (pv 7) pe_int) pe_int (nomark _)) pa_nil)))))))
          (pss_one (ps_ret pe_bl))
          pss_nil)))
      (pss_one (ps_ret (pe_and (pe_cmpR (eqK (K := K) hr.units) (pe_lc (own := [("_law_told_here", 10), ("_law_due_here", 9)]) rfl sc_law.nd  (pi_listK (K := K) (pv 1)) (blkOk_by (own := [("_law_told_here", 10), ("_law_due_here", 9)]) (N := ["_law_script", "_law_held_here", "_law_table", "_law_first", "_law_rows", "_law_goods", "_law_past", "_law_k", "_law_deed_here", "_law_due_here", "_law_told_here"]) (sc := (defScope s_law)) (by decide +kernel)) (fun _ _ _ _ _ => (pg_tupK (K := K) (n := 2) rfl (pgs_cons (pg_name (i := 10) sc_law.nd rfl (Or.inl rfl)) (pgs_cons (pg_name (i := 9) sc_law.nd rfl (Or.inl rfl)) pgs_nil)))) (fun _ _ _ _ _ => (pts_one (pt_cmpR (neK (K := K) hr.units) (pv 10) (pv 9) (nomark _)))) (fun _ _ _ _ _ => pe_int)) (pe_lst pa_nil) (nomark _)) (pe_one (pe_okS h__law_made_good hr (by rfl) (fun σ => passAt (takes_of rfl rfl rfl rfl) σ) (pa_cons (pv 3) pa_nil)))))))))))))))))), ?_⟩)
  obtain ⟨x, rfl, a, ns, rfl, hl63, hS, q⟩ := h
  refine q_asgL (el_lst ea_nil (by decide)) fun hh H1 hhn e1 h1 => ?_
  -- the table
  refine q_set (fun p dx hp hdx hne => ⟨.ref p, rfl, p, dx, rfl, upd_same, fun b H2 hb A2 e2 => ⟨rfl, ?_⟩⟩)
  have hb0 : H1 b = none := by
    have hbp : b ≠ p := fun z => by rw [z, upd_same] at hb; cases hb
    have hbd : b ≠ dx := fun z => by rw [z, upd_ne hne, upd_same] at hb; cases hb
    rwa [upd_ne hbp, upd_ne hbd] at hb
  have nhp : hh ≠ p := ne_of_none h1 hp
  have e12 : Ex H1 H2 := fun a o h => e2 _ _ (by
    have hap : a ≠ p := ne_of_none h hp
    rw [msk_at (by simpa using hap), upd_ne hap, upd_ne (ne_of_none h hdx)]
    exact h)
  have A2 := A2 [hh] (fun c m => by rw [List.mem_singleton.mp m, upd_ne nhp, upd_ne (ne_of_none h1 hdx), h1]; intro z; cases z) (fun m => nhp (List.mem_singleton.mp m).symm)
  have nhb : hh ≠ b := ne_of_none h1 hb0
  have ex2 := e1.trans e12
  have S2 := ex_l ex2 hS
  refine q_asg (ev_cell rfl S2 ev_c (by decide)) fun H3 e3 => ?_
  generalize cellM ns 0 = f
  obtain ⟨r0, hr0⟩ : ∃ r0 : List Int, r0 = [f % 5, f / 5 % 5] := ⟨_, rfl⟩
  obtain ⟨r1, hr1⟩ : ∃ r1 : List Int, r1 = [f / 25 % 5, f / 125 % 5] := ⟨_, rfl⟩
  have k0 : r0.length = 2 ∧ ∀ x ∈ r0, 0 ≤ x ∧ x ≤ 1000000000000 := by rw [hr0]; exact two_row (by omega) (by omega)
  have k1 : r1.length = 2 ∧ ∀ x ∈ r1, 0 ≤ x ∧ x ≤ 1000000000000 := by rw [hr1]; exact two_row (by omega) (by omega)
  have W01 : WfT [r0, r1] 2 := wf2 (by show 2 ≤ 9; decide) (by decide) fun r m => by
    rcases List.mem_cons.mp m with rfl | m
    · exact k0
    · rw [List.mem_singleton.mp m]; exact k1
  have row : ∀ {H' : Hp} {v1 v2 : Int} {t1 t2 : TE} {σ : L2.St}, Ev t1 σ H' (.int v1) → Ev t2 σ H' (.int v2) → EvL (tLst (tCons t1 (tCons t2 tNil))) σ H' ([v1, v2].map V.int) := fun h1 h2 => el_lst (ea_cons h1 (ea_cons h2 ea_nil)) (by show 2 ≤ 100000; decide)
  have m5 : ∀ {σ : L2.St} {H' : Hp} {te : TE} {v : Int}, Ev te σ H' (.int v) → Ev (tOp (rI (fun _ j => 0 < j) fun i j => .int (i % j)) te (tC (.int 5))) σ H' (.int (v % 5)) := fun h => ev_op h ev_c (rv_I (by show (0 : Int) < 5; decide))
  have dv : ∀ {σ : L2.St} {H' : Hp} {k : Int}, σ[3]? = some (some (.int f)) → CDiv f k → Ev (tOp (rI CDiv fun i j => .int (i / j)) (tVar 3) (tC (.int k))) σ H' (.int (f / k)) := fun h hk => ev_op (ev_var h) ev_c (rv_I hk)
  refine q_set (g_lst2F (row (m5 (ev_var rfl)) (m5 (dv rfl ⟨by decide, by decide⟩))) (row (m5 (dv rfl ⟨by decide, by decide⟩)) (m5 (dv rfl ⟨by decide, by decide⟩))) fun ra u0 u1 H4 hra hu0 hu1 e4 g0 g1 g2 => ?_)
  rw [← hr0] at g0
  rw [← hr1] at g1
  have A4 := A2.mono (e3.trans e4)
  have k3 := (A2.mono e3).kn2
  have npb : ∀ {c : Addr}, H3 c = none → c ∉ [p, b] ∧ c ≠ hh := fun {c} h => ⟨fun m => by
    rcases List.mem_cons.mp m with rfl | m
    · exact k3 _ (by simp) h
    · rw [List.mem_singleton.mp m] at h; exact k3 b (by simp) h, fun z => k3 hh (by simp) (z ▸ h)⟩
  have hTa : TV (Fs.msk H4 [p, b, hh]) ra (iv [r0, r1]) := by
    have nn : ∀ {c : Addr}, H3 c = none → c ∉ [p, b, hh] := fun {c} h m => by
      simp only [List.mem_cons, List.not_mem_nil, or_false] at m
      rcases m with rfl | rfl | rfl
      · exact (npb h).1 (by simp)
      · exact (npb h).1 (by simp)
      · exact (npb h).2 rfl
    exact tv_two (by rw [msk_at (nn hra)]; exact g2) (by rw [msk_at (nn hu0)]; exact g0) (by rw [msk_at (nn hu1)]; exact g1)
  have ell : ∀ {σ : L2.St} {H1 : Hp} {Q : VK}, (∀ l H2, Ex H1 H2 → SqL K H2 l (([] : List Int).map V.int) → Q (.ref l) H2) → tLst tNil σ H1 Q := fun k => el_lst ea_nil (by decide) _ (Ex.refl _) _ fun a H2 ha e h => k a H2 e (sq_of h)
  refine q_putT (r := []) rfl A4 wf_nil (by decide) rfl (fun H' e Q k => ell k) fun H5 e5 A5 => ?_
  have A5 : TabAt C [hh] H5 p b [] 1 [([], 0)] := A5
  refine q_putT (r := []) rfl A5 (wf_e 1 (by decide)) (by show 1 < 90000; decide) rfl (fun H' e Q k => ell k) fun H6 e6 A6 => ?_
  have A6 : TabAt C [hh] H6 p b [] 2 [([], 0), ([], 1)] := A6
  have X6 := two_up e5 e6
  have at4 : ∀ {H' : Hp}, Ex (Fs.msk H4 [p, b]) H' → H' ra = some (.lst [.ref u0, .ref u1]) ∧ H' u0 = some (.lst (r0.map V.int)) ∧ H' u1 = some (.lst (r1.map V.int)) := fun X => ⟨X _ _ (by rw [msk_at (npb hra).1]; exact g2), X _ _ (by rw [msk_at (npb hu0).1]; exact g0), X _ _ (by rw [msk_at (npb hu1).1]; exact g1)⟩
  refine q_comeT (r := r0) rfl A6 (by show 2 < 90000; decide) (dueC_ok (by decide) k0.1 k0.2) (fun H' e Q k => el_list (ev_op (ev_var rfl) ev_c (rv_ixL (sq_of (e _ _ (at4 X6).1)) (at_k (k := 0) rfl))) (sq_of (e _ _ (at4 X6).2.1)) H' (Ex.refl _) _ fun l H2 hl e2 h2 => k l H2 e2 (sq_of h2)) fun H7 e7 A7 => ?_
  have A7 : TabAt C [hh] H7 p b [r0] 2 [([], 0), ([], 1), ([], 2)] := A7
  have X7 := two_up X6 e7
  refine q_comeT (r := r1) rfl A7 (by show 3 < 90000; decide) (dueC_ok (by show 1 < 9; decide) k1.1 k1.2) (fun H' e Q k => el_list (ev_op (ev_var rfl) ev_c (rv_ixL (sq_of (e _ _ (at4 X7).1)) (at_k (k := 1) rfl))) (sq_of (e _ _ (at4 X7).2.2)) H' (Ex.refl _) _ fun l H2 hl e2 h2 => k l H2 e2 (sq_of h2)) fun H8 e8 A8 => ?_
  obtain ⟨bs, hbs⟩ : ∃ bs : Past, bs = [([], 0), ([], 1), ([], 2), ([r0], 2)] := ⟨_, rfl⟩
  have A8 : TabAt C [hh] H8 p b [r0, r1] 2 bs := by rw [hbs]; exact A8
  have hbl : bs.length = 4 := by rw [hbs]; rfl
  have X8 := two_up X7 e8
  refine q_asg (v := .int ((2 : Nat) : Int)) ev_c fun H9 e9 => ?_
  refine q_asgL (el_lst ea_nil (by decide)) fun pp H10 hppn e10 h10 => ?_
  have A9 := A8.mono e9
  have A10 : TabAt C [pp, hh] H10 p b [r0, r1] 2 (bs ++ []) := by rw [List.append_nil]; exact A9.add e10 hppn (some_nn h10)
  have k9 := A9.kn2
  have npp : p ≠ pp ∧ b ≠ pp ∧ hh ≠ pp := ⟨fun z => k9 p (by simp) (z ▸ hppn), fun z => k9 b (by simp) (z ▸ hppn), fun z => k9 hh (by simp) (z ▸ hppn)⟩
  have npbb : p ≠ b := A9.ne
  have hh10 : H10 hh = some (.lst []) := (e9.trans e10) _ _ (X8 _ _ (by rw [msk_at (by simp [nhp, nhb])]; exact (e12.trans (e3.trans e4)) _ _ h1))
  have W10 : W13 C H10 p b pp hh ra bs [r0, r1] 2 [] 0 := by
    refine ⟨A10, ⟨?_, [], h10, rfl, fun i t x h => by simp at h⟩, ⟨[], hh10, (fun v m => nomatch m), Nat.le_refl _⟩, W01, (fun x m => nomatch m), Nat.le_refl _⟩
    have m1 : Ex (Fs.msk H4 [p, b, hh]) (Fs.msk H9 [p, b, hh]) := ex_mm (X8.trans e9) fun a m => by
      simp only [List.mem_cons, List.not_mem_nil, or_false] at m ⊢
      exact m.elim .inl fun m => .inr (.inl m)
    exact (hTa.mono m1).mono (ex_gen fun c o h n => ⟨e10 _ _ h, fun m => by
      simp only [List.mem_cons, List.not_mem_nil, or_false] at m n
      rcases m with m | m | m | m
      · exact n (.inl m)
      · exact n (.inr (.inl m))
      · rw [m, hppn] at h; cases h
      · exact n (.inr (.inr m))⟩)
  have knH : ∀ c ∈ [p, b, pp, hh], H c = none := fun c m => by
    simp only [List.mem_cons, List.not_mem_nil, or_false] at m
    rcases m with rfl | rfl | rfl | rfl
    · exact fresh_back e1 hp
    · exact fresh_back e1 hb0
    · cases z : H c with
      | none => rfl
      | some o =>
        have := (e1.trans (e12.trans (e3.trans e4))) _ _ z
        rw [e9 _ _ (X8 _ _ (by rw [msk_at (by simp [Ne.symm npp.1, Ne.symm npp.2.1])]; exact this))] at hppn
        cases hppn
    · exact hhn
  have Y10 : Ex H (Fs.msk H10 [p, b, pp, hh]) := fun c o h => by
    have n : c ∉ [p, b, pp, hh] := fun m => by rw [knH c m] at h; cases h
    have n2 : c ∉ [p, b] := fun m => n (by
      rcases List.mem_cons.mp m with rfl | m
      · simp
      · rw [List.mem_singleton.mp m]; simp)
    rw [msk_at n]
    exact (e9.trans e10) _ _ (X8 _ _ (by rw [msk_at n2]; exact (e1.trans (e12.trans (e3.trans e4))) _ _ h))
  clear A2 A4 A5 A6 A7 A8 A9 X6 X7 X8 e5 e6 e7 e8 at4 hTa npb k3 e2 hb
  have mpp : pp ∈ [p, b, pp, hh] := by simp
  have mhh : hh ∈ [p, b, pp, hh] := by simp
  have pbL : ∀ a ∈ [p, b], a ∈ [p, b, pp, hh] := fun a m => by
    rcases List.mem_cons.mp m with rfl | m
    · simp
    · rw [List.mem_singleton.mp m]; simp
  have ppL : ∀ a ∈ [pp], a ∈ [p, b, pp, hh] := fun a m => by rw [List.mem_singleton.mp m]; simp
  have hhL : ∀ a ∈ [hh], a ∈ [p, b, pp, hh] := fun a m => by rw [List.mem_singleton.mp m]; simp
  -- asked of a deal
  have fair : ∀ {σ : L2.St} {H' : Hp} {rr : Addr} {rows : List (List Int)} {g : Nat} {past : Past} {k : Nat} {tr : TE} {r : Bool} {E : L2.St → XK}, W13 C H' p b pp hh rr bs rows g past k → σ[2]? = some (some (.ref p)) → σ[4]? = some (some (.ref rr)) → σ[5]? = some (some (.int (g : Int))) → Ev tr σ H' (.bl r) →
      Ev (tCallS (sp__law_fair K C cl) E (tCons (tVar 2) (tCons (tVar 4) (tCons (tVar 5) (tCons tr tNil))))) σ H' (.bl true) := fun {σ H' rr rows g past k tr r E} W h2 h4 h5 hr H1 e1 Q k =>
    ea_cons (ev_var h2) (ea_cons (ev_var h4) (ea_cons (ev_var h5) (ea_cons hr ea_nil))) H1 e1 _ fun H2 e2 => ⟨_, _, _, _, rfl, [pp, hh], p, b, rr, rows, g, _, r, rfl, rfl, rfl, rfl, W.ta.mono (e1.trans e2), (W.lw.ro.mono msk_le).mono (e1.trans e2), W.wf, fun H3 e3 => k H3 (e2.trans e3)⟩
  have S10 : SqL K H10 a (ns.map V.int) := ex_l (Y10.trans msk_le) hS
  refine q_forR2 (lo := 1) (n := (ns.length : Int)) (ea_cons ev_c (ea_cons (ev_lenI S10 (ev_var rfl)) ea_nil)) ⟨by decide, by decide, by omega, by omega⟩ (fun i σ H' => ∃ (rr : Addr) (rows : List (List Int)) (g : Nat) (past : Past) (z7 z8 z9 : Option V), σ = [some (.ref a), some (.ref hh), some (.ref p), some (.int f), some (.ref rr), some (.int (g : Int)), some (.ref pp), z7, z8, z9, none] ∧ Ex H (Fs.msk H' [p, b, pp, hh]) ∧ W13 C H' p b pp hh rr bs rows g past i)
    (fun H11 e11 => ⟨ra, [r0, r1], 2, [], none, none, none, rfl, Y10.trans (Ex.msk e11), W10.mono e11⟩) ?_ ?_
  · rintro i σ' H11 hi ⟨rr, rows, g, past, z7, z8, z9, rfl, Y11, W11⟩
    have S11 : SqL K H11 a (ns.map V.int) := ex_l (Y11.trans msk_le) hS
    have kn11 := W11.ta.kn2
    -- the deed
    refine q_set (g_call (ea_cons (ev_op (ev_var rfl) (ev_var rfl) (rv_ixL S11 (at_ints (by omega) (by omega)))) (ea_cons (ev_var rfl) (ea_cons (ev_var rfl) ea_nil)) H11 (Ex.refl _) _ fun H12 e12' => ⟨_, _, _, rfl, _, rr, rows, g, rfl, rfl, rfl, ((W11.lw.ro.mono msk_le).mono e12').lv, W11.wf.l9, W11.wf.g40, fun dq l d H13 hdq hl hl3 e13 D => ?_⟩))
    have e1113 := e12'.trans e13
    have D13 : DeedAt K (Fs.msk H13 [p, b, pp, hh]) dq l d := D.mono fun a o h => by
      obtain ⟨h1, h2⟩ := nw_of h
      rw [msk_at (ne_in (fun a m => ex_kn e12' (kn11 a m)) h1)]
      exact h2
    have W13' := W11.mono e1113
    have hdq13 : H13 dq = some (.lst (.str d.word :: d.items l)) := msk_le _ _ D13.at_
    obtain ⟨n, hn⟩ : ∃ n, dueE d rows.length g = n := ⟨_, rfl⟩
    have hn6 : n = 0 ∨ n = 2 ∨ n = 3 ∨ n = 4 ∨ n = 6 ∨ n = 7 := hn ▸ dueE_in d rows.length g
    refine q_asg (v := .str (nameE n)) (ev_call (ea_cons (ev_var rfl) (ea_cons (ev_var rfl) (ea_cons (ev_var rfl) ea_nil))) fun H14 e14 Q q E => ⟨_, _, _, rfl, dq, l, d, rr, rows, g, rfl, rfl, rfl, (D13.mono msk_le).mono e14, ((W13'.lw.ro.mono msk_le).mono e14).lv, W11.wf.l9, W11.wf.g40, by rw [hn]; exact q⟩) fun H14 e14 => ?_
    have W14 := W13'.mono e14
    have D14 := D13.mono (Ex.msk e14)
    have hdq14 := e14 _ _ hdq13
    have Y14 := Y11.trans (Ex.msk (e1113.trans e14))
    obtain ⟨T, hT0, hTn⟩ : ∃ T : List (List Int) × Nat × Past, (n = 0 → T = nextE d rows g past) ∧ (n ≠ 0 → T = (rows, g, past)) := by
      by_cases z : n = 0
      · exact ⟨_, fun _ => rfl, fun h => absurd z h⟩
      · exact ⟨_, fun h => absurd h z, fun _ => rfl⟩
    have wT : WfT T.1 T.2.1 ∧ (∀ x ∈ T.2.2, WfT x.1 x.2) ∧ T.2.2.length ≤ past.length + 1 := by
      by_cases z : n = 0
      · rw [hT0 z]
        exact wf_nextE (hn.trans z) W11.wf W11.wp
      · rw [hTn z]
        exact ⟨W11.wf, W11.wp, Nat.le_succ _⟩
    have hpl := W11.le
    have hbn : d = .back → n = 0 := fun z => by rw [← hn, z]; rfl
    obtain ⟨us, hpp14, hP14⟩ := W14.lw.pa
    have some_ : ∀ {σ : L2.St} {H' : Hp}, Ex H14 H' → σ[6]? = some (some (.ref pp)) → EvT (tTest (tOp (rNeD K) (tVar 6) (tLst tNil))) σ H' (!decide (past.length = 0)) := fun {σ H'} e h =>
      et_test (ev_opL (z := .bl (!decide (past.length = 0))) (ev_var h) (el_lst ea_nil (by decide)) fun r H13 h13 e13' => by
        obtain ⟨ds, h1, h3, h4⟩ := past_dp (K := K) ((hP14.mono msk_le).mono (e.trans e13'))
        have := rv_neE (K := K) (sq_of ((e.trans e13') _ _ hpp14)) h1 h3 (by omega) (sq_of h13)
        rw [List.length_map, hP14.1] at this
        exact this)
    -- told
    refine q_cut (M := fun σ H' => σ = [some (.ref a), some (.ref hh), some (.ref p), some (.int f), some (.ref rr), some (.int (g : Int)), some (.ref pp), some (.int (1 + (i : Int))), some (.ref dq), some (.str (nameE n)), none] ∧ Ex (Fs.msk H14 [p, b]) H' ∧ TabAt C [pp, hh] H' p b T.1 T.2.1 (bs ++ T.2.2)) ?_ ?_
    · by_cases hc : d = .back ∧ past = []
      · obtain ⟨hd, hp0⟩ := hc
        have hTT : T = (rows, g, past) := by rw [hT0 (hbn hd), hd, hp0]; rfl
        refine s_no (et_orF (et_is (et_test (ev_op (ev_w hdq14 rfl) ev_c (rv_ne rfl))) (by rw [(word_b d).mpr hd]; rfl)) (et_is (some_ (Ex.refl _) rfl) (by rw [hp0]; rfl))) fun H15 e15 => ⟨rfl, msk_le.trans e15, by rw [hTT]; exact W14.ta.mono e15⟩
      · have hor : d ≠ .back ∨ past ≠ [] := by
          by_cases z : d = .back
          · exact .inr fun y => hc ⟨z, y⟩
          · exact .inl z
        refine s_yes (et_is (et_or (et_test (ev_op (ev_w hdq14 rfl) ev_c (rv_ne rfl))) fun _ => some_ (Ex.refl _) rfl) ?_) fun H15 e15 => ?_
        · rcases hor with z | z
          · rw [word_f z]; rfl
          · cases past with
            | nil => exact absurd rfl z
            | cons x t => exact Bool.or_true _
        refine g_drop (g_call (ea_cons (ev_var rfl) (ea_cons (ev_var rfl) ea_nil) H15 (Ex.refl _) _ fun H16 e16 => ⟨_, _, rfl, _, p, b, dq, l, d, rows, g, _, rfl, rfl, W14.ta.mono (e15.trans e16), W11.wf, (D14.mono msk_le).mono (e15.trans e16), by rw [List.length_append]; omega, fun h0 H17 e17 A17 => ⟨rfl, (Ex.msk (e15.trans e16)).trans e17, ?_⟩, fun h0 H17 e17 => ⟨rfl, msk_le.trans ((e15.trans e16).trans e17), ?_⟩⟩))
        · have h0 : n = 0 := hn.symm.trans h0
          rw [next_base hor] at A17
          rw [hT0 h0]
          exact A17
        · have h0 : n ≠ 0 := hn ▸ h0
          rw [hTn h0]
          exact W14.ta.mono ((e15.trans e16).trans e17)
    rintro σ H15 ⟨rfl, e15, A15⟩
    have D15 := D14.mono (ex_mm e15 pbL)
    have hdq15 : H15 dq = some (.lst (.str d.word :: d.items l)) := msk_le _ _ D15.at_
    have exm15 := ex_mm e15 pbL
    have hpp15 : H15 pp = some (.lst (us.map V.ref)) := e15 _ _ (by rw [msk_at (by simp [Ne.symm npp.1, Ne.symm npp.2.1])]; exact hpp14)
    have hP15 := hP14.mono exm15
    have hR15 := W14.lw.ro.mono exm15
    obtain ⟨vs, hhh14, hH14, hvl⟩ := W14.he
    have hhh15 : H15 hh = some (.lst (vs.map V.ref)) := e15 _ _ (by rw [msk_at (by simp [nhp, nhb])]; exact hhh14)
    have hH15 := hH14.mono exm15
    have Y15 := Y14.trans exm15
    have kn15 : ∀ c ∈ [p, b, pp, hh], H15 c ≠ none := A15.kn2
    have some15 : ∀ {σ : L2.St} {H' : Hp}, Ex H15 H' → σ[6]? = some (some (.ref pp)) → EvT (tTest (tOp (rNeD K) (tVar 6) (tLst tNil))) σ H' (!decide (past.length = 0)) := fun {σ H'} e h =>
      et_test (ev_opL (z := .bl (!decide (past.length = 0))) (ev_var h) (el_lst ea_nil (by decide)) fun r H13 h13 e13' => by
        obtain ⟨ds, h1, h3, h4⟩ := past_dp (K := K) ((hP15.mono msk_le).mono (e.trans e13'))
        have := rv_neE (K := K) (sq_of ((e.trans e13') _ _ hpp15)) h1 h3 (by omega) (sq_of h13)
        rw [List.length_map, hP15.1] at this
        exact this)
    clear some_ W14 D14 hdq14 hP14 hpp14 hH14 hhh14 W13' D13 hdq13 D
    -- taken back by the law
    refine q_cut (M := fun σ H' => ∃ (rr' : Addr) (R : List (List Int)) (G : Nat) (P : Past), σ = [some (.ref a), some (.ref hh), some (.ref p), some (.int f), some (.ref rr'), some (.int ((G : Nat) : Int)), some (.ref pp), some (.int (1 + (i : Int))), some (.ref dq), some (.str (nameE n)), none] ∧ Ex (Fs.msk H15 [pp]) H' ∧ H' pp ≠ none ∧ Lw [p, b, pp, hh] H' pp rr' R P ∧ (d = .back → (R, G, P) = T) ∧ (d ≠ .back → R = rows ∧ G = g ∧ P = past)) ?_ ?_
    · by_cases hd : d = .back
      · have n0 := hbn hd
        by_cases hp0 : past = []
        · have hTT : T = (rows, g, past) := by rw [hT0 n0, hd, hp0]; rfl
          refine s_no (et_is (et_and (et_test (ev_op (ev_w hdq15 rfl) ev_c (rv_eq rfl))) fun _ => some15 (Ex.refl _) rfl) (by rw [hp0]; exact Bool.and_false _)) fun H16 e16 => ⟨rr, rows, g, past, rfl, msk_le.trans e16, ex_kn e16 (some_nn hpp15), ⟨hR15.mono (Ex.msk e16), us, e16 _ _ hpp15, hP15.mono (Ex.msk e16)⟩, fun _ => hTT.symm, fun z => absurd hd z⟩
        · obtain ⟨past', x, rfl⟩ := last_of hp0
          have hTT : T = (x.1, x.2, past') := by rw [hT0 n0, hd, next_back]
          have hul := hP15.1
          rw [List.length_append] at hul
          have hul : us.length = past'.length + 1 := hul
          have hun : us ≠ [] := fun z => by rw [z] at hul; cases hul
          obtain ⟨us', u, rfl⟩ : ∃ us' u, us = us' ++ [u] := ⟨us.dropLast, us.getLast hun, (List.dropLast_concat_getLast hun).symm⟩
          have hul' : us'.length = past'.length := by
            rw [List.length_append] at hul
            exact Nat.succ.inj hul
          refine s_yes (et_is (et_and (et_test (ev_op (ev_w hdq15 rfl) ev_c (rv_eq rfl))) fun _ => some15 (Ex.refl _) rfl) (by rw [(word_b d).mpr hd, Bool.true_and, List.length_append, decide_eq_false (by show ¬ _ + 1 = 0; omega)]; rfl)) fun H16 e16 => ?_
          obtain ⟨r2, ht, hr2⟩ := hP15.2 past'.length u x (by rw [← hul', List.getElem?_append_right (Nat.le_refl _), Nat.sub_self]; rfl) (by rw [List.getElem?_append_right (Nat.le_refl _), Nat.sub_self]; rfl)
          have hlast : ((us' ++ [u]).map V.ref)[((us' ++ [u]).map V.ref).length - 1]? = some (V.ref u) := by
            rw [List.map_append, List.length_append]
            show (List.map V.ref us' ++ [V.ref u])[(List.map V.ref us').length + 1 - 1]? = _
            rw [Nat.add_sub_cancel, List.getElem?_append_right (Nat.le_refl _), Nat.sub_self]
            rfl
          have hdrop : ((us' ++ [u]).map V.ref).dropLast = us'.map V.ref := by
            rw [List.map_append]
            exact List.dropLast_concat
          have nup : u ≠ pp := fun z => (msk_of ht).2 (by rw [z]; simp)
          refine s_asgG ⟨.ref pp, rfl, Or.inl ⟨rfl, _, sq_of (e16 _ _ hpp15)⟩, pp, _, .ref u, rfl, rfl, e16 _ _ hpp15, hlast, ?_⟩
          rw [hdrop]
          have ex17 : Ex (Fs.msk H15 [pp]) (upd H16 pp (.lst (us'.map V.ref))) := fun z o h => by
            rw [upd_ne fun y => (msk_of h).2 (by rw [y]; simp)]
            exact e16 _ _ (msk_of h).1
          have exm := ex_mm ex17 ppL
          refine ⟨u, [.ref r2, .int (x.2 : Int)], rfl, st_of (by rw [upd_ne nup]; exact e16 _ _ (msk_of ht).1), rfl, _, _, rfl, _, _, rfl, rfl, r2, x.1, x.2, past', rfl, ex17, by rw [upd_same]; (intro y; cases y), ⟨hr2.mono exm, us', upd_same, hul', fun j t y h1 h2 => ?_⟩, fun _ => hTT.symm, fun z => absurd hd z⟩
          obtain ⟨r3, h4, h5⟩ := hP15.2 j t y (by rw [List.getElem?_append_left (List.getElem?_eq_some_iff.mp h1).1]; exact h1) (by rw [List.getElem?_append_left (List.getElem?_eq_some_iff.mp h2).1]; exact h2)
          exact ⟨r3, exm _ _ h4, h5.mono exm⟩
      · refine s_no (et_andF (et_is (et_test (ev_op (ev_w hdq15 rfl) ev_c (rv_eq rfl))) (word_f hd))) fun H16 e16 => ⟨rr, rows, g, past, rfl, msk_le.trans e16, ex_kn e16 (some_nn hpp15), ⟨hR15.mono (Ex.msk e16), us, e16 _ _ hpp15, hP15.mono (Ex.msk e16)⟩, fun z => absurd z hd, fun _ => ⟨rfl, rfl, rfl⟩⟩
    rintro σ H16 ⟨rr', R, G, P, rfl, x16, npp16, L16, hback, hdo⟩
    have D16 := D15.mono (ex_mm x16 ppL)
    have hdq16 : H16 dq = some (.lst (.str d.word :: d.items l)) := msk_le _ _ D16.at_
    -- done by the law
    refine q_cut (M := fun σ H' => ∃ rr' : Addr, σ = [some (.ref a), some (.ref hh), some (.ref p), some (.int f), some (.ref rr'), some (.int (T.2.1 : Int)), some (.ref pp), some (.int (1 + (i : Int))), some (.ref dq), some (.str (nameE n)), none] ∧ Ex (Fs.msk H15 [pp]) H' ∧ H' pp ≠ none ∧ Lw [p, b, pp, hh] H' pp rr' T.1 T.2.2) ?_ ?_
    · by_cases hd : d = .back
      · have hTT := hback hd
        rw [← hTT]
        refine s_no (et_andF (et_is (et_test (ev_op (ev_w hdq16 rfl) ev_c (rv_ne rfl))) (by rw [(word_b d).mpr hd]; rfl))) fun H17 e17 => ⟨rr', rfl, x16.trans e17, ex_kn e17 npp16, ?_⟩
        obtain ⟨us2, h1, h2⟩ := L16.pa
        exact ⟨L16.ro.mono (Ex.msk e17), us2, e17 _ _ h1, h2.mono (Ex.msk e17)⟩
      · obtain ⟨rfl, rfl, rfl⟩ := hdo hd
        obtain ⟨us2, hpp16, hP16⟩ := L16.pa
        by_cases n0 : n = 0
        · have hTT : T = (rowsE d R, goodsE d G, P ++ [(R, G)]) := by rw [hT0 n0, next_do hd]
          refine s_yes (et_is (et_and (et_test (ev_op (ev_w hdq16 rfl) ev_c (rv_ne rfl))) fun _ => et_test (ev_op (ev_var rfl) ev_c (rv_eq rfl))) (by rw [word_f hd, nameE_eq hn6, decide_eq_true n0]; rfl)) fun H17 e17 => ?_
          refine q_appU (e17 _ _ hpp16) (ev_var rfl) (eu_tup (ea_cons (ev_var rfl) (ea_cons (ev_var rfl) ea_nil)) (by show 2 ≤ 100000; decide)) (by rw [List.length_map, hP16.1]; omega) fun u H18 hu e18 hu18 => ?_
          have kn16 : ∀ c ∈ [p, b, pp, hh], H16 c ≠ none := fun c m => by
            by_cases z : c = pp
            · rw [z]; exact npp16
            · exact ex_kn x16 (by rw [msk_at (by simp [z])]; exact kn15 c m)
          have hu16 : H16 u = none := fresh_back e17 hu
          have nup : u ≠ pp := fun z => npp16 (z ▸ hu16)
          have nuL : u ∉ [p, b, pp, hh] := ne_in kn16 hu16
          have x19 : Ex (Fs.msk H16 [pp]) (upd H18 pp (.lst (us2.map V.ref ++ [.ref u]))) := fun z o h => by
            rw [upd_ne fun y => (msk_of h).2 (by rw [y]; simp)]
            exact (e17.trans e18) _ _ (msk_of h).1
          have hpp19 : (upd H18 pp (.lst (us2.map V.ref ++ [.ref u]))) pp = some (.lst ((us2 ++ [u]).map V.ref)) := by rw [upd_same, List.map_append]; rfl
          have hu19 : (upd H18 pp (.lst (us2.map V.ref ++ [.ref u]))) u = some (.tup [.ref rr', .int (G : Int)]) := by rw [upd_ne nup]; exact hu18
          generalize upd H18 pp (.lst (us2.map V.ref ++ [.ref u])) = H19 at x19 hpp19 hu19
          have exm19 := ex_mm x19 ppL
          have D19 := (D16.mono exm19).mono msk_le
          have kn19 : ∀ c ∈ [p, b, pp, hh], H19 c ≠ none := fun c m => by
            by_cases z : c = pp
            · rw [z]; exact some_nn hpp19
            · exact ex_kn x19 (by rw [msk_at (by simp [z])]; exact kn16 c m)
          have hR19 := L16.ro.mono exm19
          refine q_set (g_call (ea_cons (ev_var rfl) (ea_cons (ev_var rfl) ea_nil) H19 (Ex.refl _) _ fun H20 e20 => ⟨_, _, rfl, [p, b, pp, hh], dq, l, d, rr', R, G, rfl, rfl, fun c m => ex_kn e20 (kn19 c m), D19.mono e20, hR19.mono (Ex.msk e20), W11.wf, hn.trans n0, hd, fun r H21 e21 hr21 => ?_⟩))
          have e1921 := e20.trans e21
          have hdq21 : H21 dq = some (.lst (.str d.word :: d.items l)) := e1921 _ _ D19.at_
          have b2i : ∀ {σ : L2.St} {H' : Hp} {x : Str}, Ex H21 H' → σ[8]? = some (some (.ref dq)) → Ev (tCB (fun xs H Q => (∃ i, xs = [.int i] ∧ Q (.int i) H) ∨ ∃ k, xs = [.bl k] ∧ Q (.int (if k then 1 else 0)) H) (tCons (tOp rEq (tOp (rIxL K) (tVar 8) (tC (.int 0))) (tC (.str x))) tNil)) σ H' (.int (if decide (V.str d.word = V.str x) = true then 1 else 0)) := fun e h =>
            ev_cb (ea_cons (ev_op (ev_w (e _ _ hdq21) h) ev_c (rv_eq rfl)) ea_nil) fun H1 e Q q => .inr ⟨_, rfl, q H1 (Ex.refl _)⟩
          refine s_asg (ev_is (ev_op (ev_op (ev_var rfl) (b2i (Ex.refl _) rfl) rv_I0) (b2i (Ex.refl _) rfl) rv_I0) (congrArg V.int (goods_eq (hn.trans n0)))) fun H22 e22 => ?_
          rw [hTT]
          have x1922 : Ex H19 H22 := e1921.trans e22
          have exm := exm19.trans (Ex.msk x1922)
          refine ⟨r, rfl, fun z o h => x1922 _ _ (x19 _ _ (by rw [msk_at (msk_of h).2]; exact x16 _ _ h)), ex_kn x1922 (some_nn hpp19), ⟨hr21.mono (Ex.msk e22), us2 ++ [u], x1922 _ _ hpp19, by rw [List.length_append, List.length_append, hP16.1]; rfl, fun j t y h1 h2 => ?_⟩⟩
          by_cases z : j < us2.length
          · rw [List.getElem?_append_left z] at h1
            rw [List.getElem?_append_left (by rw [← hP16.1]; exact z)] at h2
            obtain ⟨r3, h4, h5⟩ := hP16.2 j t y h1 h2
            exact ⟨r3, exm _ _ h4, h5.mono exm⟩
          · have hi : j = us2.length := by
              have := (List.getElem?_eq_some_iff.mp h1).1
              rw [List.length_append] at this
              have h1 : [u].length = 1 := rfl
              omega
            subst hi
            rw [List.getElem?_append_right (Nat.le_refl _), Nat.sub_self] at h1
            obtain rfl : u = t := Option.some.inj h1
            rw [hP16.1, List.getElem?_append_right (Nat.le_refl _), Nat.sub_self] at h2
            obtain rfl : (R, G) = y := Option.some.inj h2
            exact ⟨rr', by rw [msk_at nuL]; exact x1922 _ _ hu19, L16.ro.mono exm⟩
        · have hTT := hTn n0
          rw [hTT]
          exact s_no (et_is (et_and (et_test (ev_op (ev_w hdq16 rfl) ev_c (rv_ne rfl))) fun _ => et_test (ev_op (ev_var rfl) ev_c (rv_eq rfl))) (by rw [nameE_eq hn6, decide_eq_false n0]; exact Bool.and_false _)) fun H17 e17 => ⟨rr', rfl, x16.trans e17, ex_kn e17 npp16, ⟨L16.ro.mono (Ex.msk e17), us2, e17 _ _ hpp16, hP16.mono (Ex.msk e17)⟩⟩
    clear L16 hback hdo D16 hdq16 x16 npp16 D15 hdq15 hR15 hP15 some15
    rintro σ H17 ⟨rr2, rfl, x17, npp17, L17⟩
    obtain ⟨rows2, g2, past2⟩ := T
    have exm17 := ex_mm x17 ppL
    have A17 : TabAt C [pp, hh] H17 p b rows2 g2 (bs ++ past2) := A15.keep x17 (fun c m => by rw [List.mem_singleton.mp m]; simp) (by simp [npp.1]) (by simp [npp.2.1]) fun c m => by rw [List.mem_singleton.mp m]; exact npp17
    have hhh17 : H17 hh = some (.lst (vs.map V.ref)) := x17 _ _ (by rw [msk_at (by simp [npp.2.2])]; exact hhh15)
    have hH17 := hH15.mono exm17
    have Y17 := Y15.trans exm17
    have L17 : Lw [p, b, pp, hh] H17 pp rr2 rows2 past2 := L17
    -- deals that are held
    refine q_ifnot (ea_cons (ev_var rfl) (ea_cons (ev_var rfl) (ea_cons (ev_var rfl) (ea_cons (ev_var rfl) ea_nil))) H17 (Ex.refl _) _ fun H18 e18 => ⟨_, _, _, _, rfl, [pp, hh], p, b, rr2, hh, rows2, g2, _, vs, rfl, rfl, rfl, rfl, A17.mono e18, L17.ro.mono (Ex.msk e18), wT.1, by simp, e18 _ _ hhh17, by omega, hH17.mono (Ex.msk e18), Ne.symm nhp, Ne.symm nhb, fun H19 vs' x19 hhh19 hH19 hl19 => ⟨true, rfl, iteF ?_⟩⟩)
    have exm19 := (Ex.msk e18).trans (ex_mm x19 hhL)
    obtain ⟨us2, hpp17, hP17⟩ := L17.pa
    have W19 : W13 C H19 p b pp hh rr2 bs rows2 g2 past2 (i + 1) := by
      refine ⟨(A17.mono e18).keep x19 (fun c m => by rw [List.mem_singleton.mp m]; simp) (by simp [Ne.symm nhp]) (by simp [Ne.symm nhb]) fun c m => by rw [List.mem_singleton.mp m]; exact some_nn hhh19, ⟨L17.ro.mono exm19, us2, x19 _ _ (by rw [msk_at (by simp [Ne.symm npp.2.2])]; exact e18 _ _ hpp17), hP17.mono exm19⟩, ⟨vs', hhh19, hH19, by omega⟩, wT.1, wT.2.1, by have h : past2.length ≤ past.length + 1 := wT.2.2; omega⟩
    have Y19 := Y17.trans exm19
    have S19 : SqL K H19 a (ns.map V.int) := ex_l (Y19.trans msk_le) hS
    refine s_no (et_is (et_and (b := false) (et_test (ev_op (ev_var rfl) (ev_op (ev_lenI S19 (ev_var rfl)) ev_c (rv_I ⟨by decide, by decide⟩)) (rv_eq rfl))) fun _ => et_is (et_not (et_B (fair W19 rfl rfl rfl (ev_op (ev_op (ev_op (ev_var rfl) ev_c (rv_I ⟨by decide, by decide⟩)) ev_c (rv_I (by show (0 : Int) < 2; decide))) ev_c (rv_eq rfl))))) rfl) (Bool.and_false _)) fun H20 e20 => ⟨rr2, rows2, g2, past2, _, _, _, rfl, Y19.trans (Ex.msk e20), W19.mono e20⟩
  rintro σ H11 ⟨rr, rows, g, past, z7, z8, z9, rfl, Y11, W11⟩
  refine q_forR1 (n := 4) (ea_cons ev_c ea_nil) ⟨by decide, by decide⟩ (fun i σ H' => ∃ z7, σ = [some (.ref a), some (.ref hh), some (.ref p), some (.int f), some (.ref rr), some (.int (g : Int)), some (.ref pp), z7, z8, z9, none] ∧ Ex H11 H') (fun H12 e12' => ⟨z7, rfl, e12'⟩) ?_ ?_
  · rintro i σ' H12 hi ⟨z7, rfl, ex⟩
    exact s_no (et_is (et_not (et_B (fair (W11.mono ex) rfl rfl rfl (ev_op (ev_op (ev_var rfl) ev_c (rv_I (by show (0 : Int) < 2; decide))) ev_c (rv_eq rfl))))) rfl) fun H13 e13 => ⟨_, rfl, ex.trans e13⟩
  rintro σ H12 ⟨z7, rfl, ex⟩
  have W12 := W11.mono ex
  obtain ⟨vs, hhh12, hH12, _⟩ := W12.he
  refine g_ret (ev_opLL (el_pairs (ev_var rfl) (sq_of hhh12) (fun _ _ => rfl) fun v m => ?_) (el_lst ea_nil (by decide)) (fun p1 q1 H1 h1 h2 e => rv_eqR (d := .list []) (by decide) (.lst (sq_of h1) .nil) (.lst (sq_of h2) .nil)) H12 (Ex.refl _) _ fun H13 e13 => ⟨true, rfl, iteT (ea_cons (ev_var rfl) ea_nil H13 (Ex.refl _) _ fun H14 e14 => ⟨_, rfl, f, rfl, fun H15 => q H15⟩)⟩)
  obtain ⟨d1, d2, hs, ss, hv, h1, h2⟩ := hH12 v m
  exact ⟨.ref d1, .ref d2, msk_le _ _ hv, fun H1 e1 => et_test (ev_op (ev_var rfl) (ev_var rfl) (rv_neDeal ((h1.mono msk_le).mono e1) ((h2.mono msk_le).mono e1)))⟩
end
end Fk13
namespace Fk13
open PySem PySem.Spec PyProof.Rows L2 Evl Fs Xs Rm Rx Tx TL Cr Ob Tb
theorem all_mk {l : PySem.W.OpenLaw} {w : World} {K : PySem.W.Frag} {h : Heap} {mg : Str → Option Value} {fa f0 f1 f2 f3 f4 f5 f6 f7 f8 f9 f10 f11 f12 f13 f14 f15 f16 f17 f18 f19 f20 f21 f22 f23 f24 f25 f26 f27 f28 f29 f30 f31 f32 f33 f34 f35 f36 f37 f38 f39 f40 f41 f42 f43 f44 f45 f46 f47 f48 f49 f50 C : Addr} (X : K.In h) (G : h.Ns mainGlobals mg) (hfa : mg "law" = some (.ref fa))
    {od0 an0 od1 an1 od2 an2 od3 an3 od4 an4 od5 an5 od6 an6 od7 an7 od8 an8 od9 an9 od10 an10 od11 an11 od12 an12 od13 an13 od14 an14 od15 an15 od16 an16 od17 an17 od18 an18 od19 an19 od20 an20 od21 an21 od22 an22 od23 an23 od24 an24 od25 an25 od26 an26 od27 an27 od28 an28 od29 an29 od30 an30 od31 an31 od32 an32 od33 an33 od34 an34 od35 an35 od36 an36 od37 an37 od38 an38 od39 an39 od40 an40 od41 an41 od42 an42 od43 an43 od44 an44 od45 an45 od46 an46 od47 an47 od48 an48 od49 an49 od50 an50 : Option Addr} {sl0 sl1 sl2 sl3 sl4 sl5 sl6 sl7 sl8 sl9 sl10 sl11 sl12 sl13 sl14 sl15 sl16 sl17 sl18 sl19 sl20 sl21 sl22 sl23 sl24 sl25 sl26 sl27 sl28 sl29 sl30 sl31 sl32 sl33 sl34 sl35 sl36 sl37 sl38 sl39 sl40 sl41 sl42 sl43 sl44 sl45 sl46 sl47 sl48 sl49 sl50 : Array (Option Value)} {oc0 kV0 dc0 pm0 cd0 ct0 oc1 kV1 dc1 pm1 cd1 ct1 oc2 kV2 dc2 pm2 cd2 ct2 oc3 kV3 dc3 pm3 cd3 ct3 oc4 kV4 dc4 pm4 cd4 ct4 oc5 kV5 dc5 pm5 cd5 ct5 oc6 kV6 dc6 pm6 cd6 ct6 oc7 kV7 dc7 pm7 cd7 ct7 oc8 kV8 dc8 pm8 cd8 ct8 oc9 kV9 dc9 pm9 cd9 ct9 oc10 kV10 dc10 pm10 cd10 ct10 oc11 kV11 dc11 pm11 cd11 ct11 oc12 kV12 dc12 pm12 cd12 ct12 oc13 kV13 dc13 pm13 cd13 ct13 oc14 kV14 dc14 pm14 cd14 ct14 oc15 kV15 dc15 pm15 cd15 ct15 oc16 kV16 dc16 pm16 cd16 ct16 oc17 kV17 dc17 pm17 cd17 ct17 oc18 kV18 dc18 pm18 cd18 ct18 oc19 kV19 dc19 pm19 cd19 ct19 oc20 kV20 dc20 pm20 cd20 ct20 oc21 kV21 dc21 pm21 cd21 ct21 oc22 kV22 dc22 pm22 cd22 ct22 oc23 kV23 dc23 pm23 cd23 ct23 oc24 kV24 dc24 pm24 cd24 ct24 oc25 kV25 dc25 pm25 cd25 ct25 oc26 kV26 dc26 pm26 cd26 ct26 oc27 kV27 dc27 pm27 cd27 ct27 oc28 kV28 dc28 pm28 cd28 ct28 oc29 kV29 dc29 pm29 cd29 ct29 oc30 kV30 dc30 pm30 cd30 ct30 oc31 kV31 dc31 pm31 cd31 ct31 oc32 kV32 dc32 pm32 cd32 ct32 oc33 kV33 dc33 pm33 cd33 ct33 oc34 kV34 dc34 pm34 cd34 ct34 oc35 kV35 dc35 pm35 cd35 ct35 oc36 kV36 dc36 pm36 cd36 ct36 oc37 kV37 dc37 pm37 cd37 ct37 oc38 kV38 dc38 pm38 cd38 ct38 oc39 kV39 dc39 pm39 cd39 ct39 oc40 kV40 dc40 pm40 cd40 ct40 oc41 kV41 dc41 pm41 cd41 ct41 oc42 kV42 dc42 pm42 cd42 ct42 oc43 kV43 dc43 pm43 cd43 ct43 oc44 kV44 dc44 pm44 cd44 ct44 oc45 kV45 dc45 pm45 cd45 ct45 oc46 kV46 dc46 pm46 cd46 ct46 oc47 kV47 dc47 pm47 cd47 ct47 oc48 kV48 dc48 pm48 cd48 ct48 oc49 kV49 dc49 pm49 cd49 ct49 oc50 kV50 dc50 pm50 cd50 ct50 : Value}
    (a0 : PySem.W.nsIn K mainGlobals "is_number" = some (some (.ref f0))) (l0 : K.lookup f0 = some ⟨oc0, od0, .func (PySem.W.fnOf "is_number" "is_number" (defArgs s_is_number) (defBody s_is_number) (defScope s_is_number) .none kV0 dc0 pm0 an0 cd0 ct0), sl0⟩) (c0 : PySem.W.codeIn K cd0 "is_number" = true) (k0 : PySem.W.keepIn K (.ref f0) = true)
    (a1 : PySem.W.nsIn K mainGlobals "is_bid" = some (some (.ref f1))) (l1 : K.lookup f1 = some ⟨oc1, od1, .func (PySem.W.fnOf "is_bid" "is_bid" (defArgs s_is_bid) (defBody s_is_bid) (defScope s_is_bid) .none kV1 dc1 pm1 an1 cd1 ct1), sl1⟩) (c1 : PySem.W.codeIn K cd1 "is_bid" = true) (k1 : PySem.W.keepIn K (.ref f1) = true)
    (a2 : PySem.W.nsIn K mainGlobals "is_place" = some (some (.ref f2))) (l2 : K.lookup f2 = some ⟨oc2, od2, .func (PySem.W.fnOf "is_place" "is_place" (defArgs s_is_place) (defBody s_is_place) (defScope s_is_place) .none kV2 dc2 pm2 an2 cd2 ct2), sl2⟩) (c2 : PySem.W.codeIn K cd2 "is_place" = true) (k2 : PySem.W.keepIn K (.ref f2) = true)
    (a3 : PySem.W.nsIn K mainGlobals "check_line" = some (some (.ref f3))) (l3 : K.lookup f3 = some ⟨oc3, od3, .func (PySem.W.fnOf "check_line" "check_line" (defArgs s_check_line) (defBody s_check_line) (defScope s_check_line) .none kV3 dc3 pm3 an3 cd3 ct3), sl3⟩) (c3 : PySem.W.codeIn K cd3 "check_line" = true) (k3 : PySem.W.keepIn K (.ref f3) = true)
    (a4 : PySem.W.nsIn K mainGlobals "check_bids" = some (some (.ref f4))) (l4 : K.lookup f4 = some ⟨oc4, od4, .func (PySem.W.fnOf "check_bids" "check_bids" (defArgs s_check_bids) (defBody s_check_bids) (defScope s_check_bids) .none kV4 dc4 pm4 an4 cd4 ct4), sl4⟩) (c4 : PySem.W.codeIn K cd4 "check_bids" = true) (k4 : PySem.W.keepIn K (.ref f4) = true)
    (a5 : PySem.W.nsIn K mainGlobals "worth" = some (some (.ref f5))) (l5 : K.lookup f5 = some ⟨oc5, od5, .func (PySem.W.fnOf "worth" "worth" (defArgs s_worth) (defBody s_worth) (defScope s_worth) .none kV5 dc5 pm5 an5 cd5 ct5), sl5⟩) (c5 : PySem.W.codeIn K cd5 "worth" = true) (k5 : PySem.W.keepIn K (.ref f5) = true)
    (a6 : PySem.W.nsIn K mainGlobals "first_of_most" = some (some (.ref f6))) (l6 : K.lookup f6 = some ⟨oc6, od6, .func (PySem.W.fnOf "first_of_most" "first_of_most" (defArgs s_first_of_most) (defBody s_first_of_most) (defScope s_first_of_most) .none kV6 dc6 pm6 an6 cd6 ct6), sl6⟩) (c6 : PySem.W.codeIn K cd6 "first_of_most" = true) (k6 : PySem.W.keepIn K (.ref f6) = true)
    (a7 : PySem.W.nsIn K mainGlobals "given" = some (some (.ref f7))) (l7 : K.lookup f7 = some ⟨oc7, od7, .func (PySem.W.fnOf "given" "given" (defArgs s_given) (defBody s_given) (defScope s_given) .none kV7 dc7 pm7 an7 cd7 ct7), sl7⟩) (c7 : PySem.W.codeIn K cd7 "given" = true) (k7 : PySem.W.keepIn K (.ref f7) = true)
    (a8 : PySem.W.nsIn K mainGlobals "in_heaps" = some (some (.ref f8))) (l8 : K.lookup f8 = some ⟨oc8, od8, .func (PySem.W.fnOf "in_heaps" "in_heaps" (defArgs s_in_heaps) (defBody s_in_heaps) (defScope s_in_heaps) .none kV8 dc8 pm8 an8 cd8 ct8), sl8⟩) (c8 : PySem.W.codeIn K cd8 "in_heaps" = true) (k8 : PySem.W.keepIn K (.ref f8) = true)
    (a9 : PySem.W.nsIn K mainGlobals "with_one_more" = some (some (.ref f9))) (l9 : K.lookup f9 = some ⟨oc9, od9, .func (PySem.W.fnOf "with_one_more" "with_one_more" (defArgs s_with_one_more) (defBody s_with_one_more) (defScope s_with_one_more) .none kV9 dc9 pm9 an9 cd9 ct9), sl9⟩) (c9 : PySem.W.codeIn K cd9 "with_one_more" = true) (k9 : PySem.W.keepIn K (.ref f9) = true)
    (a10 : PySem.W.nsIn K mainGlobals "best_rooms" = some (some (.ref f10))) (l10 : K.lookup f10 = some ⟨oc10, od10, .func (PySem.W.fnOf "best_rooms" "best_rooms" (defArgs s_best_rooms) (defBody s_best_rooms) (defScope s_best_rooms) .none kV10 dc10 pm10 an10 cd10 ct10), sl10⟩) (c10 : PySem.W.codeIn K cd10 "best_rooms" = true) (k10 : PySem.W.keepIn K (.ref f10) = true)
    (a11 : PySem.W.nsIn K mainGlobals "prices" = some (some (.ref f11))) (l11 : K.lookup f11 = some ⟨oc11, od11, .func (PySem.W.fnOf "prices" "prices" (defArgs s_prices) (defBody s_prices) (defScope s_prices) .none kV11 dc11 pm11 an11 cd11 ct11), sl11⟩) (c11 : PySem.W.codeIn K cd11 "prices" = true) (k11 : PySem.W.keepIn K (.ref f11) = true)
    (a12 : PySem.W.nsIn K mainGlobals "in_rooms" = some (some (.ref f12))) (l12 : K.lookup f12 = some ⟨oc12, od12, .func (PySem.W.fnOf "in_rooms" "in_rooms" (defArgs s_in_rooms) (defBody s_in_rooms) (defScope s_in_rooms) .none kV12 dc12 pm12 an12 cd12 ct12), sl12⟩) (c12 : PySem.W.codeIn K cd12 "in_rooms" = true) (k12 : PySem.W.keepIn K (.ref f12) = true)
    (a13 : PySem.W.findIn K (.ref C) "__init__" = some (some (.ref f13))) (i13 : PySem.W.isFn K (.ref f13) = true) (l13 : K.lookup f13 = some ⟨oc13, od13, .func (PySem.W.fnOf "__init__" "Table.__init__" (defArgs s_Table___init__) (defBody s_Table___init__) (defScope s_Table___init__) .none kV13 dc13 pm13 an13 cd13 ct13), sl13⟩) (c13 : PySem.W.codeIn K cd13 "Table.__init__" = true) (k13 : PySem.W.keepIn K (.ref f13) = true)
    (a14 : PySem.W.findIn K (.ref C) "_change" = some (some (.ref f14))) (i14 : PySem.W.isFn K (.ref f14) = true) (l14 : K.lookup f14 = some ⟨oc14, od14, .func (PySem.W.fnOf "_change" "Table._change" (defArgs s_Table__change) (defBody s_Table__change) (defScope s_Table__change) .none kV14 dc14 pm14 an14 cd14 ct14), sl14⟩) (c14 : PySem.W.codeIn K cd14 "Table._change" = true) (k14 : PySem.W.keepIn K (.ref f14) = true)
    (a15 : PySem.W.findIn K (.ref C) "come" = some (some (.ref f15))) (i15 : PySem.W.isFn K (.ref f15) = true) (l15 : K.lookup f15 = some ⟨oc15, od15, .func (PySem.W.fnOf "come" "Table.come" (defArgs s_Table_come) (defBody s_Table_come) (defScope s_Table_come) .none kV15 dc15 pm15 an15 cd15 ct15), sl15⟩) (c15 : PySem.W.codeIn K cd15 "Table.come" = true) (k15 : PySem.W.keepIn K (.ref f15) = true)
    (a16 : PySem.W.findIn K (.ref C) "_check_person" = some (some (.ref f16))) (i16 : PySem.W.isFn K (.ref f16) = true) (l16 : K.lookup f16 = some ⟨oc16, od16, .func (PySem.W.fnOf "_check_person" "Table._check_person" (defArgs s_Table__check_person) (defBody s_Table__check_person) (defScope s_Table__check_person) .none kV16 dc16 pm16 an16 cd16 ct16), sl16⟩) (c16 : PySem.W.codeIn K cd16 "Table._check_person" = true) (k16 : PySem.W.keepIn K (.ref f16) = true)
    (a17 : PySem.W.findIn K (.ref C) "leave" = some (some (.ref f17))) (i17 : PySem.W.isFn K (.ref f17) = true) (l17 : K.lookup f17 = some ⟨oc17, od17, .func (PySem.W.fnOf "leave" "Table.leave" (defArgs s_Table_leave) (defBody s_Table_leave) (defScope s_Table_leave) .none kV17 dc17 pm17 an17 cd17 ct17), sl17⟩) (c17 : PySem.W.codeIn K cd17 "Table.leave" = true) (k17 : PySem.W.keepIn K (.ref f17) = true)
    (a18 : PySem.W.findIn K (.ref C) "put" = some (some (.ref f18))) (i18 : PySem.W.isFn K (.ref f18) = true) (l18 : K.lookup f18 = some ⟨oc18, od18, .func (PySem.W.fnOf "put" "Table.put" (defArgs s_Table_put) (defBody s_Table_put) (defScope s_Table_put) .none kV18 dc18 pm18 an18 cd18 ct18), sl18⟩) (c18 : PySem.W.codeIn K cd18 "Table.put" = true) (k18 : PySem.W.keepIn K (.ref f18) = true)
    (a19 : PySem.W.findIn K (.ref C) "_check_good" = some (some (.ref f19))) (i19 : PySem.W.isFn K (.ref f19) = true) (l19 : K.lookup f19 = some ⟨oc19, od19, .func (PySem.W.fnOf "_check_good" "Table._check_good" (defArgs s_Table__check_good) (defBody s_Table__check_good) (defScope s_Table__check_good) .none kV19 dc19 pm19 an19 cd19 ct19), sl19⟩) (c19 : PySem.W.codeIn K cd19 "Table._check_good" = true) (k19 : PySem.W.keepIn K (.ref f19) = true)
    (a20 : PySem.W.findIn K (.ref C) "take" = some (some (.ref f20))) (i20 : PySem.W.isFn K (.ref f20) = true) (l20 : K.lookup f20 = some ⟨oc20, od20, .func (PySem.W.fnOf "take" "Table.take" (defArgs s_Table_take) (defBody s_Table_take) (defScope s_Table_take) .none kV20 dc20 pm20 an20 cd20 ct20), sl20⟩) (c20 : PySem.W.codeIn K cd20 "Table.take" = true) (k20 : PySem.W.keepIn K (.ref f20) = true)
    (a21 : PySem.W.findIn K (.ref C) "bid" = some (some (.ref f21))) (i21 : PySem.W.isFn K (.ref f21) = true) (l21 : K.lookup f21 = some ⟨oc21, od21, .func (PySem.W.fnOf "bid" "Table.bid" (defArgs s_Table_bid) (defBody s_Table_bid) (defScope s_Table_bid) .none kV21 dc21 pm21 an21 cd21 ct21), sl21⟩) (c21 : PySem.W.codeIn K cd21 "Table.bid" = true) (k21 : PySem.W.keepIn K (.ref f21) = true)
    (a22 : PySem.W.findIn K (.ref C) "back" = some (some (.ref f22))) (i22 : PySem.W.isFn K (.ref f22) = true) (l22 : K.lookup f22 = some ⟨oc22, od22, .func (PySem.W.fnOf "back" "Table.back" (defArgs s_Table_back) (defBody s_Table_back) (defScope s_Table_back) .none kV22 dc22 pm22 an22 cd22 ct22), sl22⟩) (c22 : PySem.W.codeIn K cd22 "Table.back" = true) (k22 : PySem.W.keepIn K (.ref f22) = true)
    (a23 : PySem.W.findIn K (.ref C) "in_heaps" = some (some (.ref f23))) (i23 : PySem.W.isFn K (.ref f23) = true) (l23 : K.lookup f23 = some ⟨oc23, od23, .func (PySem.W.fnOf "in_heaps" "Table.in_heaps" (defArgs s_Table_in_heaps) (defBody s_Table_in_heaps) (defScope s_Table_in_heaps) .none kV23 dc23 pm23 an23 cd23 ct23), sl23⟩) (c23 : PySem.W.codeIn K cd23 "Table.in_heaps" = true) (k23 : PySem.W.keepIn K (.ref f23) = true)
    (a24 : PySem.W.findIn K (.ref C) "in_rooms" = some (some (.ref f24))) (i24 : PySem.W.isFn K (.ref f24) = true) (l24 : K.lookup f24 = some ⟨oc24, od24, .func (PySem.W.fnOf "in_rooms" "Table.in_rooms" (defArgs s_Table_in_rooms) (defBody s_Table_in_rooms) (defScope s_Table_in_rooms) .none kV24 dc24 pm24 an24 cd24 ct24), sl24⟩) (c24 : PySem.W.codeIn K cd24 "Table.in_rooms" = true) (k24 : PySem.W.keepIn K (.ref f24) = true)
    (a25 : PySem.W.nsIn K mainGlobals "_law_whole" = some (some (.ref f25))) (l25 : K.lookup f25 = some ⟨oc25, od25, .func (PySem.W.fnOf "_law_whole" "_law_whole" (defArgs s__law_whole) (defBody s__law_whole) (defScope s__law_whole) .none kV25 dc25 pm25 an25 cd25 ct25), sl25⟩) (c25 : PySem.W.codeIn K cd25 "_law_whole" = true) (k25 : PySem.W.keepIn K (.ref f25) = true)
    (a26 : PySem.W.nsIn K mainGlobals "_law_cell" = some (some (.ref f26))) (l26 : K.lookup f26 = some ⟨oc26, od26, .func (PySem.W.fnOf "_law_cell" "_law_cell" (defArgs s__law_cell) (defBody s__law_cell) (defScope s__law_cell) .none kV26 dc26 pm26 an26 cd26 ct26), sl26⟩) (c26 : PySem.W.codeIn K cd26 "_law_cell" = true) (k26 : PySem.W.keepIn K (.ref f26) = true)
    (a27 : PySem.W.nsIn K mainGlobals "_law_draws" = some (some (.ref f27))) (l27 : K.lookup f27 = some ⟨oc27, od27, .func (PySem.W.fnOf "_law_draws" "_law_draws" (defArgs s__law_draws) (defBody s__law_draws) (defScope s__law_draws) .none kV27 dc27 pm27 an27 cd27 ct27), sl27⟩) (c27 : PySem.W.codeIn K cd27 "_law_draws" = true) (k27 : PySem.W.keepIn K (.ref f27) = true)
    (a28 : PySem.W.nsIn K mainGlobals "_law_bid" = some (some (.ref f28))) (l28 : K.lookup f28 = some ⟨oc28, od28, .func (PySem.W.fnOf "_law_bid" "_law_bid" (defArgs s__law_bid) (defBody s__law_bid) (defScope s__law_bid) .none kV28 dc28 pm28 an28 cd28 ct28), sl28⟩) (c28 : PySem.W.codeIn K cd28 "_law_bid" = true) (k28 : PySem.W.keepIn K (.ref f28) = true)
    (a29 : PySem.W.nsIn K mainGlobals "_law_worth" = some (some (.ref f29))) (l29 : K.lookup f29 = some ⟨oc29, od29, .func (PySem.W.fnOf "_law_worth" "_law_worth" (defArgs s__law_worth) (defBody s__law_worth) (defScope s__law_worth) .none kV29 dc29 pm29 an29 cd29 ct29), sl29⟩) (c29 : PySem.W.codeIn K cd29 "_law_worth" = true) (k29 : PySem.W.keepIn K (.ref f29) = true)
    (a30 : PySem.W.nsIn K mainGlobals "_law_numbers" = some (some (.ref f30))) (l30 : K.lookup f30 = some ⟨oc30, od30, .func (PySem.W.fnOf "_law_numbers" "_law_numbers" (defArgs s__law_numbers) (defBody s__law_numbers) (defScope s__law_numbers) .none kV30 dc30 pm30 an30 cd30 ct30), sl30⟩) (c30 : PySem.W.codeIn K cd30 "_law_numbers" = true) (k30 : PySem.W.keepIn K (.ref f30) = true)
    (a31 : PySem.W.nsIn K mainGlobals "_law_heaps" = some (some (.ref f31))) (l31 : K.lookup f31 = some ⟨oc31, od31, .func (PySem.W.fnOf "_law_heaps" "_law_heaps" (defArgs s__law_heaps) (defBody s__law_heaps) (defScope s__law_heaps) .none kV31 dc31 pm31 an31 cd31 ct31), sl31⟩) (c31 : PySem.W.codeIn K cd31 "_law_heaps" = true) (k31 : PySem.W.keepIn K (.ref f31) = true)
    (a32 : PySem.W.nsIn K mainGlobals "_law_deal" = some (some (.ref f32))) (l32 : K.lookup f32 = some ⟨oc32, od32, .func (PySem.W.fnOf "_law_deal" "_law_deal" (defArgs s__law_deal) (defBody s__law_deal) (defScope s__law_deal) .none kV32 dc32 pm32 an32 cd32 ct32), sl32⟩) (c32 : PySem.W.codeIn K cd32 "_law_deal" = true) (k32 : PySem.W.keepIn K (.ref f32) = true)
    (a33 : PySem.W.nsIn K mainGlobals "_law_envied" = some (some (.ref f33))) (l33 : K.lookup f33 = some ⟨oc33, od33, .func (PySem.W.fnOf "_law_envied" "_law_envied" (defArgs s__law_envied) (defBody s__law_envied) (defScope s__law_envied) .none kV33 dc33 pm33 an33 cd33 ct33), sl33⟩) (c33 : PySem.W.codeIn K cd33 "_law_envied" = true) (k33 : PySem.W.keepIn K (.ref f33) = true)
    (a34 : PySem.W.nsIn K mainGlobals "_law_wrong" = some (some (.ref f34))) (l34 : K.lookup f34 = some ⟨oc34, od34, .func (PySem.W.fnOf "_law_wrong" "_law_wrong" (defArgs s__law_wrong) (defBody s__law_wrong) (defScope s__law_wrong) .none kV34 dc34 pm34 an34 cd34 ct34), sl34⟩) (c34 : PySem.W.codeIn K cd34 "_law_wrong" = true) (k34 : PySem.W.keepIn K (.ref f34) = true)
    (a35 : PySem.W.nsIn K mainGlobals "_law_line" = some (some (.ref f35))) (l35 : K.lookup f35 = some ⟨oc35, od35, .func (PySem.W.fnOf "_law_line" "_law_line" (defArgs s__law_line) (defBody s__law_line) (defScope s__law_line) .none kV35 dc35 pm35 an35 cd35 ct35), sl35⟩) (c35 : PySem.W.codeIn K cd35 "_law_line" = true) (k35 : PySem.W.keepIn K (.ref f35) = true)
    (a36 : PySem.W.nsIn K mainGlobals "_law_place" = some (some (.ref f36))) (l36 : K.lookup f36 = some ⟨oc36, od36, .func (PySem.W.fnOf "_law_place" "_law_place" (defArgs s__law_place) (defBody s__law_place) (defScope s__law_place) .none kV36 dc36 pm36 an36 cd36 ct36), sl36⟩) (c36 : PySem.W.codeIn K cd36 "_law_place" = true) (k36 : PySem.W.keepIn K (.ref f36) = true)
    (a37 : PySem.W.nsIn K mainGlobals "_law_fine" = some (some (.ref f37))) (l37 : K.lookup f37 = some ⟨oc37, od37, .func (PySem.W.fnOf "_law_fine" "_law_fine" (defArgs s__law_fine) (defBody s__law_fine) (defScope s__law_fine) .none kV37 dc37 pm37 an37 cd37 ct37), sl37⟩) (c37 : PySem.W.codeIn K cd37 "_law_fine" = true) (k37 : PySem.W.keepIn K (.ref f37) = true)
    (a38 : PySem.W.nsIn K mainGlobals "_law_line_due" = some (some (.ref f38))) (l38 : K.lookup f38 = some ⟨oc38, od38, .func (PySem.W.fnOf "_law_line_due" "_law_line_due" (defArgs s__law_line_due) (defBody s__law_line_due) (defScope s__law_line_due) .none kV38 dc38 pm38 an38 cd38 ct38), sl38⟩) (c38 : PySem.W.codeIn K cd38 "_law_line_due" = true) (k38 : PySem.W.keepIn K (.ref f38) = true)
    (a39 : PySem.W.nsIn K mainGlobals "_law_is_place" = some (some (.ref f39))) (l39 : K.lookup f39 = some ⟨oc39, od39, .func (PySem.W.fnOf "_law_is_place" "_law_is_place" (defArgs s__law_is_place) (defBody s__law_is_place) (defScope s__law_is_place) .none kV39 dc39 pm39 an39 cd39 ct39), sl39⟩) (c39 : PySem.W.codeIn K cd39 "_law_is_place" = true) (k39 : PySem.W.keepIn K (.ref f39) = true)
    (a40 : PySem.W.nsIn K mainGlobals "_law_deed" = some (some (.ref f40))) (l40 : K.lookup f40 = some ⟨oc40, od40, .func (PySem.W.fnOf "_law_deed" "_law_deed" (defArgs s__law_deed) (defBody s__law_deed) (defScope s__law_deed) .none kV40 dc40 pm40 an40 cd40 ct40), sl40⟩) (c40 : PySem.W.codeIn K cd40 "_law_deed" = true) (k40 : PySem.W.keepIn K (.ref f40) = true)
    (a41 : PySem.W.nsIn K mainGlobals "_law_due" = some (some (.ref f41))) (l41 : K.lookup f41 = some ⟨oc41, od41, .func (PySem.W.fnOf "_law_due" "_law_due" (defArgs s__law_due) (defBody s__law_due) (defScope s__law_due) .none kV41 dc41 pm41 an41 cd41 ct41), sl41⟩) (c41 : PySem.W.codeIn K cd41 "_law_due" = true) (k41 : PySem.W.keepIn K (.ref f41) = true)
    (a42 : PySem.W.nsIn K mainGlobals "_law_behind" = some (some (.ref f42))) (l42 : K.lookup f42 = some ⟨oc42, od42, .func (PySem.W.fnOf "_law_behind" "_law_behind" (defArgs s__law_behind) (defBody s__law_behind) (defScope s__law_behind) .none kV42 dc42 pm42 an42 cd42 ct42), sl42⟩) (c42 : PySem.W.codeIn K cd42 "_law_behind" = true) (k42 : PySem.W.keepIn K (.ref f42) = true)
    (a43 : PySem.W.nsIn K mainGlobals "_law_do" = some (some (.ref f43))) (l43 : K.lookup f43 = some ⟨oc43, od43, .func (PySem.W.fnOf "_law_do" "_law_do" (defArgs s__law_do) (defBody s__law_do) (defScope s__law_do) .none kV43 dc43 pm43 an43 cd43 ct43), sl43⟩) (c43 : PySem.W.codeIn K cd43 "_law_do" = true) (k43 : PySem.W.keepIn K (.ref f43) = true)
    (a44 : PySem.W.nsIn K mainGlobals "_law_told" = some (some (.ref f44))) (l44 : K.lookup f44 = some ⟨oc44, od44, .func (PySem.W.fnOf "_law_told" "_law_told" (defArgs s__law_told) (defBody s__law_told) (defScope s__law_told) .none kV44 dc44 pm44 an44 cd44 ct44), sl44⟩) (c44 : PySem.W.codeIn K cd44 "_law_told" = true) (k44 : PySem.W.keepIn K (.ref f44) = true)
    (a45 : PySem.W.nsIn K mainGlobals "_law_deal_of" = some (some (.ref f45))) (l45 : K.lookup f45 = some ⟨oc45, od45, .func (PySem.W.fnOf "_law_deal_of" "_law_deal_of" (defArgs s__law_deal_of) (defBody s__law_deal_of) (defScope s__law_deal_of) .none kV45 dc45 pm45 an45 cd45 ct45), sl45⟩) (c45 : PySem.W.codeIn K cd45 "_law_deal_of" = true) (k45 : PySem.W.keepIn K (.ref f45) = true)
    (a46 : PySem.W.nsIn K mainGlobals "_law_by_bids" = some (some (.ref f46))) (l46 : K.lookup f46 = some ⟨oc46, od46, .func (PySem.W.fnOf "_law_by_bids" "_law_by_bids" (defArgs s__law_by_bids) (defBody s__law_by_bids) (defScope s__law_by_bids) .none kV46 dc46 pm46 an46 cd46 ct46), sl46⟩) (c46 : PySem.W.codeIn K cd46 "_law_by_bids" = true) (k46 : PySem.W.keepIn K (.ref f46) = true)
    (a47 : PySem.W.nsIn K mainGlobals "_law_fair" = some (some (.ref f47))) (l47 : K.lookup f47 = some ⟨oc47, od47, .func (PySem.W.fnOf "_law_fair" "_law_fair" (defArgs s__law_fair) (defBody s__law_fair) (defScope s__law_fair) .none kV47 dc47 pm47 an47 cd47 ct47), sl47⟩) (c47 : PySem.W.codeIn K cd47 "_law_fair" = true) (k47 : PySem.W.keepIn K (.ref f47) = true)
    (a48 : PySem.W.nsIn K mainGlobals "_law_made_good" = some (some (.ref f48))) (l48 : K.lookup f48 = some ⟨oc48, od48, .func (PySem.W.fnOf "_law_made_good" "_law_made_good" (defArgs s__law_made_good) (defBody s__law_made_good) (defScope s__law_made_good) .none kV48 dc48 pm48 an48 cd48 ct48), sl48⟩) (c48 : PySem.W.codeIn K cd48 "_law_made_good" = true) (k48 : PySem.W.keepIn K (.ref f48) = true)
    (a49 : PySem.W.nsIn K mainGlobals "_law_held" = some (some (.ref f49))) (l49 : K.lookup f49 = some ⟨oc49, od49, .func (PySem.W.fnOf "_law_held" "_law_held" (defArgs s__law_held) (defBody s__law_held) (defScope s__law_held) .none kV49 dc49 pm49 an49 cd49 ct49), sl49⟩) (c49 : PySem.W.codeIn K cd49 "_law_held" = true) (k49 : PySem.W.keepIn K (.ref f49) = true)
    (a50 : PySem.W.nsIn K mainGlobals "law" = some (some (.ref f50))) (l50 : K.lookup f50 = some ⟨oc50, od50, .func (PySem.W.fnOf "law" "law" (defArgs s_law) (defBody s_law) (defScope s_law) .none kV50 dc50 pm50 an50 cd50 ct50), sl50⟩) (c50 : PySem.W.codeIn K cd50 "law" = true) (k50 : PySem.W.keepIn K (.ref f50) = true)
    (aC : PySem.W.nsIn K mainGlobals "Table" = some (some (.ref C))) (pg : PySem.W.plainGet K C Str.empty = true) (hd : PySem.W.hasDictIn K C = true) (po : PySem.W.plainOver K C = true) (sa : PySem.W.findIn K (.ref C) "__setattr__" = some (some (.builtin "object.__setattr__"))) (mk : PySem.W.makesIn K C = true) (kc : PySem.W.keepIn K (.ref C) = true)
    (nr : PySem.W.findIn K (.ref C) "_rows" = some none) (ng : PySem.W.findIn K (.ref C) "_goods" = some none) (nb : PySem.W.findIn K (.ref C) "_before" = some none)
    (al_in_heaps_heaps : PySem.W.nsIn K mainGlobals "in_heaps_heaps" = some (some (.ref f8)))
    (al_in_rooms_rooms : PySem.W.nsIn K mainGlobals "in_rooms_rooms" = some (some (.ref f12)))
    (z_len : PySem.W.nsIn K mainGlobals "len" = some none) (z_range : PySem.W.nsIn K mainGlobals "range" = some none) (z_sum : PySem.W.nsIn K mainGlobals "sum" = some none) (z_isinstance : PySem.W.nsIn K mainGlobals "isinstance" = some none) (z_int : PySem.W.nsIn K mainGlobals "int" = some none) (z_bool : PySem.W.nsIn K mainGlobals "bool" = some none) (z_list : PySem.W.nsIn K mainGlobals "list" = some none) (z_tuple : PySem.W.nsIn K mainGlobals "tuple" = some none) (z_sorted : PySem.W.nsIn K mainGlobals "sorted" = some none) (z_max : PySem.W.nsIn K mainGlobals "max" = some none) (z_min : PySem.W.nsIn K mainGlobals "min" = some none) (z_all : PySem.W.nsIn K mainGlobals "all" = some none) (z_any : PySem.W.nsIn K mainGlobals "any" = some none) (z_zip : PySem.W.nsIn K mainGlobals "zip" = some none) (z_str : PySem.W.nsIn K mainGlobals "str" = some none) (z_ValueError : PySem.W.nsIn K mainGlobals "ValueError" = some none)
    {t_MOST_PEOPLE t_MOST_GOODS t_GREATEST_BID : Tok} (q_MOST_PEOPLE : PySem.W.nsIn K mainGlobals "MOST_PEOPLE" = some (some (.int 9 t_MOST_PEOPLE))) (q_MOST_GOODS : PySem.W.nsIn K mainGlobals "MOST_GOODS" = some (some (.int 40 t_MOST_GOODS))) (q_GREATEST_BID : PySem.W.nsIn K mainGlobals "GREATEST_BID" = some (some (.int 1000000000000 t_GREATEST_BID)))
    {C0 C1 C2 C3 C4 C6 C7 : Addr} (xg0 : PySem.W.nsIn K mainGlobals "SplitError" = some (some (.ref C0))) (xg1 : PySem.W.nsIn K mainGlobals "NoPeople" = some (some (.ref C1))) (xg2 : PySem.W.nsIn K mainGlobals "TooMany" = some (some (.ref C2))) (xg3 : PySem.W.nsIn K mainGlobals "Uneven" = some (some (.ref C3))) (xg4 : PySem.W.nsIn K mainGlobals "BadBid" = some (some (.ref C4))) (xg6 : PySem.W.nsIn K mainGlobals "NoPerson" = some (some (.ref C6))) (xg7 : PySem.W.nsIn K mainGlobals "NoGood" = some (some (.ref C7)))
    (xq1 : PySem.W.excIn K C1 [.type "ValueError", .type "Exception", .type "BaseException", .type "object"] "ValueError.__new__" = true) (xk1 : PySem.W.keepIn K (.ref C1) = true) (xb1 : PySem.W.subIn K (.ref C1) (.type "BaseException") = some true) (xt1 : PySem.W.typeIn K (.ref C1) = some (.type "type"))
    (xa1 : PySem.W.findIn K (.ref C1) "__getattribute__" = some (some (.builtin "BaseException.__getattribute__"))) (xc1 : PySem.W.findIn K (.ref C1) "__getattr__" = some none) (xd1 : PySem.W.hasDictIn K C1 = true) (xe1 : PySem.W.findIn K (.ref C1) "__class__" = some (some (.builtin "object.__class__"))) (xm1 : PySem.W.mroIn K C1 (.type "object") = some true) (xv1 : PySem.W.subIn K (.ref C1) (.type "ValueError") = some true) (xi1 : PySem.W.isClsIn K C1 = true) (x1_0 : PySem.W.subIn K (.ref C1) (.ref C0) = some true)
 (x1_1 : PySem.W.subIn K (.ref C1) (.ref C1) = some true) (x1_2 : PySem.W.subIn K (.ref C1) (.ref C2) = some false) (x1_3 : PySem.W.subIn K (.ref C1) (.ref C3) = some false) (x1_4 : PySem.W.subIn K (.ref C1) (.ref C4) = some false) (x1_6 : PySem.W.subIn K (.ref C1) (.ref C6) = some false) (x1_7 : PySem.W.subIn K (.ref C1) (.ref C7) = some false)
    (xq2 : PySem.W.excIn K C2 [.type "ValueError", .type "Exception", .type "BaseException", .type "object"] "ValueError.__new__" = true) (xk2 : PySem.W.keepIn K (.ref C2) = true) (xb2 : PySem.W.subIn K (.ref C2) (.type "BaseException") = some true) (xt2 : PySem.W.typeIn K (.ref C2) = some (.type "type"))
    (xa2 : PySem.W.findIn K (.ref C2) "__getattribute__" = some (some (.builtin "BaseException.__getattribute__"))) (xc2 : PySem.W.findIn K (.ref C2) "__getattr__" = some none) (xd2 : PySem.W.hasDictIn K C2 = true) (xe2 : PySem.W.findIn K (.ref C2) "__class__" = some (some (.builtin "object.__class__"))) (xm2 : PySem.W.mroIn K C2 (.type "object") = some true) (xv2 : PySem.W.subIn K (.ref C2) (.type "ValueError") = some true) (xi2 : PySem.W.isClsIn K C2 = true) (x2_0 : PySem.W.subIn K (.ref C2) (.ref C0) = some true)
 (x2_1 : PySem.W.subIn K (.ref C2) (.ref C1) = some false) (x2_2 : PySem.W.subIn K (.ref C2) (.ref C2) = some true) (x2_3 : PySem.W.subIn K (.ref C2) (.ref C3) = some false) (x2_4 : PySem.W.subIn K (.ref C2) (.ref C4) = some false) (x2_6 : PySem.W.subIn K (.ref C2) (.ref C6) = some false) (x2_7 : PySem.W.subIn K (.ref C2) (.ref C7) = some false)
    (xq3 : PySem.W.excIn K C3 [.type "ValueError", .type "Exception", .type "BaseException", .type "object"] "ValueError.__new__" = true) (xk3 : PySem.W.keepIn K (.ref C3) = true) (xb3 : PySem.W.subIn K (.ref C3) (.type "BaseException") = some true) (xt3 : PySem.W.typeIn K (.ref C3) = some (.type "type"))
    (xa3 : PySem.W.findIn K (.ref C3) "__getattribute__" = some (some (.builtin "BaseException.__getattribute__"))) (xc3 : PySem.W.findIn K (.ref C3) "__getattr__" = some none) (xd3 : PySem.W.hasDictIn K C3 = true) (xe3 : PySem.W.findIn K (.ref C3) "__class__" = some (some (.builtin "object.__class__"))) (xm3 : PySem.W.mroIn K C3 (.type "object") = some true) (xv3 : PySem.W.subIn K (.ref C3) (.type "ValueError") = some true) (xi3 : PySem.W.isClsIn K C3 = true) (x3_0 : PySem.W.subIn K (.ref C3) (.ref C0) = some true)
 (x3_1 : PySem.W.subIn K (.ref C3) (.ref C1) = some false) (x3_2 : PySem.W.subIn K (.ref C3) (.ref C2) = some false) (x3_3 : PySem.W.subIn K (.ref C3) (.ref C3) = some true) (x3_4 : PySem.W.subIn K (.ref C3) (.ref C4) = some false) (x3_6 : PySem.W.subIn K (.ref C3) (.ref C6) = some false) (x3_7 : PySem.W.subIn K (.ref C3) (.ref C7) = some false)
    (xq4 : PySem.W.excIn K C4 [.type "ValueError", .type "Exception", .type "BaseException", .type "object"] "ValueError.__new__" = true) (xk4 : PySem.W.keepIn K (.ref C4) = true) (xb4 : PySem.W.subIn K (.ref C4) (.type "BaseException") = some true) (xt4 : PySem.W.typeIn K (.ref C4) = some (.type "type"))
    (xa4 : PySem.W.findIn K (.ref C4) "__getattribute__" = some (some (.builtin "BaseException.__getattribute__"))) (xc4 : PySem.W.findIn K (.ref C4) "__getattr__" = some none) (xd4 : PySem.W.hasDictIn K C4 = true) (xe4 : PySem.W.findIn K (.ref C4) "__class__" = some (some (.builtin "object.__class__"))) (xm4 : PySem.W.mroIn K C4 (.type "object") = some true) (xv4 : PySem.W.subIn K (.ref C4) (.type "ValueError") = some true) (xi4 : PySem.W.isClsIn K C4 = true) (x4_0 : PySem.W.subIn K (.ref C4) (.ref C0) = some true)
 (x4_1 : PySem.W.subIn K (.ref C4) (.ref C1) = some false) (x4_2 : PySem.W.subIn K (.ref C4) (.ref C2) = some false) (x4_3 : PySem.W.subIn K (.ref C4) (.ref C3) = some false) (x4_4 : PySem.W.subIn K (.ref C4) (.ref C4) = some true) (x4_6 : PySem.W.subIn K (.ref C4) (.ref C6) = some false) (x4_7 : PySem.W.subIn K (.ref C4) (.ref C7) = some false)
    (xq6 : PySem.W.excIn K C6 [.type "ValueError", .type "Exception", .type "BaseException", .type "object"] "ValueError.__new__" = true) (xk6 : PySem.W.keepIn K (.ref C6) = true) (xb6 : PySem.W.subIn K (.ref C6) (.type "BaseException") = some true) (xt6 : PySem.W.typeIn K (.ref C6) = some (.type "type"))
    (xa6 : PySem.W.findIn K (.ref C6) "__getattribute__" = some (some (.builtin "BaseException.__getattribute__"))) (xc6 : PySem.W.findIn K (.ref C6) "__getattr__" = some none) (xd6 : PySem.W.hasDictIn K C6 = true) (xe6 : PySem.W.findIn K (.ref C6) "__class__" = some (some (.builtin "object.__class__"))) (xm6 : PySem.W.mroIn K C6 (.type "object") = some true) (xv6 : PySem.W.subIn K (.ref C6) (.type "ValueError") = some true) (xi6 : PySem.W.isClsIn K C6 = true) (x6_0 : PySem.W.subIn K (.ref C6) (.ref C0) = some true)
 (x6_1 : PySem.W.subIn K (.ref C6) (.ref C1) = some false) (x6_2 : PySem.W.subIn K (.ref C6) (.ref C2) = some false) (x6_3 : PySem.W.subIn K (.ref C6) (.ref C3) = some false) (x6_4 : PySem.W.subIn K (.ref C6) (.ref C4) = some false) (x6_6 : PySem.W.subIn K (.ref C6) (.ref C6) = some true) (x6_7 : PySem.W.subIn K (.ref C6) (.ref C7) = some false)
    (xq7 : PySem.W.excIn K C7 [.type "ValueError", .type "Exception", .type "BaseException", .type "object"] "ValueError.__new__" = true) (xk7 : PySem.W.keepIn K (.ref C7) = true) (xb7 : PySem.W.subIn K (.ref C7) (.type "BaseException") = some true) (xt7 : PySem.W.typeIn K (.ref C7) = some (.type "type"))
    (xa7 : PySem.W.findIn K (.ref C7) "__getattribute__" = some (some (.builtin "BaseException.__getattribute__"))) (xc7 : PySem.W.findIn K (.ref C7) "__getattr__" = some none) (xd7 : PySem.W.hasDictIn K C7 = true) (xe7 : PySem.W.findIn K (.ref C7) "__class__" = some (some (.builtin "object.__class__"))) (xm7 : PySem.W.mroIn K C7 (.type "object") = some true) (xv7 : PySem.W.subIn K (.ref C7) (.type "ValueError") = some true) (xi7 : PySem.W.isClsIn K C7 = true) (x7_0 : PySem.W.subIn K (.ref C7) (.ref C0) = some true)
 (x7_1 : PySem.W.subIn K (.ref C7) (.ref C1) = some false) (x7_2 : PySem.W.subIn K (.ref C7) (.ref C2) = some false) (x7_3 : PySem.W.subIn K (.ref C7) (.ref C3) = some false) (x7_4 : PySem.W.subIn K (.ref C7) (.ref C4) = some false) (x7_6 : PySem.W.subIn K (.ref C7) (.ref C6) = some false) (x7_7 : PySem.W.subIn K (.ref C7) (.ref C7) = some true)
    (xn : PySem.W.specialIn K (.builtin "object.__class__") "__get__" = some (some (.builtin "getset_descriptor.__get__"))) (xz : PySem.W.takesIn K (.builtin "object.__class__") = some true)
    (xb0 : PySem.W.subIn K (.ref C0) (.type "BaseException") = some true) (xt0 : PySem.W.typeIn K (.ref C0) = some (.type "type")) (xi0 : PySem.W.isClsIn K C0 = true)
    : ∃ fd : FuncData, (∀ (s : Shared) (v : Value), BindsTo s fd ⟨[v], []⟩ [("_law_script", v)]) ∧ ∀ base : Heap, K.In base → base.Ns mainGlobals mg → FnOk l.prog w K mg base (L2.CX l.prog w) 9 fa fd ["_law_script"] (sp_law K) := by
  have e := hfa.symm.trans (PySem.W.mg_of X G a50)
  cases e
  have B : Bt mg := ⟨PySem.W.mg_none_of X G z_len, PySem.W.mg_none_of X G z_range, PySem.W.mg_none_of X G z_sum, PySem.W.mg_none_of X G z_isinstance, PySem.W.mg_none_of X G z_int, PySem.W.mg_none_of X G z_bool, PySem.W.mg_none_of X G z_list, PySem.W.mg_none_of X G z_tuple, PySem.W.mg_none_of X G z_sorted, PySem.W.mg_none_of X G z_max, PySem.W.mg_none_of X G z_min, PySem.W.mg_none_of X G z_all, PySem.W.mg_none_of X G z_any, PySem.W.mg_none_of X G z_zip, PySem.W.mg_none_of X G z_str, PySem.W.mg_none_of X G z_ValueError⟩
  obtain ⟨cl, el0, el1, el2, el3, el4, el6, el7⟩ : ∃ cl : Nat → Addr, cl 0 = C0 ∧ cl 1 = C1 ∧ cl 2 = C2 ∧ cl 3 = C3 ∧ cl 4 = C4 ∧ cl 6 = C6 ∧ cl 7 = C7 := ⟨fun n => if n = 0 then C0 else if n = 1 then C1 else if n = 2 then C2 else if n = 3 then C3 else if n = 4 then C4 else if n = 6 then C6 else if n = 7 then C7 else C0, rfl, rfl, rfl, rfl, rfl, rfl, rfl⟩
  have xG0 : mg "SplitError" = some (.ref (cl 0)) := by rw [el0]; exact PySem.W.mg_of X G xg0
  have x_NoPeople : ExC K mg "NoPeople" (cl 1) := by rw [el1]; exact ⟨PySem.W.mg_of X G xg1, xq1, xk1, xb1, xt1⟩
  have x_TooMany : ExC K mg "TooMany" (cl 2) := by rw [el2]; exact ⟨PySem.W.mg_of X G xg2, xq2, xk2, xb2, xt2⟩
  have x_Uneven : ExC K mg "Uneven" (cl 3) := by rw [el3]; exact ⟨PySem.W.mg_of X G xg3, xq3, xk3, xb3, xt3⟩
  have x_BadBid : ExC K mg "BadBid" (cl 4) := by rw [el4]; exact ⟨PySem.W.mg_of X G xg4, xq4, xk4, xb4, xt4⟩
  have x_NoPerson : ExC K mg "NoPerson" (cl 6) := by rw [el6]; exact ⟨PySem.W.mg_of X G xg6, xq6, xk6, xb6, xt6⟩
  have x_NoGood : ExC K mg "NoGood" (cl 7) := by rw [el7]; exact ⟨PySem.W.mg_of X G xg7, xq7, xk7, xb7, xt7⟩
  have xm : ExM K cl [1, 2, 3, 4, 6, 7] := by
    constructor
    · intro i hi j hj
      simp only [List.mem_cons, List.not_mem_nil, or_false] at hi hj
      rcases hi with rfl | rfl | rfl | rfl | rfl | rfl
      · rcases hj with rfl | rfl | rfl | rfl | rfl | rfl
        · rw [el1]; exact exm_by xb1 xi1 xt1 x1_1
        · rw [el1, el2]; exact exm_by xb2 xi2 xt2 x1_2
        · rw [el1, el3]; exact exm_by xb3 xi3 xt3 x1_3
        · rw [el1, el4]; exact exm_by xb4 xi4 xt4 x1_4
        · rw [el1, el6]; exact exm_by xb6 xi6 xt6 x1_6
        · rw [el1, el7]; exact exm_by xb7 xi7 xt7 x1_7
      · rcases hj with rfl | rfl | rfl | rfl | rfl | rfl
        · rw [el2, el1]; exact exm_by xb1 xi1 xt1 x2_1
        · rw [el2]; exact exm_by xb2 xi2 xt2 x2_2
        · rw [el2, el3]; exact exm_by xb3 xi3 xt3 x2_3
        · rw [el2, el4]; exact exm_by xb4 xi4 xt4 x2_4
        · rw [el2, el6]; exact exm_by xb6 xi6 xt6 x2_6
        · rw [el2, el7]; exact exm_by xb7 xi7 xt7 x2_7
      · rcases hj with rfl | rfl | rfl | rfl | rfl | rfl
        · rw [el3, el1]; exact exm_by xb1 xi1 xt1 x3_1
        · rw [el3, el2]; exact exm_by xb2 xi2 xt2 x3_2
        · rw [el3]; exact exm_by xb3 xi3 xt3 x3_3
        · rw [el3, el4]; exact exm_by xb4 xi4 xt4 x3_4
        · rw [el3, el6]; exact exm_by xb6 xi6 xt6 x3_6
        · rw [el3, el7]; exact exm_by xb7 xi7 xt7 x3_7
      · rcases hj with rfl | rfl | rfl | rfl | rfl | rfl
        · rw [el4, el1]; exact exm_by xb1 xi1 xt1 x4_1
        · rw [el4, el2]; exact exm_by xb2 xi2 xt2 x4_2
        · rw [el4, el3]; exact exm_by xb3 xi3 xt3 x4_3
        · rw [el4]; exact exm_by xb4 xi4 xt4 x4_4
        · rw [el4, el6]; exact exm_by xb6 xi6 xt6 x4_6
        · rw [el4, el7]; exact exm_by xb7 xi7 xt7 x4_7
      · rcases hj with rfl | rfl | rfl | rfl | rfl | rfl
        · rw [el6, el1]; exact exm_by xb1 xi1 xt1 x6_1
        · rw [el6, el2]; exact exm_by xb2 xi2 xt2 x6_2
        · rw [el6, el3]; exact exm_by xb3 xi3 xt3 x6_3
        · rw [el6, el4]; exact exm_by xb4 xi4 xt4 x6_4
        · rw [el6]; exact exm_by xb6 xi6 xt6 x6_6
        · rw [el6, el7]; exact exm_by xb7 xi7 xt7 x6_7
      · rcases hj with rfl | rfl | rfl | rfl | rfl | rfl
        · rw [el7, el1]; exact exm_by xb1 xi1 xt1 x7_1
        · rw [el7, el2]; exact exm_by xb2 xi2 xt2 x7_2
        · rw [el7, el3]; exact exm_by xb3 xi3 xt3 x7_3
        · rw [el7, el4]; exact exm_by xb4 xi4 xt4 x7_4
        · rw [el7, el6]; exact exm_by xb6 xi6 xt6 x7_6
        · rw [el7]; exact exm_by xb7 xi7 xt7 x7_7
    · intro i hi
      simp only [List.mem_cons, List.not_mem_nil, or_false] at hi
      rcases hi with rfl | rfl | rfl | rfl | rfl | rfl
      · rw [el1, el0]; exact exm_by xb0 xi0 xt0 x1_0
      · rw [el2, el0]; exact exm_by xb0 xi0 xt0 x2_0
      · rw [el3, el0]; exact exm_by xb0 xi0 xt0 x3_0
      · rw [el4, el0]; exact exm_by xb0 xi0 xt0 x4_0
      · rw [el6, el0]; exact exm_by xb0 xi0 xt0 x6_0
      · rw [el7, el0]; exact exm_by xb0 xi0 xt0 x7_0
    · intro i hi
      simp only [List.mem_cons, List.not_mem_nil, or_false] at hi
      rcases hi with rfl | rfl | rfl | rfl | rfl | rfl
      · rw [el1]; exact ⟨xa1, xc1, xb1, xd1, xe1, xn, xz, xm1⟩
      · rw [el2]; exact ⟨xa2, xc2, xb2, xd2, xe2, xn, xz, xm2⟩
      · rw [el3]; exact ⟨xa3, xc3, xb3, xd3, xe3, xn, xz, xm3⟩
      · rw [el4]; exact ⟨xa4, xc4, xb4, xd4, xe4, xn, xz, xm4⟩
      · rw [el6]; exact ⟨xa6, xc6, xb6, xd6, xe6, xn, xz, xm6⟩
      · rw [el7]; exact ⟨xa7, xc7, xb7, xd7, xe7, xn, xz, xm7⟩
    · intro i hi
      simp only [List.mem_cons, List.not_mem_nil, or_false] at hi
      rcases hi with rfl | rfl | rfl | rfl | rfl | rfl
      · rw [el1]; exact kit_by xv1
      · rw [el2]; exact kit_by xv2
      · rw [el3]; exact kit_by xv3
      · rw [el4]; exact kit_by xv4
      · rw [el6]; exact kit_by xv6
      · rw [el7]; exact kit_by xv7
  have T : TabC K mg C := ⟨⟨pg, hd, po, sa⟩, nr, ng, nb, PySem.W.mg_of X G aC, mk, kc⟩
  have c_MOST_PEOPLE : KInt mg "MOST_PEOPLE" 9 := ⟨_, PySem.W.mg_of X G q_MOST_PEOPLE⟩
  have c_MOST_GOODS : KInt mg "MOST_GOODS" 40 := ⟨_, PySem.W.mg_of X G q_MOST_GOODS⟩
  have c_GREATEST_BID : KInt mg "GREATEST_BID" 1000000000000 := ⟨_, PySem.W.mg_of X G q_GREATEST_BID⟩
  have F0 := fun_mk (st := s_is_number) l0 c0 k0
  have b0 := F0.binds (ps := ["thing"]) fun _ _ _ _ _ _ us hl => match us, hl with | [_], _ => rfl
  have D0 : DnX K mg "is_number" s_is_number ["thing"] := ⟨_, _, F0, PySem.W.mg_of X G a0, b0⟩
  have F1 := fun_mk (st := s_is_bid) l1 c1 k1
  have b1 := F1.binds (ps := ["thing"]) fun _ _ _ _ _ _ us hl => match us, hl with | [_], _ => rfl
  have D1 : DnX K mg "is_bid" s_is_bid ["thing"] := ⟨_, _, F1, PySem.W.mg_of X G a1, b1⟩
  have F2 := fun_mk (st := s_is_place) l2 c2 k2
  have b2 := F2.binds (ps := ["thing", "many"]) fun _ _ _ _ _ _ us hl => match us, hl with | [_, _], _ => rfl
  have D2 : DnX K mg "is_place" s_is_place ["thing", "many"] := ⟨_, _, F2, PySem.W.mg_of X G a2, b2⟩
  have F3 := fun_mk (st := s_check_line) l3 c3 k3
  have b3 := F3.binds (ps := ["line", "many"]) fun _ _ _ _ _ _ us hl => match us, hl with | [_, _], _ => rfl
  have D3 : DnX K mg "check_line" s_check_line ["line", "many"] := ⟨_, _, F3, PySem.W.mg_of X G a3, b3⟩
  have F4 := fun_mk (st := s_check_bids) l4 c4 k4
  have b4 := F4.binds (ps := ["bids"]) fun _ _ _ _ _ _ us hl => match us, hl with | [_], _ => rfl
  have D4 : DnX K mg "check_bids" s_check_bids ["bids"] := ⟨_, _, F4, PySem.W.mg_of X G a4, b4⟩
  have F5 := fun_mk (st := s_worth) l5 c5 k5
  have b5 := F5.binds (ps := ["row", "heap"]) fun _ _ _ _ _ _ us hl => match us, hl with | [_, _], _ => rfl
  have D5 : DnX K mg "worth" s_worth ["row", "heap"] := ⟨_, _, F5, PySem.W.mg_of X G a5, b5⟩
  have F6 := fun_mk (st := s_first_of_most) l6 c6 k6
  have b6 := F6.binds (ps := ["bids", "good"]) fun _ _ _ _ _ _ us hl => match us, hl with | [_, _], _ => rfl
  have D6 : DnX K mg "first_of_most" s_first_of_most ["bids", "good"] := ⟨_, _, F6, PySem.W.mg_of X G a6, b6⟩
  have F7 := fun_mk (st := s_given) l7 c7 k7
  have b7 := F7.binds (ps := ["bids"]) fun _ _ _ _ _ _ us hl => match us, hl with | [_], _ => rfl
  have D7 : DnX K mg "given" s_given ["bids"] := ⟨_, _, F7, PySem.W.mg_of X G a7, b7⟩
  have F8 := fun_mk (st := s_in_heaps) l8 c8 k8
  have b8 := F8.binds (ps := ["bids"]) fun _ _ _ _ _ _ us hl => match us, hl with | [_], _ => rfl
  have D8 : DnX K mg "in_heaps" s_in_heaps ["bids"] := ⟨_, _, F8, PySem.W.mg_of X G a8, b8⟩
  have F9 := fun_mk (st := s_with_one_more) l9 c9 k9
  have b9 := F9.binds (ps := ["best", "row"]) fun _ _ _ _ _ _ us hl => match us, hl with | [_, _], _ => rfl
  have D9 : DnX K mg "with_one_more" s_with_one_more ["best", "row"] := ⟨_, _, F9, PySem.W.mg_of X G a9, b9⟩
  have F10 := fun_mk (st := s_best_rooms) l10 c10 k10
  have b10 := F10.binds (ps := ["rows"]) fun _ _ _ _ _ _ us hl => match us, hl with | [_], _ => rfl
  have D10 : DnX K mg "best_rooms" s_best_rooms ["rows"] := ⟨_, _, F10, PySem.W.mg_of X G a10, b10⟩
  have F11 := fun_mk (st := s_prices) l11 c11 k11
  have b11 := F11.binds (ps := ["rows", "rooms"]) fun _ _ _ _ _ _ us hl => match us, hl with | [_, _], _ => rfl
  have D11 : DnX K mg "prices" s_prices ["rows", "rooms"] := ⟨_, _, F11, PySem.W.mg_of X G a11, b11⟩
  have F12 := fun_mk (st := s_in_rooms) l12 c12 k12
  have b12 := F12.binds (ps := ["bids"]) fun _ _ _ _ _ _ us hl => match us, hl with | [_], _ => rfl
  have D12 : DnX K mg "in_rooms" s_in_rooms ["bids"] := ⟨_, _, F12, PySem.W.mg_of X G a12, b12⟩
  have F13 := fun_mk (st := s_Table___init__) l13 c13 k13
  have b13 := F13.binds (ps := ["self"]) fun _ _ _ _ _ _ us hl => match us, hl with | [_], _ => rfl
  have D13 : DnM K C "__init__" "Table.__init__" s_Table___init__ ["self"] := ⟨_, _, F13, ⟨a13, i13, k13⟩, b13⟩
  have F14 := fun_mk (st := s_Table__change) l14 c14 k14
  have b14 := F14.binds (ps := ["self", "rows", "goods"]) fun _ _ _ _ _ _ us hl => match us, hl with | [_, _, _], _ => rfl
  have D14 : DnM K C "_change" "Table._change" s_Table__change ["self", "rows", "goods"] := ⟨_, _, F14, ⟨a14, i14, k14⟩, b14⟩
  have F15 := fun_mk (st := s_Table_come) l15 c15 k15
  have b15 := F15.binds (ps := ["self", "row"]) fun _ _ _ _ _ _ us hl => match us, hl with | [_, _], _ => rfl
  have D15 : DnM K C "come" "Table.come" s_Table_come ["self", "row"] := ⟨_, _, F15, ⟨a15, i15, k15⟩, b15⟩
  have F16 := fun_mk (st := s_Table__check_person) l16 c16 k16
  have b16 := F16.binds (ps := ["self", "person"]) fun _ _ _ _ _ _ us hl => match us, hl with | [_, _], _ => rfl
  have D16 : DnM K C "_check_person" "Table._check_person" s_Table__check_person ["self", "person"] := ⟨_, _, F16, ⟨a16, i16, k16⟩, b16⟩
  have F17 := fun_mk (st := s_Table_leave) l17 c17 k17
  have b17 := F17.binds (ps := ["self", "person"]) fun _ _ _ _ _ _ us hl => match us, hl with | [_, _], _ => rfl
  have D17 : DnM K C "leave" "Table.leave" s_Table_leave ["self", "person"] := ⟨_, _, F17, ⟨a17, i17, k17⟩, b17⟩
  have F18 := fun_mk (st := s_Table_put) l18 c18 k18
  have b18 := F18.binds (ps := ["self", "column"]) fun _ _ _ _ _ _ us hl => match us, hl with | [_, _], _ => rfl
  have D18 : DnM K C "put" "Table.put" s_Table_put ["self", "column"] := ⟨_, _, F18, ⟨a18, i18, k18⟩, b18⟩
  have F19 := fun_mk (st := s_Table__check_good) l19 c19 k19
  have b19 := F19.binds (ps := ["self", "good"]) fun _ _ _ _ _ _ us hl => match us, hl with | [_, _], _ => rfl
  have D19 : DnM K C "_check_good" "Table._check_good" s_Table__check_good ["self", "good"] := ⟨_, _, F19, ⟨a19, i19, k19⟩, b19⟩
  have F20 := fun_mk (st := s_Table_take) l20 c20 k20
  have b20 := F20.binds (ps := ["self", "good"]) fun _ _ _ _ _ _ us hl => match us, hl with | [_, _], _ => rfl
  have D20 : DnM K C "take" "Table.take" s_Table_take ["self", "good"] := ⟨_, _, F20, ⟨a20, i20, k20⟩, b20⟩
  have F21 := fun_mk (st := s_Table_bid) l21 c21 k21
  have b21 := F21.binds (ps := ["self", "person", "good", "amount"]) fun _ _ _ _ _ _ us hl => match us, hl with | [_, _, _, _], _ => rfl
  have D21 : DnM K C "bid" "Table.bid" s_Table_bid ["self", "person", "good", "amount"] := ⟨_, _, F21, ⟨a21, i21, k21⟩, b21⟩
  have F22 := fun_mk (st := s_Table_back) l22 c22 k22
  have b22 := F22.binds (ps := ["self"]) fun _ _ _ _ _ _ us hl => match us, hl with | [_], _ => rfl
  have D22 : DnM K C "back" "Table.back" s_Table_back ["self"] := ⟨_, _, F22, ⟨a22, i22, k22⟩, b22⟩
  have F23 := fun_mk (st := s_Table_in_heaps) l23 c23 k23
  have b23 := F23.binds (ps := ["self"]) fun _ _ _ _ _ _ us hl => match us, hl with | [_], _ => rfl
  have D23 : DnM K C "in_heaps" "Table.in_heaps" s_Table_in_heaps ["self"] := ⟨_, _, F23, ⟨a23, i23, k23⟩, b23⟩
  have F24 := fun_mk (st := s_Table_in_rooms) l24 c24 k24
  have b24 := F24.binds (ps := ["self"]) fun _ _ _ _ _ _ us hl => match us, hl with | [_], _ => rfl
  have D24 : DnM K C "in_rooms" "Table.in_rooms" s_Table_in_rooms ["self"] := ⟨_, _, F24, ⟨a24, i24, k24⟩, b24⟩
  have F25 := fun_mk (st := s__law_whole) l25 c25 k25
  have b25 := F25.binds (ps := ["_law_found"]) fun _ _ _ _ _ _ us hl => match us, hl with | [_], _ => rfl
  have D25 : DnX K mg "_law_whole" s__law_whole ["_law_found"] := ⟨_, _, F25, PySem.W.mg_of X G a25, b25⟩
  have F26 := fun_mk (st := s__law_cell) l26 c26 k26
  have b26 := F26.binds (ps := ["_law_script", "_law_k"]) fun _ _ _ _ _ _ us hl => match us, hl with | [_, _], _ => rfl
  have D26 : DnX K mg "_law_cell" s__law_cell ["_law_script", "_law_k"] := ⟨_, _, F26, PySem.W.mg_of X G a26, b26⟩
  have F27 := fun_mk (st := s__law_draws) l27 c27 k27
  have b27 := F27.binds (ps := ["_law_cell_here", "_law_many"]) fun _ _ _ _ _ _ us hl => match us, hl with | [_, _], _ => rfl
  have D27 : DnX K mg "_law_draws" s__law_draws ["_law_cell_here", "_law_many"] := ⟨_, _, F27, PySem.W.mg_of X G a27, b27⟩
  have F28 := fun_mk (st := s__law_bid) l28 c28 k28
  have b28 := F28.binds (ps := ["_law_cell_here", "_law_kind"]) fun _ _ _ _ _ _ us hl => match us, hl with | [_, _], _ => rfl
  have D28 : DnX K mg "_law_bid" s__law_bid ["_law_cell_here", "_law_kind"] := ⟨_, _, F28, PySem.W.mg_of X G a28, b28⟩
  have F29 := fun_mk (st := s__law_worth) l29 c29 k29
  have b29 := F29.binds (ps := ["_law_row", "_law_heap"]) fun _ _ _ _ _ _ us hl => match us, hl with | [_, _], _ => rfl
  have D29 : DnX K mg "_law_worth" s__law_worth ["_law_row", "_law_heap"] := ⟨_, _, F29, PySem.W.mg_of X G a29, b29⟩
  have F30 := fun_mk (st := s__law_numbers) l30 c30 k30
  have b30 := F30.binds (ps := ["_law_found", "_law_many"]) fun _ _ _ _ _ _ us hl => match us, hl with | [_, _], _ => rfl
  have D30 : DnX K mg "_law_numbers" s__law_numbers ["_law_found", "_law_many"] := ⟨_, _, F30, PySem.W.mg_of X G a30, b30⟩
  have F31 := fun_mk (st := s__law_heaps) l31 c31 k31
  have b31 := F31.binds (ps := ["_law_found", "_law_people", "_law_goods"]) fun _ _ _ _ _ _ us hl => match us, hl with | [_, _, _], _ => rfl
  have D31 : DnX K mg "_law_heaps" s__law_heaps ["_law_found", "_law_people", "_law_goods"] := ⟨_, _, F31, PySem.W.mg_of X G a31, b31⟩
  have F32 := fun_mk (st := s__law_deal) l32 c32 k32
  have b32 := F32.binds (ps := ["_law_found", "_law_people", "_law_goods"]) fun _ _ _ _ _ _ us hl => match us, hl with | [_, _, _], _ => rfl
  have D32 : DnX K mg "_law_deal" s__law_deal ["_law_found", "_law_people", "_law_goods"] := ⟨_, _, F32, PySem.W.mg_of X G a32, b32⟩
  have F33 := fun_mk (st := s__law_envied) l33 c33 k33
  have b33 := F33.binds (ps := ["_law_bids", "_law_heaps_here", "_law_sums"]) fun _ _ _ _ _ _ us hl => match us, hl with | [_, _, _], _ => rfl
  have D33 : DnX K mg "_law_envied" s__law_envied ["_law_bids", "_law_heaps_here", "_law_sums"] := ⟨_, _, F33, PySem.W.mg_of X G a33, b33⟩
  have F34 := fun_mk (st := s__law_wrong) l34 c34 k34
  have b34 := F34.binds (ps := ["_law_cell_here"]) fun _ _ _ _ _ _ us hl => match us, hl with | [_], _ => rfl
  have D34 : DnX K mg "_law_wrong" s__law_wrong ["_law_cell_here"] := ⟨_, _, F34, PySem.W.mg_of X G a34, b34⟩
  have F35 := fun_mk (st := s__law_line) l35 c35 k35
  have b35 := F35.binds (ps := ["_law_draws_here", "_law_many", "_law_kind"]) fun _ _ _ _ _ _ us hl => match us, hl with | [_, _, _], _ => rfl
  have D35 : DnX K mg "_law_line" s__law_line ["_law_draws_here", "_law_many", "_law_kind"] := ⟨_, _, F35, PySem.W.mg_of X G a35, b35⟩
  have F36 := fun_mk (st := s__law_place) l36 c36 k36
  have b36 := F36.binds (ps := ["_law_draw", "_law_many"]) fun _ _ _ _ _ _ us hl => match us, hl with | [_, _], _ => rfl
  have D36 : DnX K mg "_law_place" s__law_place ["_law_draw", "_law_many"] := ⟨_, _, F36, PySem.W.mg_of X G a36, b36⟩
  have F37 := fun_mk (st := s__law_fine) l37 c37 k37
  have b37 := F37.binds (ps := ["_law_one"]) fun _ _ _ _ _ _ us hl => match us, hl with | [_], _ => rfl
  have D37 : DnX K mg "_law_fine" s__law_fine ["_law_one"] := ⟨_, _, F37, PySem.W.mg_of X G a37, b37⟩
  have F38 := fun_mk (st := s__law_line_due) l38 c38 k38
  have b38 := F38.binds (ps := ["_law_line_here", "_law_many"]) fun _ _ _ _ _ _ us hl => match us, hl with | [_, _], _ => rfl
  have D38 : DnX K mg "_law_line_due" s__law_line_due ["_law_line_here", "_law_many"] := ⟨_, _, F38, PySem.W.mg_of X G a38, b38⟩
  have F39 := fun_mk (st := s__law_is_place) l39 c39 k39
  have b39 := F39.binds (ps := ["_law_one", "_law_many"]) fun _ _ _ _ _ _ us hl => match us, hl with | [_, _], _ => rfl
  have D39 : DnX K mg "_law_is_place" s__law_is_place ["_law_one", "_law_many"] := ⟨_, _, F39, PySem.W.mg_of X G a39, b39⟩
  have F40 := fun_mk (st := s__law_deed) l40 c40 k40
  have b40 := F40.binds (ps := ["_law_cell_here", "_law_rows", "_law_goods"]) fun _ _ _ _ _ _ us hl => match us, hl with | [_, _, _], _ => rfl
  have D40 : DnX K mg "_law_deed" s__law_deed ["_law_cell_here", "_law_rows", "_law_goods"] := ⟨_, _, F40, PySem.W.mg_of X G a40, b40⟩
  have F41 := fun_mk (st := s__law_due) l41 c41 k41
  have b41 := F41.binds (ps := ["_law_deed_here", "_law_rows", "_law_goods"]) fun _ _ _ _ _ _ us hl => match us, hl with | [_, _, _], _ => rfl
  have D41 : DnX K mg "_law_due" s__law_due ["_law_deed_here", "_law_rows", "_law_goods"] := ⟨_, _, F41, PySem.W.mg_of X G a41, b41⟩
  have F42 := fun_mk (st := s__law_behind) l42 c42 k42
  have b42 := F42.binds (ps := ["_law_deed_here", "_law_rows"]) fun _ _ _ _ _ _ us hl => match us, hl with | [_, _], _ => rfl
  have D42 : DnX K mg "_law_behind" s__law_behind ["_law_deed_here", "_law_rows"] := ⟨_, _, F42, PySem.W.mg_of X G a42, b42⟩
  have F43 := fun_mk (st := s__law_do) l43 c43 k43
  have b43 := F43.binds (ps := ["_law_table", "_law_deed_here"]) fun _ _ _ _ _ _ us hl => match us, hl with | [_, _], _ => rfl
  have D43 : DnX K mg "_law_do" s__law_do ["_law_table", "_law_deed_here"] := ⟨_, _, F43, PySem.W.mg_of X G a43, b43⟩
  have F44 := fun_mk (st := s__law_told) l44 c44 k44
  have b44 := F44.binds (ps := ["_law_table", "_law_deed_here"]) fun _ _ _ _ _ _ us hl => match us, hl with | [_, _], _ => rfl
  have D44 : DnX K mg "_law_told" s__law_told ["_law_table", "_law_deed_here"] := ⟨_, _, F44, PySem.W.mg_of X G a44, b44⟩
  have F45 := fun_mk (st := s__law_deal_of) l45 c45 k45
  have b45 := F45.binds (ps := ["_law_table", "_law_rooms"]) fun _ _ _ _ _ _ us hl => match us, hl with | [_, _], _ => rfl
  have D45 : DnX K mg "_law_deal_of" s__law_deal_of ["_law_table", "_law_rooms"] := ⟨_, _, F45, PySem.W.mg_of X G a45, b45⟩
  have F46 := fun_mk (st := s__law_by_bids) l46 c46 k46
  have b46 := F46.binds (ps := ["_law_rows", "_law_goods"]) fun _ _ _ _ _ _ us hl => match us, hl with | [_, _], _ => rfl
  have D46 : DnX K mg "_law_by_bids" s__law_by_bids ["_law_rows", "_law_goods"] := ⟨_, _, F46, PySem.W.mg_of X G a46, b46⟩
  have F47 := fun_mk (st := s__law_fair) l47 c47 k47
  have b47 := F47.binds (ps := ["_law_table", "_law_rows", "_law_goods", "_law_rooms"]) fun _ _ _ _ _ _ us hl => match us, hl with | [_, _, _, _], _ => rfl
  have D47 : DnX K mg "_law_fair" s__law_fair ["_law_table", "_law_rows", "_law_goods", "_law_rooms"] := ⟨_, _, F47, PySem.W.mg_of X G a47, b47⟩
  have F48 := fun_mk (st := s__law_made_good) l48 c48 k48
  have b48 := F48.binds (ps := ["_law_first"]) fun _ _ _ _ _ _ us hl => match us, hl with | [_], _ => rfl
  have D48 : DnX K mg "_law_made_good" s__law_made_good ["_law_first"] := ⟨_, _, F48, PySem.W.mg_of X G a48, b48⟩
  have F49 := fun_mk (st := s__law_held) l49 c49 k49
  have b49 := F49.binds (ps := ["_law_table", "_law_rows", "_law_goods", "_law_held_here"]) fun _ _ _ _ _ _ us hl => match us, hl with | [_, _, _, _], _ => rfl
  have D49 : DnX K mg "_law_held" s__law_held ["_law_table", "_law_rows", "_law_goods", "_law_held_here"] := ⟨_, _, F49, PySem.W.mg_of X G a49, b49⟩
  have F50 := fun_mk (st := s_law) l50 c50 k50
  have b50 := F50.binds (ps := ["_law_script"]) fun _ _ _ _ _ _ us hl => match us, hl with | [_], _ => rfl
  have D50 : DnX K mg "law" s_law ["_law_script"] := ⟨_, _, F50, PySem.W.mg_of X G a50, b50⟩
  exact ⟨PySem.W.fnOf "law" "law" (defArgs s_law) (defBody s_law) (defScope s_law) .none kV50 dc50 pm50 an50 cd50 ct50, fun s v => .of_eq rfl, fun base _ _ => by
    have O_is_number := ok_is_number (P := l.prog) (w := w) (base := base) D0 B
    have O_is_bid := ok_is_bid (P := l.prog) (w := w) (base := base) D1 B c_GREATEST_BID O_is_number
    have O_is_place := ok_is_place (P := l.prog) (w := w) (base := base) D2 B O_is_number
    have O_check_line := ok_check_line (P := l.prog) (w := w) (base := base) (cl := cl) D3 B x_Uneven x_BadBid O_is_bid
    have O_check_bids := ok_check_bids (P := l.prog) (w := w) (base := base) (cl := cl) D4 B x_NoPeople x_TooMany c_MOST_PEOPLE c_MOST_GOODS O_check_line
    have O_worth := ok_worth (P := l.prog) (w := w) (base := base) D5 B O_is_place
    have O_first_of_most := ok_first_of_most (P := l.prog) (w := w) (base := base) D6 B
    have O_given := ok_given (P := l.prog) (w := w) (base := base) D7 B O_first_of_most
    have O_in_heaps := ok_in_heaps (P := l.prog) (w := w) (base := base) (cl := cl) D8 B O_check_bids O_given O_worth
    have O_in_heaps_heaps := Tb.ok_alias O_in_heaps ((PySem.W.mg_of X G al_in_heaps_heaps).trans (PySem.W.mg_of X G a8).symm)
    have O_with_one_more := ok_with_one_more (P := l.prog) (w := w) (base := base) D9 B
    have O_best_rooms := ok_best_rooms (P := l.prog) (w := w) (base := base) D10 B O_with_one_more
    have O_prices := ok_prices (P := l.prog) (w := w) (base := base) D11 B
    have O_in_rooms := ok_in_rooms (P := l.prog) (w := w) (base := base) (cl := cl) D12 B x_TooMany O_check_bids O_best_rooms O_prices
    have O_in_rooms_rooms := Tb.ok_alias O_in_rooms ((PySem.W.mg_of X G al_in_rooms_rooms).trans (PySem.W.mg_of X G a12).symm)
    have O_Table___init__ := ok_Table___init__ (P := l.prog) (w := w) (base := base) D13 B T
    have O_Table__change := ok_Table__change (P := l.prog) (w := w) (base := base) D14 B T
    have O_Table_come := ok_Table_come (P := l.prog) (w := w) (base := base) (cl := cl) D15 B T x_TooMany c_MOST_PEOPLE O_check_line O_Table__change
    have O_Table__check_person := ok_Table__check_person (P := l.prog) (w := w) (base := base) (cl := cl) D16 B T x_NoPerson O_is_place
    have O_Table_leave := ok_Table_leave (P := l.prog) (w := w) (base := base) (cl := cl) D17 B T O_Table__check_person O_Table__change
    have O_Table_put := ok_Table_put (P := l.prog) (w := w) (base := base) (cl := cl) D18 B T x_TooMany c_MOST_GOODS O_check_line O_Table__change
    have O_Table__check_good := ok_Table__check_good (P := l.prog) (w := w) (base := base) (cl := cl) D19 B T x_NoGood O_is_place
    have O_Table_take := ok_Table_take (P := l.prog) (w := w) (base := base) (cl := cl) D20 B T O_Table__check_good O_Table__change
    have O_Table_bid := ok_Table_bid (P := l.prog) (w := w) (base := base) (cl := cl) D21 B T x_BadBid O_Table__check_person O_Table__check_good O_Table__change O_is_bid
    have O_Table_back := ok_Table_back (P := l.prog) (w := w) (base := base) D22 B T
    have O_Table_in_heaps := ok_Table_in_heaps (P := l.prog) (w := w) (base := base) (cl := cl) D23 B T O_in_heaps_heaps
    have O_Table_in_rooms := ok_Table_in_rooms (P := l.prog) (w := w) (base := base) (cl := cl) D24 B T O_in_rooms_rooms
    have O__law_whole := ok__law_whole (P := l.prog) (w := w) (base := base) D25 B
    have O__law_cell := ok__law_cell (P := l.prog) (w := w) (base := base) D26 B
    have O__law_draws := ok__law_draws (P := l.prog) (w := w) (base := base) D27 B
    have O__law_bid := ok__law_bid (P := l.prog) (w := w) (base := base) D28 B
    have O__law_worth := ok__law_worth (P := l.prog) (w := w) (base := base) D29 B
    have O__law_numbers := ok__law_numbers (P := l.prog) (w := w) (base := base) D30 B O__law_whole
    have O__law_heaps := ok__law_heaps (P := l.prog) (w := w) (base := base) D31 B O__law_whole
    have O__law_deal := ok__law_deal (P := l.prog) (w := w) (base := base) D32 B O__law_heaps O__law_numbers
    have O__law_envied := ok__law_envied (P := l.prog) (w := w) (base := base) D33 B O__law_worth
    have O__law_wrong := ok__law_wrong (P := l.prog) (w := w) (base := base) D34 B
    have O__law_line := ok__law_line (P := l.prog) (w := w) (base := base) D35 B O__law_bid O__law_wrong
    have O__law_place := ok__law_place (P := l.prog) (w := w) (base := base) D36 B
    have O__law_fine := ok__law_fine (P := l.prog) (w := w) (base := base) D37 B O__law_whole
    have O__law_line_due := ok__law_line_due (P := l.prog) (w := w) (base := base) D38 B O__law_fine
    have O__law_is_place := ok__law_is_place (P := l.prog) (w := w) (base := base) D39 B O__law_whole
    have O__law_deed := ok__law_deed (P := l.prog) (w := w) (base := base) D40 B O__law_draws O__law_bid O__law_line O__law_place O__law_wrong
    have O__law_due := ok__law_due (P := l.prog) (w := w) (base := base) D41 B O__law_line_due O__law_is_place O__law_fine
    have O__law_behind := ok__law_behind (P := l.prog) (w := w) (base := base) D42 B
    have O__law_do := ok__law_do (P := l.prog) (w := w) (base := base) (cl := cl) D43 B T O_Table_back O_Table_come O_Table_leave O_Table_put O_Table_take O_Table_bid
    have O__law_told := ok__law_told (P := l.prog) (w := w) (base := base) (cl := cl) D44 B T x_TooMany x_Uneven x_BadBid x_NoPerson x_NoGood xm O__law_do
    have O__law_deal_of := ok__law_deal_of (P := l.prog) (w := w) (base := base) (cl := cl) D45 B T x_NoPeople x_TooMany xm O_Table_in_heaps O_Table_in_rooms
    have O__law_by_bids := ok__law_by_bids (P := l.prog) (w := w) (base := base) D46 B O__law_worth
    have O__law_fair := ok__law_fair (P := l.prog) (w := w) (base := base) (cl := cl) D47 B T O__law_deal_of O__law_envied O__law_deal O__law_by_bids O_in_rooms_rooms
    have O__law_made_good := ok__law_made_good (P := l.prog) (w := w) (base := base) (cl := cl) D48 B T O_Table___init__ O_Table_put O_Table_take O_Table_come O_Table_back O_Table_leave O__law_deal_of O__law_told O_Table_in_rooms O_in_rooms_rooms O_Table_in_heaps O__law_by_bids
    have O__law_held := ok__law_held (P := l.prog) (w := w) (base := base) (cl := cl) D49 B T O_Table_in_heaps O__law_by_bids O_Table_in_rooms O_in_rooms_rooms
    exact ok_fn F50 (PySem.W.mg_of X G a50) (ok_law (P := l.prog) (w := w) (base := base) (cl := cl) D50 B T O_Table___init__ O__law_cell O_Table_put O_Table_come O__law_deed O__law_due O__law_made_good O__law_told O__law_behind O__law_held O__law_fair)⟩
end Fk13
open PySem PySem.W PyProof.Rows
set_option maxHeartbeats 0 in
theorem PySem.Challenge.cw_fairsplit_k13_whole_table_fair_holds : PySem.Challenge.rw_fairsplit_k13_whole_table_fair.Holds := by
  w_on; o_law; k_head; (case hw => w_witness2)
  k_fill
  refine L2.walk_of (l := PySem.Challenge.rw_fairsplit_k13_whole_table_fair) (n := 63) (k := 9) (x := "_law_script") (CX := fun w => L2.CX PySem.Challenge.rw_fairsplit_k13_whole_table_fair.prog w) (sp := fun w => Fk13.sp_law _) rfl (by decide) rfl ⟨rfl, by decide, by decide⟩ (fun w h Y => PySem.W.kIn_of Y) ?F (fun _ H a ns hl hO hS => Fk13.law_start hl hS) (fun _ _ _ _ _ h => by obtain ⟨_, _, _, _, _, _, _, _, _, _, _, _, z⟩ := h; exact z)
  case F =>
    intro w mg fa h KX G hmg
    refine' Fk13.all_mk KX G hmg ?a0 ?l0 ?c0 ?k0 ?a1 ?l1 ?c1 ?k1 ?a2 ?l2 ?c2 ?k2 ?a3 ?l3 ?c3 ?k3 ?a4 ?l4 ?c4 ?k4 ?a5 ?l5 ?c5 ?k5 ?a6 ?l6 ?c6 ?k6 ?a7 ?l7 ?c7 ?k7 ?a8 ?l8 ?c8 ?k8 ?a9 ?l9 ?c9 ?k9 ?a10 ?l10 ?c10 ?k10 ?a11 ?l11 ?c11 ?k11 ?a12 ?l12 ?c12 ?k12 ?a13 ?i13 ?l13 ?c13 ?k13 ?a14 ?i14 ?l14 ?c14 ?k14 ?a15 ?i15 ?l15 ?c15 ?k15 ?a16 ?i16 ?l16 ?c16 ?k16 ?a17 ?i17 ?l17 ?c17 ?k17 ?a18 ?i18 ?l18 ?c18 ?k18 ?a19 ?i19 ?l19 ?c19 ?k19 ?a20 ?i20 ?l20 ?c20 ?k20 ?a21 ?i21 ?l21 ?c21 ?k21 ?a22 ?i22 ?l22 ?c22 ?k22 ?a23 ?i23 ?l23 ?c23 ?k23 ?a24 ?i24 ?l24 ?c24 ?k24 ?a25 ?l25 ?c25 ?k25 ?a26 ?l26 ?c26 ?k26 ?a27 ?l27 ?c27 ?k27 ?a28 ?l28 ?c28 ?k28 ?a29 ?l29 ?c29 ?k29 ?a30 ?l30 ?c30 ?k30 ?a31 ?l31 ?c31 ?k31 ?a32 ?l32 ?c32 ?k32 ?a33 ?l33 ?c33 ?k33 ?a34 ?l34 ?c34 ?k34 ?a35 ?l35 ?c35 ?k35 ?a36 ?l36 ?c36 ?k36 ?a37 ?l37 ?c37 ?k37 ?a38 ?l38 ?c38 ?k38 ?a39 ?l39 ?c39 ?k39 ?a40 ?l40 ?c40 ?k40 ?a41 ?l41 ?c41 ?k41 ?a42 ?l42 ?c42 ?k42 ?a43 ?l43 ?c43 ?k43 ?a44 ?l44 ?c44 ?k44 ?a45 ?l45 ?c45 ?k45 ?a46 ?l46 ?c46 ?k46 ?a47 ?l47 ?c47 ?k47 ?a48 ?l48 ?c48 ?k48 ?a49 ?l49 ?c49 ?k49 ?a50 ?l50 ?c50 ?k50 ?aC ?pg ?hd ?po ?sa ?mk ?kc ?nr ?ng ?nb ?al_in_heaps_heaps ?al_in_rooms_rooms ?z_len ?z_range ?z_sum ?z_isinstance ?z_int ?z_bool ?z_list ?z_tuple ?z_sorted ?z_max ?z_min ?z_all ?z_any ?z_zip ?z_str ?z_ValueError ?q_MOST_PEOPLE ?q_MOST_GOODS ?q_GREATEST_BID ?xg0 ?xg1 ?xg2 ?xg3 ?xg4 ?xg6 ?xg7 ?xq1 ?xk1 ?xb1 ?xt1 ?xa1 ?xc1 ?xd1 ?xe1 ?xm1 ?xv1 ?xi1 ?x1_0 ?x1_1 ?x1_2 ?x1_3 ?x1_4 ?x1_6 ?x1_7 ?xq2 ?xk2 ?xb2 ?xt2 ?xa2 ?xc2 ?xd2 ?xe2 ?xm2 ?xv2 ?xi2 ?x2_0 ?x2_1 ?x2_2 ?x2_3 ?x2_4 ?x2_6 ?x2_7 ?xq3 ?xk3 ?xb3 ?xt3 ?xa3 ?xc3 ?xd3 ?xe3 ?xm3 ?xv3 ?xi3 ?x3_0 ?x3_1 ?x3_2 ?x3_3 ?x3_4 ?x3_6 ?x3_7 ?xq4 ?xk4 ?xb4 ?xt4 ?xa4 ?xc4 ?xd4 ?xe4 ?xm4 ?xv4 ?xi4 ?x4_0 ?x4_1 ?x4_2 ?x4_3 ?x4_4 ?x4_6 ?x4_7 ?xq6 ?xk6 ?xb6 ?xt6 ?xa6 ?xc6 ?xd6 ?xe6 ?xm6 ?xv6 ?xi6 ?x6_0 ?x6_1 ?x6_2 ?x6_3 ?x6_4 ?x6_6 ?x6_7 ?xq7 ?xk7 ?xb7 ?xt7 ?xa7 ?xc7 ?xd7 ?xe7 ?xm7 ?xv7 ?xi7 ?x7_0 ?x7_1 ?x7_2 ?x7_3 ?x7_4 ?x7_6 ?x7_7 ?xn ?xz ?xb0 ?xt0 ?xi0
    (case aC => k_is); (case a0 => k_is); (case l0 => k_is); (case c0 => k_is); (case k0 => k_is); (case a1 => k_is); (case l1 => k_is); (case c1 => k_is); (case k1 => k_is); (case a2 => k_is); (case l2 => k_is); (case c2 => k_is)
    (case k2 => k_is); (case a3 => k_is); (case l3 => k_is); (case c3 => k_is); (case k3 => k_is); (case a4 => k_is); (case l4 => k_is); (case c4 => k_is); (case k4 => k_is); (case a5 => k_is); (case l5 => k_is); (case c5 => k_is)
    (case k5 => k_is); (case a6 => k_is); (case l6 => k_is); (case c6 => k_is); (case k6 => k_is); (case a7 => k_is); (case l7 => k_is); (case c7 => k_is); (case k7 => k_is); (case a8 => k_is); (case l8 => k_is); (case c8 => k_is)
    (case k8 => k_is); (case a9 => k_is); (case l9 => k_is); (case c9 => k_is); (case k9 => k_is); (case a10 => k_is); (case l10 => k_is); (case c10 => k_is); (case k10 => k_is); (case a11 => k_is); (case l11 => k_is); (case c11 => k_is)
    (case k11 => k_is); (case a12 => k_is); (case l12 => k_is); (case c12 => k_is); (case k12 => k_is); (case a13 => k_is); (case i13 => k_is); (case l13 => k_is); (case c13 => k_is); (case k13 => k_is); (case a14 => k_is); (case i14 => k_is)
    (case l14 => k_is); (case c14 => k_is); (case k14 => k_is); (case a15 => k_is); (case i15 => k_is); (case l15 => k_is); (case c15 => k_is); (case k15 => k_is); (case a16 => k_is); (case i16 => k_is); (case l16 => k_is); (case c16 => k_is)
    (case k16 => k_is); (case a17 => k_is); (case i17 => k_is); (case l17 => k_is); (case c17 => k_is); (case k17 => k_is); (case a18 => k_is); (case i18 => k_is); (case l18 => k_is); (case c18 => k_is); (case k18 => k_is); (case a19 => k_is)
    (case i19 => k_is); (case l19 => k_is); (case c19 => k_is); (case k19 => k_is); (case a20 => k_is); (case i20 => k_is); (case l20 => k_is); (case c20 => k_is); (case k20 => k_is); (case a21 => k_is); (case i21 => k_is); (case l21 => k_is)
    (case c21 => k_is); (case k21 => k_is); (case a22 => k_is); (case i22 => k_is); (case l22 => k_is); (case c22 => k_is); (case k22 => k_is); (case a23 => k_is); (case i23 => k_is); (case l23 => k_is); (case c23 => k_is); (case k23 => k_is)
    (case a24 => k_is); (case i24 => k_is); (case l24 => k_is); (case c24 => k_is); (case k24 => k_is); (case a25 => k_is); (case l25 => k_is); (case c25 => k_is); (case k25 => k_is); (case a26 => k_is); (case l26 => k_is); (case c26 => k_is)
    (case k26 => k_is); (case a27 => k_is); (case l27 => k_is); (case c27 => k_is); (case k27 => k_is); (case a28 => k_is); (case l28 => k_is); (case c28 => k_is); (case k28 => k_is); (case a29 => k_is); (case l29 => k_is); (case c29 => k_is)
    (case k29 => k_is); (case a30 => k_is); (case l30 => k_is); (case c30 => k_is); (case k30 => k_is); (case a31 => k_is); (case l31 => k_is); (case c31 => k_is); (case k31 => k_is); (case a32 => k_is); (case l32 => k_is); (case c32 => k_is)
    (case k32 => k_is); (case a33 => k_is); (case l33 => k_is); (case c33 => k_is); (case k33 => k_is); (case a34 => k_is); (case l34 => k_is); (case c34 => k_is); (case k34 => k_is); (case a35 => k_is); (case l35 => k_is); (case c35 => k_is)
    (case k35 => k_is); (case a36 => k_is); (case l36 => k_is); (case c36 => k_is); (case k36 => k_is); (case a37 => k_is); (case l37 => k_is); (case c37 => k_is); (case k37 => k_is); (case a38 => k_is); (case l38 => k_is); (case c38 => k_is)
    (case k38 => k_is); (case a39 => k_is); (case l39 => k_is); (case c39 => k_is); (case k39 => k_is); (case a40 => k_is); (case l40 => k_is); (case c40 => k_is); (case k40 => k_is); (case a41 => k_is); (case l41 => k_is); (case c41 => k_is)
    (case k41 => k_is); (case a42 => k_is); (case l42 => k_is); (case c42 => k_is); (case k42 => k_is); (case a43 => k_is); (case l43 => k_is); (case c43 => k_is); (case k43 => k_is); (case a44 => k_is); (case l44 => k_is); (case c44 => k_is)
    (case k44 => k_is); (case a45 => k_is); (case l45 => k_is); (case c45 => k_is); (case k45 => k_is); (case a46 => k_is); (case l46 => k_is); (case c46 => k_is); (case k46 => k_is); (case a47 => k_is); (case l47 => k_is); (case c47 => k_is)
    (case k47 => k_is); (case a48 => k_is); (case l48 => k_is); (case c48 => k_is); (case k48 => k_is); (case a49 => k_is); (case l49 => k_is); (case c49 => k_is); (case k49 => k_is); (case a50 => k_is); (case l50 => k_is); (case c50 => k_is)
    (case k50 => k_is); (case pg => k_is); (case hd => k_is); (case po => k_is); (case sa => k_is); (case mk => k_is); (case kc => k_is); (case nr => k_is); (case ng => k_is); (case nb => k_is); (case al_in_heaps_heaps => k_is); (case al_in_rooms_rooms => k_is)
    (case z_len => k_is); (case z_range => k_is); (case z_sum => k_is); (case z_isinstance => k_is); (case z_int => k_is); (case z_bool => k_is); (case z_list => k_is); (case z_tuple => k_is); (case z_sorted => k_is); (case z_max => k_is); (case z_min => k_is); (case z_all => k_is)
    (case z_any => k_is); (case z_zip => k_is); (case z_str => k_is); (case z_ValueError => k_is); (case q_MOST_PEOPLE => k_is); (case q_MOST_GOODS => k_is); (case q_GREATEST_BID => k_is); (case xg0 => k_is); (case xg1 => k_is); (case xg2 => k_is); (case xg3 => k_is); (case xg4 => k_is)
    (case xg6 => k_is); (case xg7 => k_is); (case xq1 => k_exc); (case xk1 => k_is); (case xb1 => k_is); (case xt1 => k_is); (case xa1 => k_is); (case xc1 => k_is); (case xd1 => k_is); (case xe1 => k_is); (case xm1 => k_is); (case xv1 => k_is)
    (case xi1 => k_is); (case x1_0 => k_is); (case x1_1 => k_is); (case x1_2 => k_is); (case x1_3 => k_is); (case x1_4 => k_is); (case x1_6 => k_is); (case x1_7 => k_is); (case xq2 => k_exc); (case xk2 => k_is); (case xb2 => k_is); (case xt2 => k_is)
    (case xa2 => k_is); (case xc2 => k_is); (case xd2 => k_is); (case xe2 => k_is); (case xm2 => k_is); (case xv2 => k_is); (case xi2 => k_is); (case x2_0 => k_is); (case x2_1 => k_is); (case x2_2 => k_is); (case x2_3 => k_is); (case x2_4 => k_is)
    (case x2_6 => k_is); (case x2_7 => k_is); (case xq3 => k_exc); (case xk3 => k_is); (case xb3 => k_is); (case xt3 => k_is); (case xa3 => k_is); (case xc3 => k_is); (case xd3 => k_is); (case xe3 => k_is); (case xm3 => k_is); (case xv3 => k_is)
    (case xi3 => k_is); (case x3_0 => k_is); (case x3_1 => k_is); (case x3_2 => k_is); (case x3_3 => k_is); (case x3_4 => k_is); (case x3_6 => k_is); (case x3_7 => k_is); (case xq4 => k_exc); (case xk4 => k_is); (case xb4 => k_is); (case xt4 => k_is)
    (case xa4 => k_is); (case xc4 => k_is); (case xd4 => k_is); (case xe4 => k_is); (case xm4 => k_is); (case xv4 => k_is); (case xi4 => k_is); (case x4_0 => k_is); (case x4_1 => k_is); (case x4_2 => k_is); (case x4_3 => k_is); (case x4_4 => k_is)
    (case x4_6 => k_is); (case x4_7 => k_is); (case xq6 => k_exc); (case xk6 => k_is); (case xb6 => k_is); (case xt6 => k_is); (case xa6 => k_is); (case xc6 => k_is); (case xd6 => k_is); (case xe6 => k_is); (case xm6 => k_is); (case xv6 => k_is)
    (case xi6 => k_is); (case x6_0 => k_is); (case x6_1 => k_is); (case x6_2 => k_is); (case x6_3 => k_is); (case x6_4 => k_is); (case x6_6 => k_is); (case x6_7 => k_is); (case xq7 => k_exc); (case xk7 => k_is); (case xb7 => k_is); (case xt7 => k_is)
    (case xa7 => k_is); (case xc7 => k_is); (case xd7 => k_is); (case xe7 => k_is); (case xm7 => k_is); (case xv7 => k_is); (case xi7 => k_is); (case x7_0 => k_is); (case x7_1 => k_is); (case x7_2 => k_is); (case x7_3 => k_is); (case x7_4 => k_is)
    (case x7_6 => k_is); (case x7_7 => k_is); (case xn => k_is); (case xz => k_is); (case xb0 => k_is); (case xt0 => k_is); (case xi0 => k_is)
