import PyProof.Rows.All
import Wide.All
import OpenK.AllK
import Wide.FinOn
import HandS.ForMost
import HandS.Evl
import HandS.IsInst
import HandS.Conv
import HandS.SortInts
import HandS.Style
import HandS.WordsExc
import HandS.Zip
import HandS.More
import HandS.Text
import HandS.StrMore
import HandS.Replace
import PySem.Challenge.RW_fairsplit_k06_bids_written
set_option Elab.async false
set_option linter.all false
set_option maxRecDepth 100000
set_option maxHeartbeats 4000000
/-! Fs: what all the proofs share. -/
namespace Fs
open PySem PySem.Spec PyProof.Rows L2 Evl
/-- the built-in names are not the program's own -/
structure Bt (mg : Str → Option Value) : Prop where
  len : mg "len" = none
  range : mg "range" = none
  sum : mg "sum" = none
  isinstance : mg "isinstance" = none
  int : mg "int" = none
  bool : mg "bool" = none
  list : mg "list" = none
  tuple : mg "tuple" = none
  sorted : mg "sorted" = none
  max : mg "max" = none
  min : mg "min" = none
  all : mg "all" = none
  any : mg "any" = none
  zip : mg "zip" = none
  str : mg "str" = none
  ValueError : mg "ValueError" = none
/-- a def that stands in the text -/
def DnX (K : PySem.W.Frag) (mg : Str → Option Value) (x : Str) (st : Stmt) (ps : List Str) : Prop :=
  ∃ f fd, Fun K x x st f fd ∧ mg x = some (.ref f) ∧ Binds K fd ps []
/-- a def that keeps its promise -/
def Ok (P : Program) (w : World) (K : PySem.W.Frag) (mg : Str → Option Value) (base : Heap) (CX : CXT) (k : Nat) (x : Str) (ps : List Str) (sp : Sp) : Prop :=
  ∃ f fd, FnOk P w K mg base CX k f fd ps sp ∧ mg x = some (.ref f) ∧ PySem.W.keepIn K (.ref f) = true ∧ Binds K fd ps [] ∧ ∃ oc od osl, K.lookup f = some ⟨oc, od, .func fd, osl⟩
section
variable {P : Program} {w : World} {K : PySem.W.Frag} {mg : Str → Option Value} {base : Heap}
theorem ok_of {x : Str} {st : Stmt} {N ps : List Str} {k : Nat} {sp : Sp} (D : DnX K mg x st ps) (S : FnScope N ps (defScope st)) (len : ∀ vs H Q E, sp vs H Q E → vs.length = ps.length)
    (hbody : ∀ (f : Addr) (cdv : Value) (A : Around) (outer : List Env) (s : Shared) (H : Hp) (vs : List V) (Q : VK) (E : XK), Room k (A.deeper (envOfC x (defScope st) s.heap.objs.size f cdv)) → sp vs H Q E →
      ∃ t, PSs (cxOf CX0 P w K mg base N x (defScope st) f cdv A outer s H E).nox (defBody st) t ∧ t { nx := fun _ H' => Q .non H', rt := Q } (start N vs) H) : Ok P w K mg base CX0 (k + 1) x ps sp := by
  obtain ⟨f, fd, F, g, b⟩ := D
  have F0 := F
  obtain ⟨oc, od, _, _, _, _, _, _, osl, _, lk, _⟩ := F0.ex
  exact ⟨f, fd, F.ok S len fun cdv A outer s H vs Q E hr h => hbody f cdv A outer s H vs Q E hr h, g, F.kp, b, oc, od, osl, lk⟩
theorem Ok.mono {CX : CXT} {j k : Nat} {x : Str} {ps : List Str} {sp : Sp} (h : Ok P w K mg base CX j x ps sp) (l : j ≤ k) : Ok P w K mg base CX k x ps sp := by
  obtain ⟨f, fd, F, g, b⟩ := h
  exact ⟨f, fd, F.mono l, g, b⟩
end
/-- a module's constant -/
def KInt (mg : Str → Option Value) (x : Str) (i : Int) : Prop := ∃ t, mg x = some (.int i t)
/-- the law's own def, as the head wants it -/
theorem ok_fn {P : Program} {w : World} {K : PySem.W.Frag} {mg : Str → Option Value} {base : Heap} {CX : CXT} {k : Nat} {x : Str} {st : Stmt} {ps : List Str} {sp : Sp} {f : Addr} {fd : FuncData} (F : Fun K x x st f fd) (g : mg x = some (.ref f)) (h : Ok P w K mg base CX k x ps sp) :
    FnOk P w K mg base CX k f fd ps sp := by
  obtain ⟨f2, fd2, F2, g2, _, _, oc2, od2, osl2, lk2⟩ := h
  cases g.symm.trans g2
  obtain ⟨oc, od, _, _, _, _, _, _, osl, _, lk, _⟩ := F.ex
  cases lk.symm.trans lk2
  exact F2
section
variable {X : Cx}
theorem pe_const {x : Str} {i : Int} {pos : Pos} (hg : Gl X x) (h : KInt X.mg x i) (hd : (x == ("__debug__" : Str)) = false := by decide) : PE X (.Name x pos) (tC (.int i)) := by
  obtain ⟨t, hm⟩ := h
  exact pe_glob hg hm ⟨t, rfl⟩ hd
theorem pe_ok {CX : CXT} {k : Nat} {x : Str} {ps : List Str} {sp : Sp} {E : XK} {e : Expr} {es : List Expr} {t : TA} {p pos : Pos} (h : Ok X.prog X.w X.K X.mg X.base CX k x ps sp) (hr : Room k X.A) (hg : Gl X x) (hx : Passes CX X E) (ha : PA X (e :: es) t)
    (hdb : (x == ("__debug__" : Str)) = false := by decide) (he : starEach (e :: es) X.env = (false, eval e X.env) :: starEach es X.env := by rfl) (hpl : (backTo pos (starEach es X.env)).any (·.1) = false := by rfl) :
    PE X (.Call (.Name x p) (e :: es) [] pos) (tCall sp [] E t) := by
  obtain ⟨f, fd, F, hm, hk, hb, _⟩ := h
  exact pe_call F hr hg hm hk hb .nil hx ha hdb he hpl
end
section
variable {X : Cx} {K : PySem.W.Frag}
theorem ixL (hK : X.K = K := by rfl) : IxR X (rIxL K) := by
  subst hK
  exact ix_list
theorem ixT (hK : X.K = K := by rfl) : IxR X (rIxT K) := by
  subst hK
  exact ix_tup
theorem lenK (hK : X.K = K := by rfl) : CallR X (.builtin "len") (rLenS K) := by
  subst hK
  exact call_len_seq
theorem listK (hK : X.K = K := by rfl) : CallR X (.type "list") (rListS K) := by
  subst hK
  exact call_list_of
theorem isiK (hK : X.K = K := by rfl) : CallR X (.builtin "isinstance") (rIsi K) := by
  subst hK
  exact call_isi
theorem sumK (hc : X.calm = true) (hK : X.K = K := by rfl) : CallR X (.builtin "sum") (rSum K) := by
  subst hK
  exact cr_sum hc
theorem allK (hc : X.calm = true) (hK : X.K = K := by rfl) : CallR X (.builtin "all") (rAll K) := by
  subst hK
  exact cr_all hc
theorem anyK (hc : X.calm = true) (hK : X.K = K := by rfl) : CallR X (.builtin "any") (rAny K) := by
  subst hK
  exact cr_any hc
theorem maxK (hc : X.calm = true) (hK : X.K = K := by rfl) : CallR X (.builtin "max") (rMax K) := by
  subst hK
  exact cr_max hc
theorem minK (hc : X.calm = true) (hK : X.K = K := by rfl) : CallR X (.builtin "min") (rMin K) := by
  subst hK
  exact cr_min hc
theorem sortedK (hK : X.K = K := by rfl) : CallR X (.builtin "sorted") (rSortedI K) := by
  subst hK
  exact cr_sortedI
theorem slK (hK : X.K = K := by rfl) : SlR X (rSlL K) := by
  subst hK
  exact sl_list
theorem eqK (hu : X.A.units + 64 < cLine) (hK : X.K = K := by rfl) : OpR X (compareOp .Eq) (rEqD K) := by
  subst hK
  exact op_eqD hu
theorem neK (hu : X.A.units + 64 < cLine) (hK : X.K = K := by rfl) : OpR X (compareOp .NotEq) (rNeD K) := by
  subst hK
  exact op_neD hu
theorem inK (hK : X.K = K := by rfl) : OpR X (compareOp .In) (rIn K false) := by
  subst hK
  exact op_in_seq
theorem notInK (hK : X.K = K := by rfl) : OpR X (compareOp .NotIn) (rIn K true) := by
  subst hK
  exact op_notIn_seq
theorem indexK (hK : X.K = K := by rfl) : MtR X "list.index" (rIndex K) := by
  subst hK
  exact mt_index
theorem pi_listK {tg l : Expr} {tl : TE} (hl : PE X l tl) (hK : X.K = K := by rfl) : PI X tg l (iList K tl) := by
  subst hK
  exact pi_list hl
theorem pi_tupK {tg l : Expr} {tl : TE} (hl : PE X l tl) (hK : X.K = K := by rfl) : PI X tg l (iTup K tl) := by
  subst hK
  exact pi_tup hl
theorem pg_tupK {es : List Expr} {k : Nat} {t : TGs} {n : Nat} {pos : Pos} (hc : X.calm = true) (h : PGs X es t) (hn : (assignEach es X.env).length = n := by rfl) (hst : (assignEach es X.env).findIdx? (·.1) = none := by rfl) (hK : X.K = K := by rfl) : PG X (.Tuple es k pos) (gTup K n t) := by
  subst hK
  exact pg_tup hc h hn hst
theorem pe_revK {e : Expr} {te : TE} {k : Nat} {p1 p2 p3 pos : Pos} (he : PE X e te) (hK : X.K = K := by rfl) : PE X (.Subscript e (.Slice none none (some (.UnaryOp .USub (.Constant (.int 1) k p1) p2)) p3) pos) (tRevL K te) := by
  subst hK
  exact pe_revL he
end
/-! promises by the number of arguments -/
abbrev sp1 (R : V → Hp → VK → Prop) : Sp := fun vs H Q _ => ∃ x, vs = [x] ∧ R x H Q
abbrev sp2 (R : V → V → Hp → VK → Prop) : Sp := fun vs H Q _ => ∃ x y, vs = [x, y] ∧ R x y H Q
abbrev sp3 (R : V → V → V → Hp → VK → Prop) : Sp := fun vs H Q _ => ∃ x y z, vs = [x, y, z] ∧ R x y z H Q
abbrev sp4 (R : V → V → V → V → Hp → VK → Prop) : Sp := fun vs H Q _ => ∃ x y z u, vs = [x, y, z, u] ∧ R x y z u H Q
abbrev sp5 (R : V → V → V → V → V → Hp → VK → Prop) : Sp := fun vs H Q _ => ∃ x y z u v, vs = [x, y, z, u, v] ∧ R x y z u v H Q
theorem len1 {R : V → Hp → VK → Prop} {vs : List V} {H : Hp} {Q : VK} {E : XK} (h : sp1 R vs H Q E) : vs.length = 1 := by
  obtain ⟨_, rfl, _⟩ := h
  rfl
theorem len2 {R : V → V → Hp → VK → Prop} {vs : List V} {H : Hp} {Q : VK} {E : XK} (h : sp2 R vs H Q E) : vs.length = 2 := by
  obtain ⟨_, _, rfl, _⟩ := h
  rfl
theorem len3 {R : V → V → V → Hp → VK → Prop} {vs : List V} {H : Hp} {Q : VK} {E : XK} (h : sp3 R vs H Q E) : vs.length = 3 := by
  obtain ⟨_, _, _, rfl, _⟩ := h
  rfl
theorem len4 {R : V → V → V → V → Hp → VK → Prop} {vs : List V} {H : Hp} {Q : VK} {E : XK} (h : sp4 R vs H Q E) : vs.length = 4 := by
  obtain ⟨_, _, _, _, rfl, _⟩ := h
  rfl
theorem len5 {R : V → V → V → V → V → Hp → VK → Prop} {vs : List V} {H : Hp} {Q : VK} {E : XK} (h : sp5 R vs H Q E) : vs.length = 5 := by
  obtain ⟨_, _, _, _, _, rfl, _⟩ := h
  rfl

/-! ### values that may stand in a list: what isinstance and == know of them -/
section
variable {K : PySem.W.Frag} {H H' : Hp}
inductive Any (H : Hp) : V → Prop
  | int (i : Int) : Any H (.int i)
  | bl (b : Bool) : Any H (.bl b)
  | str (x : Str) : Any H (.str x)
  | non : Any H .non
  | lst {a : Addr} {xs : List V} (h : H a = some (.lst xs)) : Any H (.ref a)
  | tup {a : Addr} {xs : List V} (h : H a = some (.tup xs)) : Any H (.ref a)
theorem Any.mono {x : V} (e : Ex H H') (h : Any H x) : Any H' x := by
  cases h with
  | int i => exact .int i
  | bl b => exact .bl b
  | str x => exact .str x
  | non => exact .non
  | lst h => exact .lst (e _ _ h)
  | tup h => exact .tup (e _ _ h)
def isInt : V → Bool
  | .int _ => true
  | _ => false
/-- isinstance(x, int) and not isinstance(x, bool) -/
def spWhole : Sp := sp1 fun x H Q => Any H x ∧ Q (.bl (isInt x)) H
end
/-! ### lists of ints -/
theorem at_ints {ns : List Int} {i : Int} (h0 : 0 ≤ i) (h1 : i < ns.length) : atI (ns.map V.int) i = some (.int (ns.getD i.toNat 0)) := by
  obtain ⟨j, rfl⟩ := Int.eq_ofNat_of_zero_le h0
  have hj : j < ns.length := by omega
  refine atI_nat ?_
  rw [List.getElem?_map, List.getElem?_eq_getElem hj]
  simp [List.getD_eq_getElem?_getD, hj]
theorem get_ints {ns : List Int} {i : Nat} {x : V} (h : (ns.map V.int)[i]? = some x) : ∃ hi : i < ns.length, x = .int ns[i] := by
  rw [List.getElem?_map] at h
  cases e : ns[i]? with
  | none =>
    rw [e] at h
    cases h
  | some y =>
    rw [e] at h
    obtain ⟨hi, e2⟩ := List.getElem?_eq_some_iff.mp e
    exact ⟨hi, by rw [e2]; exact (Option.some.inj h).symm⟩

/-- isinstance(x, int) and not isinstance(x, bool), the name in slot 0 -/
theorem rd_whole {K : PySem.W.Frag} {x : V} {H : Hp} {Q : VK} {ti : TE} (ha : Any H x) (q : Q (.bl (isInt x)) H) (hx : ∀ Q : VK, Q x H → ti [some x] H Q) :
    tAndV (tCB (rIsi K) (tCons ti (tCons (tC (.ty "int")) tNil))) (tNotV (tCB (rIsi K) (tCons ti (tCons (tC (.ty "bool")) tNil)))) [some x] H Q := by
  have key : ∀ (n : String) (b1 b2 : Bool), TyX K H x (.type n) → kitB n "int" = some b1 → kitB n "bool" = some b2 → (b1 && !b2) = isInt x →
      tAndV (tCB (rIsi K) (tCons ti (tCons (tC (.ty "int")) tNil))) (tNotV (tCB (rIsi K) (tCons ti (tCons (tC (.ty "bool")) tNil)))) [some x] H Q := by
    intro n b1 b2 ty k1 k2 e
    refine hx _ ?_
    refine ⟨x, .ty "int", _, _, b1, rfl, .ty _, ty, kit_ty k1, b1, rfl, ?_⟩
    cases b1 with
    | true =>
      refine iteT ?_
      refine hx _ ?_
      refine ⟨x, .ty "bool", _, _, b2, rfl, .ty _, ty, kit_ty k2, b2, rfl, ?_⟩
      rw [← e] at q
      exact q
    | false =>
      refine iteF ?_
      rw [← e] at q
      exact q
  cases ha with
  | int i => exact key "int" true false (.base (.int i)) (by decide +kernel) (by decide +kernel) rfl
  | bl b => exact key "bool" true true (.base (.bl b)) (by decide +kernel) (by decide +kernel) rfl
  | str z => exact key "str" false false (.base (.str z)) (by decide +kernel) (by decide +kernel) rfl
  | non => exact key "NoneType" false false (.base .non) (by decide +kernel) (by decide +kernel) rfl
  | lst h => exact key "list" false false (.base (.lst h)) (by decide +kernel) (by decide +kernel) rfl
  | tup h => exact key "tuple" false false (.base (.tup h)) (by decide +kernel) (by decide +kernel) rfl

theorem mulR {i j : Int} (h : -(2 ^ 64) < j ∧ j < 2 ^ 64) : CMul i j := .inr h
theorem mulL {i j : Int} (h : -(2 ^ 64) < i ∧ i < 2 ^ 64) : CMul i j := .inl h
theorem getD_in {ns : List Int} {i : Nat} (h : i < ns.length) (d : Int) : ns.getD i d = ns[i] := by simp [List.getD_eq_getElem?_getD, h]
/-- what a heap is worth: the bids for its goods -/
def worthM (row heap : List Int) : Int := (heap.map fun g => row.getD g.toNat 0).sum
/-- only numbers of goods stand in the heap -/
def Inside (n : Nat) (heap : List Int) : Prop := ∀ g ∈ heap, 0 ≤ g ∧ g < (n : Int)
theorem worthM_take {row heap : List Int} {i : Nat} (h : i < heap.length) : worthM row (heap.take (i + 1)) = worthM row (heap.take i) + row.getD heap[i].toNat 0 := by
  unfold worthM
  rw [List.take_add_one, List.getElem?_eq_getElem h, List.map_append, List.sum_append]
  simp
/-! ### comprehensions over a list told by its data -/
theorem given_by {α : Type} (xs : List α) (d : α) (p : α → Bool) (g : α → V) : given xs.length (fun i => p (xs.getD i d)) (fun i => g (xs.getD i d)) = (xs.filter p).map g := by
  have e : (List.range xs.length).map (fun i => xs.getD i d) = xs := by
    refine List.ext_getElem (by simp) fun i h1 h2 => ?_
    simp [List.getD_eq_getElem?_getD, h2]
  have h : (xs.filter p).map g = (((List.range xs.length).map (fun i => xs.getD i d)).filter p).map g := by rw [e]
  rw [h, List.filter_map, List.map_map]
  rfl
theorem given_all {α : Type} (xs : List α) (d : α) (g : α → V) : given xs.length (fun _ => true) (fun i => g (xs.getD i d)) = xs.map g := by
  rw [given_by xs d (fun _ => true) g, List.filter_eq_self.mpr (fun _ _ => rfl)]
theorem given_rng (n : Nat) (p : Nat → Bool) (g : Nat → V) : given n p g = ((List.range n).filter p).map g := rfl
theorem given_rngA (n : Nat) (g : Nat → V) : given n (fun _ => true) g = (List.range n).map g := by
  unfold given
  rw [List.filter_eq_self.mpr (fun _ _ => rfl)]
section
variable {K : PySem.W.Frag} {σ : L2.St} {H H' : Hp} {te tl : TE} {t : TT} {a : Addr} {j : Nat} {vs : List Nat}
theorem el_by {α : Type} [Inhabited α] {xs : List α} {enc : α → V} (p : α → Bool) (g : α → V) (h : Ev tl σ H (.ref a)) (hx : SqL K H a (xs.map enc)) (hz : xs.length ≤ 40000) (hw : ∀ x, wipe ((wipe σ vs).set j (some x)) vs = wipe σ vs)
    (ht : ∀ x ∈ xs, ∀ H1, Ex H H1 → EvT t ((wipe σ vs).set j (some (enc x))) H1 (p x)) (he : ∀ x ∈ xs, ∀ H1, Ex H H1 → p x = true → Ev te ((wipe σ vs).set j (some (enc x))) H1 (g x)) :
    EvL (tLc (iList K tl) (gName j) t te vs) σ H ((xs.filter p).map g) := by
  have key : ∀ (i : Nat) (x : V), (xs.map enc)[i]? = some x → x = enc (xs.getD i default) ∧ xs.getD i default ∈ xs := by
    intro i x hi
    rw [List.getElem?_map] at hi
    cases e : xs[i]? with
    | none =>
      rw [e] at hi
      cases hi
    | some y =>
      rw [e] at hi
      have ey : xs.getD i default = y := by simp [List.getD_eq_getElem?_getD, e]
      rw [ey]
      exact ⟨(Option.some.inj hi).symm, List.mem_of_getElem? e⟩
  have L := el_lcL (t := t) (te := te) (j := j) (vs := vs) (fun i => p (xs.getD i default)) (fun i => g (xs.getD i default)) h hx (by rw [List.length_map]; exact hz) hw
    (fun i x H1 e1 hi => by
      obtain ⟨e, m⟩ := key i x hi
      rw [e]
      exact ht _ m H1 e1)
    (fun i x H1 e1 hi hp => by
      obtain ⟨e, m⟩ := key i x hi
      rw [e]
      exact he _ m H1 e1 hp)
  rw [List.length_map, given_by] at L
  exact L
theorem et_yes : EvT tYes σ H true := fun H1 _ _ q => q H1 (Ex.refl H1)
theorem el_all {α : Type} [Inhabited α] {xs : List α} {enc : α → V} (g : α → V) (h : Ev tl σ H (.ref a)) (hx : SqL K H a (xs.map enc)) (hz : xs.length ≤ 40000) (hw : ∀ x, wipe ((wipe σ vs).set j (some x)) vs = wipe σ vs)
    (he : ∀ x ∈ xs, ∀ H1, Ex H H1 → Ev te ((wipe σ vs).set j (some (enc x))) H1 (g x)) :
    EvL (tLc (iList K tl) (gName j) tYes te vs) σ H (xs.map g) := by
  have L := el_by (t := tYes) (te := te) (j := j) (vs := vs) (fun _ => true) g h hx hz hw (fun _ _ _ _ => et_yes) (fun x m H1 e1 _ => he x m H1 e1)
  rw [List.filter_eq_self.mpr (fun _ _ => rfl)] at L
  exact L
end
section
variable {K : PySem.W.Frag} {σ : L2.St} {H H' : Hp} {te tl : TE} {t : TT} {a : Addr} {j : Nat} {vs : List Nat} {Q : VK}
/-- [te for x in xs if t], then Q of the new list -/
theorem go_by {α : Type} [Inhabited α] {xs : List α} {enc : α → V} (p : α → Bool) (g : α → V) (h : Ev tl σ H (.ref a)) (hx : SqL K H a (xs.map enc)) (hz : xs.length ≤ 40000) (hw : ∀ x, wipe ((wipe σ vs).set j (some x)) vs = wipe σ vs)
    (ht : ∀ x ∈ xs, ∀ H1, Ex H H1 → EvT t ((wipe σ vs).set j (some (enc x))) H1 (p x)) (he : ∀ x ∈ xs, ∀ H1, Ex H H1 → p x = true → Ev te ((wipe σ vs).set j (some (enc x))) H1 (g x))
    (q : RetL ((xs.filter p).map g) H Q) : tLc (iList K tl) (gName j) t te vs σ H Q := el_by p g h hx hz hw ht he H (Ex.refl H) Q fun p H2 hp e h2 => q p H2 hp e h2
theorem go_all {α : Type} [Inhabited α] {xs : List α} {enc : α → V} (g : α → V) (h : Ev tl σ H (.ref a)) (hx : SqL K H a (xs.map enc)) (hz : xs.length ≤ 40000) (hw : ∀ x, wipe ((wipe σ vs).set j (some x)) vs = wipe σ vs)
    (he : ∀ x ∈ xs, ∀ H1, Ex H H1 → Ev te ((wipe σ vs).set j (some (enc x))) H1 (g x))
    (q : RetL (xs.map g) H Q) : tLc (iList K tl) (gName j) tYes te vs σ H Q := el_all g h hx hz hw he H (Ex.refl H) Q fun p H2 hp e h2 => q p H2 hp e h2
end
section
variable {K : PySem.W.Frag} {σ : L2.St} {H : Hp} {ta tb te tl : TE} {t u : TT} {tu tw : TS} {D : Ends} {Q : VK} {QA : List V → Hp → Prop} {QB : Bool → Hp → Prop} {r : List V → Hp → VK → Prop} {rr : R2} {ts : TA}
theorem g_ret (h : te σ H D.rt) : tRet te D σ H := h
theorem g_cb (h : ts σ H fun vs H1 => r vs H1 Q) : tCB r ts σ H Q := h
theorem g_cons (h : te σ H fun x H1 => ts σ H1 fun xs H2 => QA (x :: xs) H2) : tCons te ts σ H QA := h
theorem g_nil (h : QA [] H) : tNil σ H QA := h
theorem g_cb1 (h : te σ H fun x H1 => r [x] H1 Q) : tCB r (tCons te tNil) σ H Q := h
theorem g_op (h : ta σ H fun x H1 => tb σ H1 fun y H2 => rr x y H2 Q) : tOp rr ta tb σ H Q := h
theorem g_seq (h : tu { D with nx := tw D } σ H) : tSeq tu tw D σ H := h
theorem g_set {i : Nat} (h : te σ H fun x H1 => D.nx (σ.set i (some x)) H1) : tAsg te (gName i) D σ H := h
theorem q_set {i : Nat} (h : te σ H fun x H1 => tw D (σ.set i (some x)) H1) : tSeq (tAsg te (gName i)) tw D σ H := h
theorem q_dr (h : te σ H fun _ H1 => tw D σ H1) : tSeq (tDrop te) tw D σ H := h
theorem g_drop (h : te σ H fun _ H1 => D.nx σ H1) : tDrop te D σ H := h
theorem g_test (h : te σ H fun x H1 => ∃ k, x = .bl k ∧ QB k H1) : tTest te σ H QB := h
theorem g_call {sp : Sp} {dvs : List V} {E : XK} (h : ts σ H fun vs H1 => sp (vs ++ dvs) H1 Q E) : tCall sp dvs E ts σ H Q := h
end
/-! ### data that == compares -/
structure EncOk {α : Type} [DecidableEq α] (f : α → PyData) (n : Nat) : Prop where
  eq : ∀ x y, PyData.eqv (f x) (f y) = decide (x = y)
  lay : ∀ x, PyData.canLay0 (f x) = true
  dep : ∀ x, PyData.depth (f x) ≤ n
theorem EncOk.shaped {α : Type} [DecidableEq α] {f : α → PyData} {n : Nat} (h : EncOk f n) (hn : n ≤ 64) (x : α) : SeqAt.shaped (f x) = true := by
  unfold SeqAt.shaped
  rw [h.lay x]
  exact decide_eq_true (Nat.le_trans (h.dep x) hn)
theorem encInt : EncOk PyData.int 0 where
  eq := fun x y => by
    simp only [PyData.eqv]
    by_cases h : x = y
    · rw [h, decide_eq_true rfl, beq_self_eq_true]
    · rw [decide_eq_false h]
      exact beq_eq_false_iff_ne.mpr h
  lay := fun x => by simp only [PyData.canLay0]
  dep := fun x => by simp [PyData.depth]
section
variable {α β : Type} [DecidableEq α] [DecidableEq β] {f : α → PyData} {g : β → PyData} {n m : Nat}
theorem eqvAll_map (h : EncOk f n) : ∀ xs ys : List α, PyData.eqvAll (xs.map f) (ys.map f) = decide (xs = ys)
  | [], [] => by simp [PyData.eqvAll]
  | [], y :: ys => by simp [PyData.eqvAll]
  | x :: xs, [] => by simp [PyData.eqvAll]
  | x :: xs, y :: ys => by
    simp only [List.map_cons, PyData.eqvAll]
    rw [h.eq, eqvAll_map h xs ys]
    by_cases e : x = y
    · by_cases e2 : xs = ys
      · simp [e, e2]
      · simp [e, e2]
    · simp [e]
theorem canLayAll_map (h : EncOk f n) : ∀ xs : List α, PyData.canLayAll0 (xs.map f) = true
  | [] => by simp [PyData.canLayAll0]
  | x :: xs => by
    simp only [List.map_cons, PyData.canLayAll0]
    rw [h.lay, canLayAll_map h xs]
    rfl
theorem depthAll_map (h : EncOk f n) : ∀ xs : List α, PyData.depthAll (xs.map f) ≤ n
  | [] => by simp [PyData.depthAll]
  | x :: xs => by
    simp only [List.map_cons, PyData.depthAll]
    have h1 := h.dep x
    have h2 := depthAll_map h xs
    omega
theorem encList (h : EncOk f n) : EncOk (fun xs : List α => PyData.list (xs.map f)) (n + 1) where
  eq := fun x y => by
    simp only [PyData.eqv]
    exact eqvAll_map h x y
  lay := fun x => by
    simp only [PyData.canLay0]
    exact canLayAll_map h x
  dep := fun x => by
    simp only [PyData.depth]
    have := depthAll_map h x
    omega
theorem encPair (h : EncOk f n) (k : EncOk g m) : EncOk (fun p : α × β => PyData.tuple [f p.1, g p.2]) (n + m + 1) where
  eq := fun x y => by
    simp only [PyData.eqv, PyData.eqvAll]
    rw [h.eq, k.eq]
    cases x with
    | mk x1 x2 =>
      cases y with
      | mk y1 y2 =>
        by_cases e : x1 = y1
        · by_cases e2 : x2 = y2
          · simp [e, e2]
          · simp [e, e2]
        · simp [e]
  lay := fun x => by
    simp only [PyData.canLay0, PyData.canLayAll0]
    rw [h.lay, k.lay]
    rfl
  dep := fun x => by
    simp only [PyData.depth, PyData.depthAll]
    have h1 := h.dep x.1
    have h2 := k.dep x.2
    omega
end
abbrev dI (ns : List Int) : PyData := .list (ns.map PyData.int)
abbrev dII (rows : List (List Int)) : PyData := .list (rows.map dI)
theorem encI : EncOk dI 1 := encList encInt
theorem encII : EncOk dII 2 := encList encI
section
variable {K : PySem.W.Frag} {H H' : Hp}
mutual
theorem dp_mono (e : Ex H H') : ∀ {v : V} {d : PyData}, Dp K H v d → Dp K H' v d
  | _, _, .non => .non
  | _, _, .bl b => .bl b
  | _, _, .int i => .int i
  | _, _, .str x => .str x
  | _, _, .lst h a => .lst (ex_l e h) (dpAll_mono e a)
  | _, _, .tup h a => .tup (ex_t e h) (dpAll_mono e a)
theorem dpAll_mono (e : Ex H H') : ∀ {vs : List V} {ds : List PyData}, DpAll K H vs ds → DpAll K H' vs ds
  | _, _, .nil => .nil
  | _, _, .cons h a => .cons (dp_mono e h) (dpAll_mono e a)
end
theorem dpAll_ints : ∀ ns : List Int, DpAll K H (ns.map V.int) (ns.map PyData.int)
  | [] => .nil
  | n :: ns => .cons (.int n) (dpAll_ints ns)
theorem dp_ints {a : Addr} {ns : List Int} (h : SqL K H a (ns.map V.int)) : Dp K H (.ref a) (dI ns) := .lst h (dpAll_ints ns)
variable {α : Type} [DecidableEq α] {f : α → PyData} {n : Nat} {x y : α} {v w : V}
/-- v == w, v != w of data -/
theorem rv_eqD (F : EncOk f n) (hn : n ≤ 64) (h1 : Dp K H v (f x)) (h2 : Dp K H w (f y)) : RV (rEqD K) v w H (.bl (decide (x = y))) := fun H1 e Q q =>
  ⟨f x, f y, dp_mono e h1, dp_mono e h2, F.shaped hn x, F.shaped hn y, by rw [F.eq]; exact q H1 (Ex.refl H1)⟩
theorem rv_neD (F : EncOk f n) (hn : n ≤ 64) (h1 : Dp K H v (f x)) (h2 : Dp K H w (f y)) : RV (rNeD K) v w H (.bl (!decide (x = y))) := fun H1 e Q q =>
  ⟨f x, f y, dp_mono e h1, dp_mono e h2, F.shaped hn x, F.shaped hn y, by rw [F.eq]; exact q H1 (Ex.refl H1)⟩
theorem rv_neS (F : EncOk f n) (hn : n ≤ 64) (h1 : Dp K H v (f x)) (h2 : Dp K H w (f x)) : RV (rNeD K) v w H (.bl false) := by
  have h := rv_neD F hn h1 h2
  rw [decide_eq_true rfl] at h
  exact h
theorem rv_eqS (F : EncOk f n) (hn : n ≤ 64) (h1 : Dp K H v (f x)) (h2 : Dp K H w (f x)) : RV (rEqD K) v w H (.bl true) := by
  have h := rv_eqD F hn h1 h2
  rw [decide_eq_true rfl] at h
  exact h
end
section
variable {K : PySem.W.Frag} {σ : L2.St} {H : Hp} {te : TE} {ta : TA} {j : Nat} {vs : List Nat} {t : TT}
/-- [te for j in range(n)], with a test -/
theorem el_rng {n : Nat} (p : Nat → Bool) (v : Nat → V) (h : EvA ta σ H [.int (n : Int)]) (hn : n ≤ 40000) (hw : ∀ x, wipe ((wipe σ vs).set j (some x)) vs = wipe σ vs)
    (ht : ∀ (i : Nat) H1, Ex H H1 → i < n → EvT t ((wipe σ vs).set j (some (.int (i : Int)))) H1 (p i)) (he : ∀ (i : Nat) H1, Ex H H1 → i < n → p i = true → Ev te ((wipe σ vs).set j (some (.int (i : Int)))) H1 (v i)) :
    EvL (tLc (iRng1 ta) (gName j) t te vs) σ H (((List.range n).filter p).map v) := by
  have L := el_lcR1 (t := t) (te := te) (j := j) (vs := vs) (n := (n : Int)) p v h ⟨by omega, by omega⟩ hw (fun i H1 e hi => ht i H1 e (by omega)) (fun i H1 e hi hp => he i H1 e (by omega) hp)
  rw [Int.toNat_natCast] at L
  exact L
theorem el_rngA {n : Nat} (v : Nat → V) (h : EvA ta σ H [.int (n : Int)]) (hn : n ≤ 40000) (hw : ∀ x, wipe ((wipe σ vs).set j (some x)) vs = wipe σ vs)
    (he : ∀ (i : Nat) H1, Ex H H1 → i < n → Ev te ((wipe σ vs).set j (some (.int (i : Int)))) H1 (v i)) :
    EvL (tLc (iRng1 ta) (gName j) tYes te vs) σ H ((List.range n).map v) := by
  have L := el_rng (t := tYes) (te := te) (j := j) (vs := vs) (fun _ => true) v h hn hw (fun _ _ _ _ => et_yes) (fun i H1 e hi _ => he i H1 e hi)
  rw [List.filter_eq_self.mpr (fun _ _ => rfl)] at L
  exact L
end
section
variable {K : PySem.W.Frag} {σ : L2.St} {H H' : Hp} {te tl : TE} {t : TT} {a : Addr} {j : Nat} {vs : List Nat}
/-- as el_by, over a list that is new -/
theorem el_byN {α : Type} [Inhabited α] {xs : List α} {enc : α → V} (p : α → Bool) (g : α → V) (h : EvL tl σ H (xs.map enc)) (hz : xs.length ≤ 40000) (hw : ∀ x, wipe ((wipe σ vs).set j (some x)) vs = wipe σ vs)
    (ht : ∀ x ∈ xs, ∀ H1, Ex H H1 → EvT t ((wipe σ vs).set j (some (enc x))) H1 (p x)) (he : ∀ x ∈ xs, ∀ H1, Ex H H1 → p x = true → Ev te ((wipe σ vs).set j (some (enc x))) H1 (g x)) :
    EvL (tLc (iList K tl) (gName j) t te vs) σ H ((xs.filter p).map g) := fun H0 e0 Q q => h H0 e0 _ fun a H1 ha e1 hx =>
  el_by (tl := tC (.ref a)) p g ev_c (sq_of hx) hz hw (fun x m H2 e2 => ht x m H2 ((e0.trans e1).trans e2)) (fun x m H2 e2 => he x m H2 ((e0.trans e1).trans e2)) H1 (Ex.refl H1) Q fun p H2 hp e2 h2 => q p H2 (fresh_back e1 hp) (e1.trans e2) h2
theorem el_allN {α : Type} [Inhabited α] {xs : List α} {enc : α → V} (g : α → V) (h : EvL tl σ H (xs.map enc)) (hz : xs.length ≤ 40000) (hw : ∀ x, wipe ((wipe σ vs).set j (some x)) vs = wipe σ vs)
    (he : ∀ x ∈ xs, ∀ H1, Ex H H1 → Ev te ((wipe σ vs).set j (some (enc x))) H1 (g x)) :
    EvL (tLc (iList K tl) (gName j) tYes te vs) σ H (xs.map g) := by
  have L := el_byN (K := K) (t := tYes) (te := te) (j := j) (vs := vs) (fun _ => true) g h hz hw (fun _ _ _ _ => et_yes) (fun x m H1 e1 _ => he x m H1 e1)
  rw [List.filter_eq_self.mpr (fun _ _ => rfl)] at L
  exact L
end
/-! ### lists of lists -/
/-- at a stands a list of lists, to be read -/
def LV (K : PySem.W.Frag) (H : Hp) (a : Addr) (ys : List (List V)) : Prop :=
  ∃ ps : List Addr, SqL K H a (ps.map V.ref) ∧ ps.length = ys.length ∧ ∀ (i : Nat) (q : Addr) (y : List V), ps[i]? = some q → ys[i]? = some y → SqL K H q y
/-- rows of ints -/
abbrev iv (rows : List (List Int)) : List (List V) := rows.map fun r => r.map V.int
abbrev LL (K : PySem.W.Frag) (H : Hp) (a : Addr) (rows : List (List Int)) : Prop := LV K H a (iv rows)
/-- at p stands a new list of new lists: what may be changed. H0: the heap in which all of them were not there -/
structure LNew (H0 H : Hp) (p : Addr) (ps : List Addr) (ys : List (List V)) : Prop where
  new : H0 p = none
  top : H p = some (.lst (ps.map V.ref))
  len : ps.length = ys.length
  nd : (p :: ps).Nodup
  at_ : ∀ (i : Nat) (q : Addr) (y : List V), ps[i]? = some q → ys[i]? = some y → H0 q = none ∧ H q = some (.lst y)
section
variable {K : PySem.W.Frag} {H H' H0 : Hp} {a p : Addr} {ps : List Addr} {ys : List (List V)} {rows : List (List Int)}
theorem LV.mono (e : Ex H H') (h : LV K H a ys) : LV K H' a ys := by
  obtain ⟨ps, h1, h2, h3⟩ := h
  exact ⟨ps, ex_l e h1, h2, fun i q y h4 h5 => ex_l e (h3 i q y h4 h5)⟩
theorem LNew.lv (h : LNew H0 H p ps ys) : LV K H p ys := ⟨ps, sq_of h.top, h.len, fun i q y h1 h2 => sq_of (h.at_ i q y h1 h2).2⟩
theorem LNew.ext (h : LNew H0 H p ps ys) (e : Ex H H') : LNew H0 H' p ps ys := ⟨h.new, e _ _ h.top, h.len, h.nd, fun i q y h1 h2 => ⟨(h.at_ i q y h1 h2).1, e _ _ (h.at_ i q y h1 h2).2⟩⟩
/-- seen from an earlier heap -/
theorem LNew.back {Hb : Hp} (h : LNew H0 H p ps ys) (e : Ex Hb H0) : LNew Hb H p ps ys := ⟨fresh_back e h.new, h.top, h.len, h.nd, fun i q y h1 h2 => ⟨fresh_back e (h.at_ i q y h1 h2).1, (h.at_ i q y h1 h2).2⟩⟩
theorem LNew.app {i : Nat} {q : Addr} {y y' : List V} (h : LNew H0 H p ps ys) (hi : ps[i]? = some q) (hy : ys[i]? = some y) : LNew H0 (upd H q (.lst y')) p ps (ys.set i y') := by
  have hpq : p ≠ q := fun e => (List.nodup_cons.mp h.nd).1 (e ▸ List.mem_of_getElem? hi)
  refine ⟨h.new, by rw [upd_ne hpq]; exact h.top, by rw [List.length_set]; exact h.len, h.nd, fun k r z h1 h2 => ?_⟩
  by_cases e : k = i
  · subst e
    have : r = q := Option.some.inj (h1.symm.trans hi)
    subst this
    have hk : k < ys.length := (List.getElem?_eq_some_iff.mp hy).1
    rw [List.getElem?_set_self hk] at h2
    exact ⟨(h.at_ k r y hi hy).1, by rw [upd_same, Option.some.inj h2]⟩
  · rw [List.getElem?_set_ne (fun z => e z.symm)] at h2
    have hr : r ≠ q := fun z => e (nd_ix (List.nodup_cons.mp h.nd).2 (z ▸ h1) hi)
    rw [upd_ne hr]
    exact h.at_ k r z h1 h2
/-- one more new list behind the others -/
theorem LNew.push {H2 : Hp} {q : Addr} {y : List V} (L : LNew H0 H p ps ys) (ex : Ex H0 H) (e2 : Ex H H2) (hq : H q = none) (h2 : H2 q = some (.lst y)) : LNew H0 (upd H2 p (.lst (ps.map V.ref ++ [.ref q]))) p (ps ++ [q]) (ys ++ [y]) := by
  have nD : q ≠ p := fun z => by
    rw [z, L.top] at hq
    cases hq
  refine ⟨L.new, ?_, ?_, ?_, ?_⟩
  · rw [upd_same, List.map_append]
    rfl
  · rw [List.length_append, List.length_append, L.len]
    rfl
  · have nd := L.nd
    rw [List.nodup_cons] at nd ⊢
    refine ⟨fun m => ?_, ?_⟩
    · rcases List.mem_append.mp m with m | m
      · exact nd.1 m
      · exact nD (List.mem_singleton.mp m).symm
    · refine nd_snoc nd.2 fun m => ?_
      obtain ⟨k, hk⟩ := List.getElem?_of_mem m
      have hk2 : k < ys.length := by
        rw [← L.len]
        exact (List.getElem?_eq_some_iff.mp hk).1
      have := (L.at_ k q _ hk (List.getElem?_eq_getElem hk2)).2
      rw [hq] at this
      cases this
  · intro k r y2 h3 h4
    by_cases hk : k < ps.length
    · rw [List.getElem?_append_left hk] at h3
      rw [List.getElem?_append_left (by rw [← L.len]; exact hk)] at h4
      have a1 := L.at_ k r y2 h3 h4
      refine ⟨a1.1, ?_⟩
      have nr : r ≠ p := fun z => by
        rw [z] at h3
        exact (List.nodup_cons.mp L.nd).1 (List.mem_of_getElem? h3)
      rw [upd_ne nr]
      exact e2 _ _ a1.2
    · have hk2 : k = ps.length := by
        have := (List.getElem?_eq_some_iff.mp h3).1
        rw [List.length_append] at this
        have : k < ps.length + 1 := this
        omega
      subst hk2
      rw [List.getElem?_append_right (Nat.le_refl _), Nat.sub_self] at h3
      rw [List.getElem?_append_right (by rw [← L.len]; exact Nat.le_refl _), ← L.len, Nat.sub_self] at h4
      obtain rfl : q = r := Option.some.inj h3
      obtain rfl : y = y2 := Option.some.inj h4
      rw [upd_ne nD]
      exact ⟨fresh_back ex hq, h2⟩
theorem LNew.exm {i : Nat} {q : Addr} {o : HO} (h : LNew H0 H p ps ys) (hi : ps[i]? = some q) (e : Ex H0 H) : Ex H0 (upd H q o) := by
  have hl : i < ys.length := by
    have := (List.getElem?_eq_some_iff.mp hi).1
    have := h.len
    omega
  exact Ex.mut e (h.at_ i q ys[i] hi (List.getElem?_eq_getElem hl)).1
theorem LNew.at2 {i : Nat} (h : LNew H0 H p ps ys) (hi : i < ys.length) : ∃ q, ps[i]? = some q ∧ H q = some (.lst ys[i]) := by
  have h1 : i < ps.length := by
    have := h.len
    omega
  exact ⟨ps[i], List.getElem?_eq_getElem h1, (h.at_ i _ _ (List.getElem?_eq_getElem h1) (List.getElem?_eq_getElem hi)).2⟩
theorem at_refs {i : Nat} {q : Addr} (h : ps[i]? = some q) : atI (ps.map V.ref) (i : Int) = some (.ref q) := atI_nat (by rw [List.getElem?_map, h]; rfl)
theorem LV.at2 {i : Nat} (h : LV K H a ys) (hi : i < ys.length) : ∃ (ps : List Addr) (q : Addr), SqL K H a (ps.map V.ref) ∧ ps.length = ys.length ∧ ps[i]? = some q ∧ SqL K H q ys[i] := by
  obtain ⟨ps, h1, h2, h3⟩ := h
  have h4 : i < ps.length := by omega
  exact ⟨ps, ps[i], h1, h2, List.getElem?_eq_getElem h4, h3 i _ _ (List.getElem?_eq_getElem h4) (List.getElem?_eq_getElem hi)⟩
theorem dpAll_of {f : List Int → PyData} : ∀ {ps : List Addr} {rows : List (List Int)}, ps.length = rows.length → (∀ (i : Nat) q r, ps[i]? = some q → rows[i]? = some r → Dp K H (.ref q) (f r)) → DpAll K H (ps.map V.ref) (rows.map f)
  | [], [], _, _ => .nil
  | [], _ :: _, h, _ => by cases h
  | _ :: _, [], h, _ => by cases h
  | p :: ps, r :: rows, hl, h => .cons (h 0 p r rfl rfl) (dpAll_of (Nat.succ.inj hl) fun i q s h1 h2 => h (i + 1) q s h1 h2)
theorem LL.dp (h : LL K H a rows) : Dp K H (.ref a) (dII rows) := by
  obtain ⟨ps, h1, h2, h3⟩ := h
  rw [List.length_map] at h2
  exact .lst h1 (dpAll_of h2 fun i q r h4 h5 => dp_ints (h3 i q _ h4 (by rw [List.getElem?_map, h5]; rfl)))
/-- row i of rows that are read -/
theorem ev_row {σ : L2.St} {ta tb : TE} {i : Nat} (h : LL K H a rows) (hi : i < rows.length) (ha : Ev ta σ H (.ref a)) (hb : Ev tb σ H (.int (i : Int))) :
    ∃ q, Ev (tOp (rIxL K) ta tb) σ H (.ref q) ∧ SqL K H q ((rows.getD i []).map V.int) := by
  obtain ⟨ps, q, h1, h2, h3, h4⟩ := h.at2 (i := i) (by rw [List.length_map]; exact hi)
  refine ⟨q, ev_op ha hb (rv_ixL h1 (at_refs h3)), ?_⟩
  have e : (iv rows)[i]'(by rw [List.length_map]; exact hi) = (rows.getD i []).map V.int := by simp [List.getD_eq_getElem?_getD, hi]
  rw [e] at h4
  exact h4
theorem ev_lenLL {σ : L2.St} {ta : TE} (h : LV K H a ys) (ha : Ev ta σ H (.ref a)) : Ev (tCB (rLenS K) (tCons ta tNil)) σ H (.int (ys.length : Int)) := by
  obtain ⟨ps, h1, h2, _⟩ := h
  have := ev_len ha h1
  rw [List.length_map, h2] at this
  exact this
theorem ev_lenI {σ : L2.St} {ta : TE} {ns : List Int} (h : SqL K H a (ns.map V.int)) (ha : Ev ta σ H (.ref a)) : Ev (tCB (rLenS K) (tCons ta tNil)) σ H (.int (ns.length : Int)) := by
  have := ev_len ha h
  rw [List.length_map] at this
  exact this
/-- a new list of new lists -/
def EvN (te : TE) (σ : L2.St) (H : Hp) (ys : List (List V)) : Prop := ∀ H1, Ex H H1 → ∀ Q : VK, (∀ p ps H2, LNew H1 H2 p ps ys → Ex H1 H2 → Q (.ref p) H2) → te σ H1 Q
/-- [te for x in xs], each te a new list -/
theorem en_ys {α : Type} {σ : L2.St} {te tl : TE} {j : Nat} {vs : List Nat} {xs : List α} {enc : α → V} {ys : List (List V)} (h : Ev tl σ H (.ref a)) (hx : SqL K H a (xs.map enc)) (hz : xs.length ≤ 40000) (hl : ys.length = xs.length)
    (hw : ∀ x, wipe ((wipe σ vs).set j (some x)) vs = wipe σ vs)
    (he : ∀ (i : Nat) (x : α) (y : List V) H1, xs[i]? = some x → ys[i]? = some y → Ex H H1 → EvL te ((wipe σ vs).set j (some (enc x))) H1 y) : EvN (tLc (iList K tl) (gName j) tYes te vs) σ H ys := by
  intro H0 e0 Q q
  refine h H0 e0 _ fun H1 e1 => ⟨a, rfl, ⟨_, ex_l (e0.trans e1) hx⟩, fun D hD => ?_⟩
  refine lc_list (K := K) (a := a) (xs := xs.map enc) (fun i H' => ∃ ps : List Addr, Ex H1 H' ∧ LNew H1 H' D ps (ys.take i)) ⟨[], Ex.new hD, hD, upd_same, by simp, by simp, fun i q y h1 => by simp at h1⟩
    (fun i H' _ p => ex_l ((e0.trans e1).trans p.choose_spec.1) hx) (fun i x H' hi p => ?_) (fun H' p => ?_)
  · obtain ⟨ps, ex, L⟩ := p
    rw [List.getElem?_map] at hi
    cases ei : xs[i]? with
    | none =>
      rw [ei] at hi
      cases hi
    | some y =>
      rw [ei] at hi
      obtain rfl : enc y = x := Option.some.inj hi
      have hil : i < xs.length := (List.getElem?_eq_some_iff.mp ei).1
      have hiy : i < ys.length := by omega
      refine ⟨hw _, iteT (B := ∃ ps : List Addr, Ex H1 H' ∧ LNew H1 H' D ps (ys.take (i + 1))) ?_⟩
      refine he i y ys[i] H' ei (List.getElem?_eq_getElem hiy) ((e0.trans e1).trans ex) H' (Ex.refl H') _ fun p H2 hp e2 h2 => ⟨ps.map V.ref, e2 _ _ L.top, sz_lt ?_, ps ++ [p], Ex.mut (ex.trans e2) hD, ?_⟩
      · have := L.len
        rw [List.length_take] at this
        rw [List.length_map]
        omega
      · have et : ys.take (i + 1) = ys.take i ++ [ys[i]] := by
          rw [List.take_add_one, List.getElem?_eq_getElem hiy]
          rfl
        rw [et]
        exact L.push ex e2 hp h2
  · obtain ⟨ps, ex, L⟩ := p
    have et : ys.take (xs.map enc).length = ys := by rw [List.length_map, ← hl, List.take_length]
    rw [et] at L
    exact q D ps H' (L.back e1) (e1.trans ex)
/-- [list(x) for x in xs] -/
theorem en_copy {σ : L2.St} {tl : TE} {j : Nat} {vs : List Nat} {ys : List (List V)} (h : Ev tl σ H (.ref a)) (hx : LV K H a ys) (hz : ys.length ≤ 40000) (hj : ∀ x, ((wipe σ vs).set j (some x))[j]? = some (some x))
    (hw : ∀ x, wipe ((wipe σ vs).set j (some x)) vs = wipe σ vs) : EvN (tLc (iList K tl) (gName j) tYes (tCB (rListS K) (tCons (tVar j) tNil)) vs) σ H ys := by
  obtain ⟨ps, h1, h2, h3⟩ := hx
  exact en_ys (xs := ps) (enc := V.ref) h h1 (by omega) h2.symm hw fun i x y H1 hi hy e1 => el_list (ev_var (hj _)) (ex_l e1 (h3 i x y hi hy))
theorem q_asgN {σ : L2.St} {te : TE} {ys : List (List V)} {i : Nat} {tz : TS} {D : Ends} (h : EvN te σ H ys) (k : ∀ p ps H1, LNew H H1 p ps ys → Ex H H1 → tz D (σ.set i (some (.ref p))) H1) : tSeq (tAsg te (gName i)) tz D σ H := h H (Ex.refl H) _ k
end
/-! ### heaps that are filled -/
theorem flat_set {α : Type} : ∀ {hs : List (List α)} {i : Nat} {h : List α} {x : α}, hs[i]? = some h → (hs.set i (h ++ [x])).flatten.length = hs.flatten.length + 1
  | [], _, _, _, h => by simp at h
  | h0 :: r, 0, h, x, e => by
    obtain rfl : h0 = h := Option.some.inj e
    simp
    omega
  | h0 :: r, i + 1, h, x, e => by
    have ih := flat_set (hs := r) (i := i) (h := h) (x := x) e
    simp only [List.set_cons_succ, List.flatten_cons, List.length_append]
    omega
/-- pn new heaps of goods, told by hs -/
structure Hps (H0 H : Hp) (p : Addr) (ps : List Addr) (hs : List (List Int)) (pn gn k : Nat) : Prop where
  L : LNew H0 H p ps (iv hs)
  ex : Ex H0 H
  len : hs.length = pn
  ins : ∀ h ∈ hs, Inside gn h
  few : hs.flatten.length ≤ k
theorem Hps.ext {H0 H H' : Hp} {p : Addr} {ps : List Addr} {hs : List (List Int)} {pn gn k : Nat} (h : Hps H0 H p ps hs pn gn k) (e : Ex H H') : Hps H0 H' p ps hs pn gn k := ⟨h.L.ext e, h.ex.trans e, h.len, h.ins, h.few⟩
theorem Hps.le {H0 H : Hp} {p : Addr} {ps : List Addr} {hs : List (List Int)} {pn gn k k' : Nat} (h : Hps H0 H p ps hs pn gn k) (e : k ≤ k') : Hps H0 H p ps hs pn gn k' := ⟨h.L, h.ex, h.len, h.ins, Nat.le_trans h.few e⟩
theorem flat_len_at {hs : List (List Int)} {h : List Int} (m : h ∈ hs) : h.length ≤ hs.flatten.length := by
  obtain ⟨a, b, rfl⟩ := List.append_of_mem m
  simp
  omega
/-- a written list of one list -/
theorem lv_one {K : PySem.W.Frag} {H : Hp} {a b : Addr} {r : List Int} (h : H a = some (.lst [V.ref b])) (h2 : H b = some (.lst (r.map V.int))) : LL K H a [r] := by
  refine ⟨[b], sq_of h, rfl, fun i q y h3 h4 => ?_⟩
  cases i with
  | zero =>
    obtain rfl : b = q := Option.some.inj h3
    obtain rfl : r.map V.int = y := Option.some.inj h4
    exact sq_of h2
  | succ i => simp at h3
theorem lv_two {K : PySem.W.Frag} {H : Hp} {a b c : Addr} {r t : List Int} (h : H a = some (.lst [V.ref b, V.ref c])) (h2 : H b = some (.lst (r.map V.int))) (h5 : H c = some (.lst (t.map V.int))) : LL K H a [r, t] := by
  refine ⟨[b, c], sq_of h, rfl, fun i q y h3 h4 => ?_⟩
  cases i with
  | zero =>
    obtain rfl : b = q := Option.some.inj h3
    obtain rfl : r.map V.int = y := Option.some.inj h4
    exact sq_of h2
  | succ i =>
    cases i with
    | zero =>
      obtain rfl : c = q := Option.some.inj h3
      obtain rfl : t.map V.int = y := Option.some.inj h4
      exact sq_of h5
    | succ i => simp at h3
theorem Hps.app {H0 H : Hp} {p : Addr} {ps : List Addr} {hs : List (List Int)} {pn gn k i j : Nat} (h : Hps H0 H p ps hs pn gn k) (hi : i < pn) (hj : j < gn) :
    ∃ q, ps[i]? = some q ∧ H q = some (.lst ((hs.getD i []).map V.int)) ∧ ∀ H', Ex H H' → Hps H0 (upd H' q (.lst ((hs.getD i []).map V.int ++ [.int (j : Int)]))) p ps (hs.set i (hs.getD i [] ++ [(j : Int)])) pn gn (k + 1) := by
  have hil : i < hs.length := by
    rw [h.len]
    exact hi
  have eh : hs.getD i [] = hs[i] := by simp [List.getD_eq_getElem?_getD, hil]
  have ehs : hs[i]? = some (hs.getD i []) := by rw [eh]; exact List.getElem?_eq_getElem hil
  have ey : (iv hs)[i]? = some ((hs.getD i []).map V.int) := by rw [List.getElem?_map, ehs]; rfl
  have hip : i < ps.length := by
    have := h.L.len
    rw [List.length_map] at this
    omega
  have hq : ps[i]? = some ps[i] := List.getElem?_eq_getElem hip
  refine ⟨ps[i], hq, (h.L.at_ i _ _ hq ey).2, fun H' e => ?_⟩
  refine ⟨?_, (h.L.ext e).exm hq (h.ex.trans e), by rw [List.length_set]; exact h.len, fun x hx => ?_, by rw [flat_set ehs]; have := h.few; omega⟩
  · have := (h.L.ext e).app (y' := (hs.getD i []).map V.int ++ [.int (j : Int)]) hq ey
    have es : iv (hs.set i (hs.getD i [] ++ [(j : Int)])) = (iv hs).set i ((hs.getD i []).map V.int ++ [.int (j : Int)]) := by
      show List.map _ _ = _
      rw [List.map_set, List.map_append]
      rfl
    rw [es]
    exact this
  · rcases List.mem_or_eq_of_mem_set hx with hx | rfl
    · exact h.ins x hx
    · intro g hg
      rcases List.mem_append.mp hg with hg | hg
      · exact h.ins _ (by rw [eh]; exact List.getElem_mem hil) g hg
      · rw [List.mem_singleton.mp hg]
        omega
theorem mod_range (x : Int) {m : Int} (h : 0 < m) : ∃ n : Nat, x % m = (n : Int) ∧ (n : Int) < m := by
  have h0 : 0 ≤ x % m := Int.emod_nonneg _ (by omega)
  have h1 : x % m < m := Int.emod_lt_of_pos _ h
  exact ⟨(x % m).toNat, by omega, by omega⟩
theorem shaped_list {ds : List PyData} (h : ∀ d ∈ ds, PyData.canLay0 d = true ∧ PyData.depth d ≤ 63) : SeqAt.shaped (.list ds) = true := by
  have h1 : ∀ ds : List PyData, (∀ d ∈ ds, PyData.canLay0 d = true ∧ PyData.depth d ≤ 63) → PyData.canLayAll0 ds = true ∧ PyData.depthAll ds ≤ 63 := by
    intro ds
    induction ds with
    | nil => intro _; simp [PyData.canLayAll0, PyData.depthAll]
    | cons d r ih =>
      intro h
      have a := h d List.mem_cons_self
      have b := ih fun x hx => h x (List.mem_cons_of_mem _ hx)
      simp only [PyData.canLayAll0, PyData.depthAll]
      rw [a.1, b.1]
      exact ⟨rfl, by omega⟩
  have a := h1 ds h
  unfold SeqAt.shaped
  simp only [PyData.canLay0, PyData.depth]
  rw [a.1]
  exact decide_eq_true (by omega)
section
variable {σ : L2.St} {H : Hp} {ts : TA} {Q : VK}
theorem g_lst (h : ts σ H fun xs H1 => xs.length ≤ sizeLine ∧ ∀ p, H1 p = none → Q (.ref p) (upd H1 p (.lst xs))) : tLst ts σ H Q := h
theorem g_tup (h : ts σ H fun xs H1 => xs.length ≤ sizeLine ∧ ∀ p, H1 p = none → Q (.ref p) (upd H1 p (.tup xs))) : tTup ts σ H Q := h
end
/-! ### a comprehension over a list of lists, flattened -/
theorem flat_take {α : Type} (yss : List (List α)) {i : Nat} (h : i < yss.length) : (yss.take (i + 1)).flatten = (yss.take i).flatten ++ yss[i] := by
  rw [List.take_add_one, List.getElem?_eq_getElem h, List.flatten_append]
  simp
section
variable {K : PySem.W.Frag} {σ : L2.St} {H : Hp} {te tl : TE} {a : Addr} {j j2 : Nat} {vs vs1 : List Nat}
/-- [te for ys in a for y in ys] -/
theorem el_flat {yss : List (List V)} (g : V → V) (h : Ev tl σ H (.ref a)) (hx : LV K H a yss) (hz : (yss.flatten).length ≤ 40000)
    (hj : ((wipe σ vs).set j (some (.ref a)))[j]? = some (some (.ref a)))
    (hw : ∀ x, wipe ((wipe σ vs).set j (some x)) vs = wipe σ vs) (hw1 : ∀ x y, wipe ((wipe ((wipe σ vs).set j (some x)) vs1).set j2 (some y)) vs1 = wipe ((wipe σ vs).set j (some x)) vs1)
    (he : ∀ (x y : V) H1, y ∈ yss.flatten → Ex H H1 → Ev te ((wipe ((wipe σ vs).set j (some x)) vs1).set j2 (some y)) H1 (g y)) :
    EvL (tLc2 (iList K tl) (gName j) tYes (iList K (tVar j)) (gName j2) tYes te vs vs1) σ H (yss.flatten.map g) := by
  intro H0 e0 Q q
  obtain ⟨ps, hs, hl, hat⟩ := hx
  have hjl : j < (wipe σ vs).length := by
    have := (List.getElem?_eq_some_iff.mp hj).1
    rw [List.length_set] at this
    exact this
  have fl : ∀ n, ((yss.take n).flatten).length ≤ yss.flatten.length := fun n => by
    have e : yss.flatten = (yss.take n).flatten ++ (yss.drop n).flatten := by rw [← List.flatten_append, List.take_append_drop]
    rw [e, List.length_append]
    omega
  refine h H0 e0 _ fun H1 e1 => ⟨a, rfl, ⟨_, ex_l (e0.trans e1) hs⟩, fun D hD => ?_⟩
  refine ⟨fun i m H' => m = ps.length - i ∧ i ≤ ps.length ∧ Ex H1 H' ∧ H' D = some (.lst ((yss.take i).flatten.map g)), ⟨ps.length, rfl, Nat.zero_le _, Ex.new hD, upd_same⟩, ?_⟩
  rintro i m H' ⟨rfl, hi, ex, hD'⟩
  have hS : SqL K H' a (ps.map V.ref) := ex_l ((e0.trans e1).trans ex) hs
  by_cases hlt : i < ps.length
  · have hy : i < yss.length := by omega
    refine .inr ⟨⟨_, _, hS, by rw [List.getElem?_map, List.getElem?_eq_getElem hlt]; rfl⟩, fun H'' => i + 1 ≤ ps.length ∧ Ex H1 H'' ∧ H'' D = some (.lst ((yss.take (i + 1)).flatten.map g)), fun H'' z => ⟨ps.length - (i + 1), by omega, rfl, z⟩, fun x H'' y => ?_⟩
    obtain ⟨rfl, hyl⟩ := y
    have ex' := hyl _ hS
    rw [List.getElem?_map, List.getElem?_eq_getElem hlt] at ex'
    obtain rfl : V.ref ps[i] = x := Option.some.inj ex'
    refine ⟨hw _, iteT (B := i + 1 ≤ ps.length ∧ Ex H1 H'' ∧ H'' D = some (.lst ((yss.take (i + 1)).flatten.map g))) ?_⟩
    have hq : SqL K H'' ps[i] yss[i] := ex_l ((e0.trans e1).trans ex) (hat i _ _ (List.getElem?_eq_getElem hlt) (List.getElem?_eq_getElem hy))
    refine ⟨.ref ps[i], by rw [List.getElem?_set_self hjl], ps[i], rfl, ⟨_, hq⟩, ?_⟩
    refine ⟨fun k m H3 => m = yss[i].length - k ∧ k ≤ yss[i].length ∧ Ex H1 H3 ∧ H3 D = some (.lst (((yss.take i).flatten ++ yss[i].take k).map g)), ⟨yss[i].length, rfl, Nat.zero_le _, ex, by simpa using hD'⟩, ?_⟩
    rintro k m H3 ⟨rfl, hk, ex3, hD3⟩
    have hq3 : SqL K H3 ps[i] yss[i] := ex_l ((e0.trans e1).trans ex3) (hat i _ _ (List.getElem?_eq_getElem hlt) (List.getElem?_eq_getElem hy))
    by_cases hkl : k < yss[i].length
    · refine .inr ⟨⟨_, _, hq3, List.getElem?_eq_getElem hkl⟩, fun H4 => k + 1 ≤ yss[i].length ∧ Ex H1 H4 ∧ H4 D = some (.lst (((yss.take i).flatten ++ yss[i].take (k + 1)).map g)), fun H4 z => ⟨yss[i].length - (k + 1), by omega, rfl, z⟩, fun y H4 z => ?_⟩
      obtain ⟨rfl, hyl2⟩ := z
      have ey := hyl2 _ hq3
      rw [List.getElem?_eq_getElem hkl] at ey
      obtain rfl : yss[i][k] = y := Option.some.inj ey
      refine ⟨hw1 _ _, iteT (B := k + 1 ≤ yss[i].length ∧ Ex H1 H4 ∧ H4 D = some (.lst (((yss.take i).flatten ++ yss[i].take (k + 1)).map g))) ?_⟩
      have hm : yss[i][k] ∈ yss.flatten := List.mem_flatten.mpr ⟨_, List.getElem_mem hy, List.getElem_mem hkl⟩
      refine he _ _ H4 hm ((e0.trans e1).trans ex3) H4 (Ex.refl H4) _ fun H5 e5 => ⟨_, e5 _ _ hD3, sz_lt ?_, by omega, Ex.mut (ex3.trans e5) hD, ?_⟩
      · rw [List.length_map, List.length_append, List.length_take]
        have h2 := fl (i + 1)
        rw [flat_take yss hy, List.length_append] at h2
        omega
      · rw [upd_same, List.take_add_one, List.getElem?_eq_getElem hkl, ← List.append_assoc, List.map_append (l₁ := (yss.take i).flatten ++ yss[i].take k)]
        rfl
    · have ek : k = yss[i].length := by omega
      subst ek
      refine .inl ⟨⟨_, hq3, Nat.le_refl _⟩, by omega, ex3, ?_⟩
      rw [hD3, flat_take yss hy, List.take_length]
  · have ei : i = ps.length := by omega
    subst ei
    refine .inl ⟨⟨_, hS, by rw [List.length_map]; exact Nat.le_refl _⟩, ?_⟩
    rw [hl, List.take_length] at hD'
    exact q D H' (fresh_back e1 hD) (e1.trans ex) hD'
end
/-! ### equal data -/
theorem rv_neR {K : PySem.W.Frag} {H : Hp} {v w : V} {d : PyData} (hs : SeqAt.shaped d = true) (h1 : Dp K H v d) (h2 : Dp K H w d) : RV (rNeD K) v w H (.bl false) := fun H1 e Q q =>
  ⟨d, d, dp_mono e h1, dp_mono e h2, hs, hs, by rw [SeqAt.eqv_refl d (SeqAt.canLay_of_shaped hs)]; exact q H1 (Ex.refl H1)⟩
theorem rv_eqR {K : PySem.W.Frag} {H : Hp} {v w : V} {d : PyData} (hs : SeqAt.shaped d = true) (h1 : Dp K H v d) (h2 : Dp K H w d) : RV (rEqD K) v w H (.bl true) := fun H1 e Q q =>
  ⟨d, d, dp_mono e h1, dp_mono e h2, hs, hs, by rw [SeqAt.eqv_refl d (SeqAt.canLay_of_shaped hs)]; exact q H1 (Ex.refl H1)⟩
/-! ### lists of pairs -/
/-- at p a list of new tuples of two ints -/
structure PNew (H : Hp) (p : Addr) (qs : List Addr) (ps : List (Int × Int)) : Prop where
  top : H p = some (.lst (qs.map V.ref))
  len : qs.length = ps.length
  at_ : ∀ (i : Nat) (q : Addr) (x : Int × Int), qs[i]? = some q → ps[i]? = some x → H q = some (.tup [.int x.1, .int x.2])
abbrev dP (ps : List (Int × Int)) : PyData := .list (ps.map fun x => PyData.tuple [.int x.1, .int x.2])
theorem encP : EncOk dP 2 := encList (encPair encInt encInt)
def RetP (ps : List (Int × Int)) (H : Hp) (Q : VK) : Prop := ∀ p qs H2, H p = none → Ex H H2 → PNew H2 p qs ps → Q (.ref p) H2
section
variable {K : PySem.W.Frag} {H H' : Hp} {p : Addr} {qs : List Addr} {ps : List (Int × Int)}
theorem PNew.ext (h : PNew H p qs ps) (e : Ex H H') : PNew H' p qs ps := ⟨e _ _ h.top, h.len, fun i q x h1 h2 => e _ _ (h.at_ i q x h1 h2)⟩
theorem PNew.push {t : Addr} {x : Int × Int} (P : PNew H p qs ps) (e : Ex H H') (ht : H t = none) (h2 : H' t = some (.tup [.int x.1, .int x.2])) : PNew (upd H' p (.lst (qs.map V.ref ++ [.ref t]))) p (qs ++ [t]) (ps ++ [x]) := by
  have ntp : t ≠ p := fun z => by
    rw [z, P.top] at ht
    cases ht
  refine ⟨?_, ?_, fun i q y h3 h4 => ?_⟩
  · rw [upd_same, List.map_append]
    rfl
  · rw [List.length_append, List.length_append, P.len]
    rfl
  · by_cases hi : i < qs.length
    · rw [List.getElem?_append_left hi] at h3
      rw [List.getElem?_append_left (by rw [← P.len]; exact hi)] at h4
      have a1 := P.at_ i q y h3 h4
      have nq : q ≠ p := ne_of a1 P.top (by intro z; cases z)
      rw [upd_ne nq]
      exact e _ _ a1
    · have hk : i = qs.length := by
        have := (List.getElem?_eq_some_iff.mp h3).1
        rw [List.length_append] at this
        have : i < qs.length + 1 := this
        omega
      subst hk
      rw [List.getElem?_append_right (Nat.le_refl _), Nat.sub_self] at h3
      rw [List.getElem?_append_right (by rw [← P.len]; exact Nat.le_refl _), ← P.len, Nat.sub_self] at h4
      obtain rfl : t = q := Option.some.inj h3
      obtain rfl : x = y := Option.some.inj h4
      rw [upd_ne ntp]
      exact h2
theorem dpAll_pairs : ∀ {qs : List Addr} {ps : List (Int × Int)}, qs.length = ps.length → (∀ (i : Nat) (q : Addr) (x : Int × Int), qs[i]? = some q → ps[i]? = some x → H q = some (.tup [.int x.1, .int x.2])) → DpAll K H (qs.map V.ref) (ps.map fun x => PyData.tuple [.int x.1, .int x.2])
  | [], [], _, _ => .nil
  | [], _ :: _, h, _ => by cases h
  | _ :: _, [], h, _ => by cases h
  | q :: qs, x :: ps, hl, h => .cons (.tup (st_of (h 0 q x rfl rfl)) (.cons (.int _) (.cons (.int _) .nil))) (dpAll_pairs (Nat.succ.inj hl) fun i q s h1 h2 => h (i + 1) q s h1 h2)
theorem PNew.dp (P : PNew H p qs ps) : Dp K H (.ref p) (dP ps) := .lst (sq_of P.top) (dpAll_pairs P.len P.at_)
end
theorem ev_isList {σ : L2.St} {K : PySem.W.Frag} {H : Hp} {te : TE} {a : Addr} {xs : List V} (h : Ev te σ H (.ref a)) (hx : H a = some (.lst xs)) : Ev (tCB (rIsi K) (tCons te (tCons (tC (.ty "list")) tNil))) σ H (.bl true) :=
  ev_cb (ea_cons h (ea_cons ev_c ea_nil)) fun H1 e Q q => ⟨_, _, _, _, true, rfl, .ty _, .base (.lst (e _ _ hx)), kit_ty (by decide +kernel), q H1 (Ex.refl H1)⟩
theorem ev_isTuple {σ : L2.St} {K : PySem.W.Frag} {H : Hp} {te : TE} {a : Addr} {xs : List V} (h : Ev te σ H (.ref a)) (hx : H a = some (.tup xs)) : Ev (tCB (rIsi K) (tCons te (tCons (tC (.ty "tuple")) tNil))) σ H (.bl true) :=
  ev_cb (ea_cons h (ea_cons ev_c ea_nil)) fun H1 e Q q => ⟨_, _, _, _, true, rfl, .ty _, .base (.tup (e _ _ hx)), kit_ty (by decide +kernel), q H1 (Ex.refl H1)⟩
theorem ev_lenT {σ : L2.St} {K : PySem.W.Frag} {H : Hp} {ta : TE} {p : Addr} {xs : List V} (ha : Ev ta σ H (.ref p)) (h : H p = some (.tup xs)) : Ev (tCB (rLenS K) (tCons ta tNil)) σ H (.int (xs.length : Int)) := fun H1 e Q q =>
  ha H1 e _ fun H2 e2 => ⟨p, xs, rfl, Or.inr (st_of ((e.trans e2) _ _ h)), q H2 e2⟩
/-! ### comprehensions over rows, over two lists at once -/
section
variable {K : PySem.W.Frag} {σ : L2.St} {H : Hp} {te tl : TE} {ta : TA} {a b : Addr} {j j1 j2 : Nat} {vs : List Nat}
/-- [te for row in rows] -/
theorem el_rows {rows : List (List Int)} (g : List Int → V) (h : Ev tl σ H (.ref a)) (hx : LL K H a rows) (hz : rows.length ≤ 40000) (hw : ∀ x, wipe ((wipe σ vs).set j (some x)) vs = wipe σ vs)
    (he : ∀ (i : Nat) (p : Addr) H1, i < rows.length → SqL K H1 p ((rows.getD i []).map V.int) → Ex H H1 → Ev te ((wipe σ vs).set j (some (.ref p))) H1 (g (rows.getD i []))) :
    EvL (tLc (iList K tl) (gName j) tYes te vs) σ H (rows.map g) := by
  obtain ⟨ps, h1, h2, h3⟩ := hx
  rw [List.length_map] at h2
  have L := el_lcL (t := tYes) (te := te) (j := j) (vs := vs) (fun _ => true) (fun i => g (rows.getD i [])) h h1 (by rw [List.length_map]; omega) hw (fun _ _ _ _ _ => et_yes)
    (fun i x H1 e1 hi _ => by
      rw [List.getElem?_map] at hi
      cases ei : ps[i]? with
      | none =>
        rw [ei] at hi
        cases hi
      | some p =>
        rw [ei] at hi
        obtain rfl : V.ref p = x := Option.some.inj hi
        have hil : i < rows.length := by
          have := (List.getElem?_eq_some_iff.mp ei).1
          omega
        have er : rows.getD i [] = rows[i] := by simp [List.getD_eq_getElem?_getD, hil]
        refine he i p H1 hil (ex_l e1 (h3 i p _ ei ?_)) e1
        rw [List.getElem?_map, List.getElem?_eq_getElem hil, er]
        rfl)
  rw [List.length_map, h2, given_all] at L
  exact L
/-- [te for x, y in zip(xs, ys)] -/
theorem el_zip {xs ys : List V} (v : Nat → V) (h : EvA ta σ H [.ref a, .ref b]) (hx : SqL K H a xs) (hy : SqL K H b ys) (hl : xs.length = ys.length) (hz : xs.length ≤ 40000)
    (hw : ∀ x y, wipe (((wipe σ vs).set j1 (some x)).set j2 (some y)) vs = wipe σ vs)
    (he : ∀ (i : Nat) (x y : V) H1, xs[i]? = some x → ys[i]? = some y → Ex H H1 → Ev te (((wipe σ vs).set j1 (some x)).set j2 (some y)) H1 (v i)) :
    EvL (tLc (iZip K ta) (gTup K 2 (gCons (gName j1) (gCons (gName j2) gNil))) tYes te vs) σ H ((List.range xs.length).map v) := by
  intro H0 e0 Q q
  refine h H0 e0 _ fun H1 e1 => ⟨a, b, xs, ys, rfl, ex_l (e0.trans e1) hx, ex_l (e0.trans e1) hy, fun D hD => ?_⟩
  refine ⟨fun i m H' => m = xs.length - i ∧ i ≤ xs.length ∧ Ex H1 H' ∧ H' D = some (.lst ((List.range i).map v)), ⟨xs.length, rfl, Nat.zero_le _, Ex.new hD, upd_same⟩, ?_⟩
  rintro i m H' ⟨rfl, hi, ex, hD'⟩
  have qx : SqL K H' a xs := ex_l ((e0.trans e1).trans ex) hx
  have qy : SqL K H' b ys := ex_l ((e0.trans e1).trans ex) hy
  by_cases hlt : i < xs.length
  · have hlt2 : i < ys.length := by omega
    refine .inr ⟨⟨xs, ys, _, _, qx, qy, List.getElem?_eq_getElem hlt, List.getElem?_eq_getElem hlt2⟩, fun H'' => i + 1 ≤ xs.length ∧ Ex H1 H'' ∧ H'' D = some (.lst ((List.range (i + 1)).map v)), fun H'' z => ⟨xs.length - (i + 1), by omega, rfl, z⟩, fun u H'' y => ?_⟩
    obtain ⟨T, x', y', rfl, hT, rfl, f1, f2⟩ := y
    have eT : Ex H' (upd H' T (.tup [x', y'])) := Ex.new hT
    refine ⟨T, [x', y'], rfl, .inl (.inl upd_same), rfl, x', [y'], rfl, y', [], rfl, rfl, hw _ _, iteT (B := i + 1 ≤ xs.length ∧ Ex H1 (upd H' T (.tup [x', y'])) ∧ (upd H' T (.tup [x', y'])) D = some (.lst ((List.range (i + 1)).map v))) ?_⟩
    refine he i x' y' _ (f1 _ qx) (f2 _ qy) (((e0.trans e1).trans ex).trans eT) _ (Ex.refl _) _ fun H3 e3 => ⟨_, e3 _ _ (eT _ _ hD'), sz_lt (by rw [List.length_map, List.length_range]; omega), by omega, Ex.mut ((ex.trans eT).trans e3) hD, ?_⟩
    rw [upd_same, List.range_succ, List.map_append]
    rfl
  · have ei : i = xs.length := by omega
    subst ei
    exact .inl ⟨⟨xs, ys, qx, qy, Or.inl (Nat.le_refl _)⟩, q D H' (fresh_back e1 hD) (e1.trans ex) hD'⟩
end
/-- at a stands a list of lists that this call, or the one asking, has made -/
def TV (H : Hp) (a : Addr) (ys : List (List V)) : Prop :=
  ∃ ps : List Addr, H a = some (.lst (ps.map V.ref)) ∧ ps.length = ys.length ∧ ∀ (i : Nat) (q : Addr) (y : List V), ps[i]? = some q → ys[i]? = some y → H q = some (.lst y)
theorem TV.mono {H H' : Hp} {a : Addr} {ys : List (List V)} (e : Ex H H') (h : TV H a ys) : TV H' a ys := by
  obtain ⟨ps, h1, h2, h3⟩ := h
  exact ⟨ps, e _ _ h1, h2, fun i q y h4 h5 => e _ _ (h3 i q y h4 h5)⟩
theorem LNew.tv {H0 H : Hp} {p : Addr} {ps : List Addr} {ys : List (List V)} (h : LNew H0 H p ps ys) : TV H p ys := ⟨ps, h.top, h.len, fun i q y h1 h2 => (h.at_ i q y h1 h2).2⟩
theorem TV.lv {K : PySem.W.Frag} {H : Hp} {a : Addr} {ys : List (List V)} (h : TV H a ys) : LV K H a ys := by
  obtain ⟨ps, h1, h2, h3⟩ := h
  exact ⟨ps, sq_of h1, h2, fun i q y h4 h5 => sq_of (h3 i q y h4 h5)⟩
/-! ### bids, heaps and sums -/
/-- bids: 1 to 9 rows of m bids -/
structure Bids (rows : List (List Int)) (m : Nat) : Prop where
  ne : 0 < rows.length
  l9 : rows.length ≤ 9
  m40 : m ≤ 40
  len : ∀ r ∈ rows, r.length = m
  ok : ∀ r ∈ rows, ∀ b ∈ r, 0 ≤ b ∧ b ≤ 1000000000000
theorem Bids.at_ {rows : List (List Int)} {m : Nat} (h : Bids rows m) {i : Nat} (hi : i < rows.length) : (rows.getD i []).length = m := by
  have e : rows.getD i [] = rows[i] := by simp [List.getD_eq_getElem?_getD, hi]
  rw [e]
  exact h.len _ (List.getElem_mem hi)
/-- heaps and sums that fit the bids -/
structure Fits (rows : List (List Int)) (m : Nat) (hs : List (List Int)) (ss : List Int) : Prop where
  hl : hs.length = rows.length
  sl : ss.length = rows.length
  ins : ∀ h ∈ hs, Inside m h
  few : hs.flatten.length ≤ 4000
theorem Fits.at_ {rows : List (List Int)} {m : Nat} {hs : List (List Int)} {ss : List Int} (F : Fits rows m hs ss) {i : Nat} (hi : i < rows.length) : Inside m (hs.getD i []) := by
  have h2 : i < hs.length := by
    rw [F.hl]
    exact hi
  have e : hs.getD i [] = hs[i] := by simp [List.getD_eq_getElem?_getD, h2]
  rw [e]
  exact F.ins _ (List.getElem_mem h2)
theorem Fits.few_at {rows : List (List Int)} {m : Nat} {hs : List (List Int)} {ss : List Int} (F : Fits rows m hs ss) {i : Nat} (hi : i < rows.length) : (hs.getD i []).length ≤ 4000 := by
  have h2 : i < hs.length := by
    rw [F.hl]
    exact hi
  have e : hs.getD i [] = hs[i] := by simp [List.getD_eq_getElem?_getD, h2]
  rw [e]
  exact Nat.le_trans (flat_len_at (List.getElem_mem h2)) F.few
theorem iv_flat (hs : List (List Int)) : (iv hs).flatten = hs.flatten.map V.int := by
  rw [List.map_flatten]
theorem any_flat {H : Hp} (hs : List (List Int)) : ∀ y ∈ (iv hs).flatten, Any H y := by
  intro y hy
  rw [iv_flat] at hy
  obtain ⟨g, hg, rfl⟩ := List.mem_map.mp hy
  exact .int g
def gainM (rows hs : List (List Int)) (ss : List Int) (i j : Nat) : Int := worthM (rows.getD i []) (hs.getD j []) * rows.length - ss.getD j 0
/-- append to one of the new lists -/
theorem LNew.put {H0 H : Hp} {p : Addr} {ps : List Addr} {hs : List (List Int)} {i : Nat} (h : LNew H0 H p ps (iv hs)) (hi : i < hs.length) :
    ∃ q, ps[i]? = some q ∧ H q = some (.lst ((hs.getD i []).map V.int)) ∧ ∀ H', Ex H H' → ∀ z : Int, LNew H0 (upd H' q (.lst ((hs.getD i []).map V.int ++ [.int z]))) p ps (iv (hs.set i (hs.getD i [] ++ [z]))) := by
  have ehs : hs[i]? = some (hs.getD i []) := by simp [List.getD_eq_getElem?_getD, hi]
  have ey : (iv hs)[i]? = some ((hs.getD i []).map V.int) := by rw [List.getElem?_map, ehs]; rfl
  have hip : i < ps.length := by
    have := h.len
    rw [List.length_map] at this
    omega
  have hq : ps[i]? = some ps[i] := List.getElem?_eq_getElem hip
  refine ⟨ps[i], hq, (h.at_ i _ _ hq ey).2, fun H' e z => ?_⟩
  have := (h.ext e).app (y' := (hs.getD i []).map V.int ++ [.int z]) hq ey
  have es : iv (hs.set i (hs.getD i [] ++ [z])) = (iv hs).set i ((hs.getD i []).map V.int ++ [.int z]) := by
    show List.map _ _ = _
    rw [List.map_set, List.map_append]
    rfl
  rw [es]
  exact this
/-! ### a heap without some of its objects -/
def msk (H : Hp) (l : List Addr) : Hp := fun b => if b ∈ l then none else H b
theorem msk_at {H : Hp} {l : List Addr} {b : Addr} (h : b ∉ l) : msk H l b = H b := by
  unfold msk
  rw [if_neg h]
theorem msk_of {H : Hp} {l : List Addr} {b : Addr} {o : HO} (h : msk H l b = some o) : H b = some o ∧ b ∉ l := by
  unfold msk at h
  by_cases m : b ∈ l
  · rw [if_pos m] at h
    cases h
  · rw [if_neg m] at h
    exact ⟨h, m⟩
theorem msk_ex {H H' : Hp} {l : List Addr} (h : ∀ b o, H b = some o → b ∉ l → H' b = some o) : Ex (msk H l) H' := fun b o e => h b o (msk_of e).1 (msk_of e).2
theorem ex_msk {Hb H : Hp} {l : List Addr} (e : Ex Hb H) (h : ∀ b ∈ l, Hb b = none) : Ex Hb (msk H l) := fun b o hb => by
  rw [msk_at fun m => by rw [h b m] at hb; cases hb]
  exact e b o hb
theorem LNew.msk {H0 H : Hp} {p : Addr} {ps : List Addr} {ys : List (List V)} {l : List Addr} (L : LNew H0 H p ps ys) (h : ∀ b ∈ l, H0 b ≠ none) : TV (msk H l) p ys := by
  have n : ∀ b, H0 b = none → b ∉ l := fun b hb m => h b m hb
  refine ⟨ps, by rw [msk_at (n p L.new)]; exact L.top, L.len, fun i q y h1 h2 => ?_⟩
  have a := L.at_ i q y h1 h2
  rw [msk_at (n q a.1)]
  exact a.2
theorem TV.any {H : Hp} (hs : List (List Int)) : ∀ y ∈ (iv hs).flatten, Any H y := any_flat hs
/-- if a or not b: .., where b changes something -/
theorem q_orNot {σ : L2.St} {H : Hp} {t1 : TT} {te : TE} {tu tz : TS} {D : Ends} (h1 : EvT t1 σ H false) (h2 : ∀ H1, Ex H H1 → te σ H1 fun x H2 => ∃ k, x = .bl k ∧ (if (!k) = true then tu { D with nx := tz D } σ H2 else tz D σ H2)) : tSeq (tIfS (tOr t1 (tNot (tB te))) tu tNext) tz D σ H :=
  h1 H (Ex.refl H) _ fun H1 e1 => h2 H1 e1
/-! ### what is told of heaps, deals, envy -/
/-- x is the number of one of m -/
def place (x : V) (m : Int) : Bool := match x with
  | .int i => decide (0 ≤ i ∧ i < m)
  | _ => false
/-- how often each good stands there -/
def seenM (vs : List V) (g : Nat) : List Int := (List.range g).map fun k : Nat => ((vs.count (V.int k) : Nat) : Int)
def heapsB (yss : List (List V)) (n : Int) (g : Nat) : Bool := decide ((yss.length : Int) = n) && (yss.flatten.all (fun y => place y g) && decide (seenM yss.flatten g = List.replicate g 1))
theorem seenM_len (vs : List V) (g : Nat) : (seenM vs g).length = g := by simp [seenM]
theorem seenM_nil (g : Nat) : seenM [] g = List.replicate g 0 := by
  unfold seenM
  refine List.ext_getElem (by simp) fun i h1 h2 => ?_
  simp
theorem seenM_push {vs : List V} {g k : Nat} (h : k < g) : (seenM vs g).set k ((seenM vs g).getD k 0 + 1) = seenM (vs ++ [V.int k]) g := by
  refine List.ext_getElem (by simp [seenM]) fun i h1 h2 => ?_
  have hi : i < g := by simpa [seenM] using h2
  rw [List.getElem_set]
  by_cases e : k = i
  · subst e
    rw [if_pos rfl]
    simp [seenM, List.getD_eq_getElem?_getD, h]
  · rw [if_neg e]
    have : List.count (V.int (i : Int)) [V.int (k : Int)] = 0 := by
      rw [List.count_eq_zero]
      intro m
      have := V.int.inj (List.mem_singleton.mp m)
      omega
    simp [seenM, List.count_append, this]
def dealB (yss : List (List V)) (ss : List Int) (n : Int) (g : Nat) : Bool := heapsB yss n g && (decide ((ss.length : Int) = n) && decide (ss.sum = 0))
def enviedB (g : Nat → Nat → Int) (n : Nat) : Bool := (List.range n).any fun i => (List.range n).any fun j => decide (g i i < g i j)
theorem enviedB_of {g : Nat → Nat → Int} {n i j : Nat} (hi : i < n) (hj : j < n) (h : g i i < g i j) : enviedB g n = true :=
  List.any_eq_true.mpr ⟨i, List.mem_range.mpr hi, List.any_eq_true.mpr ⟨j, List.mem_range.mpr hj, decide_eq_true h⟩⟩
theorem enviedB_not {g : Nat → Nat → Int} {n : Nat} (h : ∀ i j, i < n → j < n → g i j ≤ g i i) : enviedB g n = false := by
  cases e : enviedB g n with
  | false => rfl
  | true =>
    obtain ⟨i, hi, h2⟩ := List.any_eq_true.mp e
    obtain ⟨j, hj, h3⟩ := List.any_eq_true.mp h2
    have := h i j (List.mem_range.mp hi) (List.mem_range.mp hj)
    have := of_decide_eq_true h3
    omega
/-- of pairs (i, j): those where g i j is more than g i i -/
def pairRow (g : Nat → Nat → Int) (n i : Nat) : List (Int × Int) := ((List.range n).filter fun j : Nat => decide (g i i < g i j)).map fun j : Nat => ((i : Int), (j : Int))
def pairsM (g : Nat → Nat → Int) (n i : Nat) : List (Int × Int) := ((List.range i).map (pairRow g n)).flatten
theorem pairRow_succ (g : Nat → Nat → Int) (j i : Nat) : pairRow g (j + 1) i = pairRow g j i ++ (if g i i < g i j then [((i : Int), (j : Int))] else []) := by
  unfold pairRow
  rw [List.range_succ, List.filter_append, List.map_append]
  congr 1
  by_cases h : g i i < g i j
  · simp [h]
  · simp [h]
theorem pairsM_succ (g : Nat → Nat → Int) (n i : Nat) : pairsM g n (i + 1) = pairsM g n i ++ pairRow g n i := by
  unfold pairsM
  rw [List.range_succ, List.map_append, List.flatten_append]
  simp
theorem pairRow_len (g : Nat → Nat → Int) (n i : Nat) : (pairRow g n i).length ≤ n := by
  unfold pairRow
  rw [List.length_map]
  have := List.length_filter_le (fun j : Nat => decide (g i i < g i j)) (List.range n)
  rw [List.length_range] at this
  exact this
theorem pairsM_len (g : Nat → Nat → Int) (n : Nat) : ∀ i, (pairsM g n i).length ≤ i * n
  | 0 => by simp [pairsM]
  | i + 1 => by
    rw [pairsM_succ, List.length_append]
    have h1 := pairsM_len g n i
    have h2 := pairRow_len g n i
    have e : (i + 1) * n = i * n + n := Nat.succ_mul i n
    omega
/-! ### the deal in heaps -/
def bidAt (rows : List (List Int)) (i g : Nat) : Int := (rows.getD i []).getD g 0
/-- person i is the first of those who bid most for the good g -/
def firstB (rows : List (List Int)) (i g : Nat) : Bool := (List.range rows.length).all fun k => !(decide (bidAt rows i g < bidAt rows k g) || (decide (bidAt rows k g = bidAt rows i g) && decide (k < i)))
theorem firstB_iff {rows : List (List Int)} {i g : Nat} : firstB rows i g = true ↔ ∀ k, k < rows.length → bidAt rows k g ≤ bidAt rows i g ∧ (bidAt rows k g = bidAt rows i g → i ≤ k) := by
  unfold firstB
  rw [List.all_eq_true]
  constructor
  · intro h k hk
    have h1 := h k (List.mem_range.mpr hk)
    simp at h1
    exact ⟨h1.1, fun e => h1.2.resolve_left fun n => n e⟩
  · intro h k hk
    have h1 := h k (List.mem_range.mp hk)
    simp
    refine ⟨h1.1, ?_⟩
    by_cases e : bidAt rows k g = bidAt rows i g
    · exact .inr (h1.2 e)
    · exact .inl e
theorem firstB_uniq {rows : List (List Int)} {i j g : Nat} (hi : i < rows.length) (hj : j < rows.length) (h1 : firstB rows i g = true) (h2 : firstB rows j g = true) : i = j := by
  have a := firstB_iff.mp h1 j hj
  have b := firstB_iff.mp h2 i hi
  have e : bidAt rows i g = bidAt rows j g := by omega
  have := a.2 e.symm
  have := b.2 e
  omega
/-- the heaps of the first m goods -/
def heapsM (rows : List (List Int)) (m : Nat) : List (List Int) := (List.range rows.length).map fun i : Nat => ((List.range m).filter (firstB rows i)).map fun g : Nat => (g : Int)
theorem heapsM_len (rows : List (List Int)) (m : Nat) : (heapsM rows m).length = rows.length := by simp [heapsM]
theorem heapsM_at {rows : List (List Int)} {m i : Nat} (hi : i < rows.length) : (heapsM rows m).getD i [] = ((List.range m).filter (firstB rows i)).map fun g : Nat => (g : Int) := by
  simp [heapsM, List.getD_eq_getElem?_getD, hi]
theorem heapsM_in (rows : List (List Int)) (m : Nat) : ∀ h ∈ heapsM rows m, Inside m h := by
  intro h hh g hg
  obtain ⟨i, _, rfl⟩ := List.mem_map.mp hh
  obtain ⟨j, hj, rfl⟩ := List.mem_map.mp hg
  have := List.mem_range.mp (List.mem_filter.mp hj).1
  omega
theorem heapsM_succ {rows : List (List Int)} {m j : Nat} (hj : j < rows.length) (hf : firstB rows j m = true) : (heapsM rows m).set j ((heapsM rows m).getD j [] ++ [(m : Int)]) = heapsM rows (m + 1) := by
  refine List.ext_getElem (by simp [heapsM]) fun k h1 h2 => ?_
  have hk : k < rows.length := by simpa [heapsM] using h2
  have e2 : (heapsM rows (m + 1))[k] = ((List.range (m + 1)).filter (firstB rows k)).map fun g : Nat => (g : Int) := by simp [heapsM]
  rw [e2, List.getElem_set, List.range_succ, List.filter_append, List.map_append]
  by_cases e : j = k
  · subst e
    rw [if_pos rfl, heapsM_at hj]
    simp [hf]
  · rw [if_neg e]
    have hn : firstB rows k m = false := by
      cases h : firstB rows k m with
      | false => rfl
      | true => exact absurd (firstB_uniq hj hk hf h) e
    simp [heapsM, hn]
/-- what each one's own heap is worth to them, and what they pay -/
def ownM (rows hs : List (List Int)) : List Int := (List.range rows.length).map fun i => worthM (rows.getD i []) (hs.getD i [])
def payM (rows hs : List (List Int)) : List Int := (ownM rows hs).map fun o => o * rows.length - (ownM rows hs).sum
theorem ownM_len (rows hs : List (List Int)) : (ownM rows hs).length = rows.length := by simp [ownM]
theorem payM_len (rows hs : List (List Int)) : (payM rows hs).length = rows.length := by simp [payM, ownM]
theorem heaps_few {rows : List (List Int)} {m : Nat} (h9 : rows.length ≤ 9) (h40 : m ≤ 40) : (heapsM rows m).flatten.length ≤ 4000 := by
  have h : ∀ hs : List (List Int), (∀ h ∈ hs, h.length ≤ 40) → hs.flatten.length ≤ hs.length * 40 := by
    intro hs
    induction hs with
    | nil => intro _; simp
    | cons x r ih =>
      intro hx
      have a := hx x List.mem_cons_self
      have b := ih fun y hy => hx y (List.mem_cons_of_mem _ hy)
      rw [List.flatten_cons, List.length_append, List.length_cons]
      omega
  have h2 := h (heapsM rows m) fun x hx => by
    obtain ⟨i, _, rfl⟩ := List.mem_map.mp hx
    rw [List.length_map]
    have := List.length_filter_le (firstB rows i) (List.range m)
    rw [List.length_range] at this
    omega
  rw [heapsM_len] at h2
  omega
/-- the deal in heaps fits -/
theorem heaps_fit {rows : List (List Int)} {m : Nat} (hb : Bids rows m) : Fits rows m (heapsM rows m) (payM rows (heapsM rows m)) := ⟨heapsM_len _ _, payM_len _ _, heapsM_in _ _, heaps_few hb.l9 hb.m40⟩
/-- at p a new deal -/
structure DNew (H0 H : Hp) (p hp sp : Addr) (hps : List Addr) (hs : List (List Int)) (ss : List Int) : Prop where
  new : H0 p = none
  L : LNew H0 H hp hps (iv hs)
  sn : H0 sp = none
  s : H sp = some (.lst (ss.map V.int))
  t : H p = some (.tup [.ref hp, .ref sp])
  apart : sp ∉ hp :: hps
theorem DNew.ext {H0 H H' : Hp} {p hp sp : Addr} {hps : List Addr} {hs : List (List Int)} {ss : List Int} (d : DNew H0 H p hp sp hps hs ss) (e : Ex H H') : DNew H0 H' p hp sp hps hs ss := ⟨d.new, d.L.ext e, d.sn, e _ _ d.s, e _ _ d.t, d.apart⟩
theorem DNew.back {H0 H Hb : Hp} {p hp sp : Addr} {hps : List Addr} {hs : List (List Int)} {ss : List Int} (d : DNew H0 H p hp sp hps hs ss) (e : Ex Hb H0) : DNew Hb H p hp sp hps hs ss := ⟨fresh_back e d.new, d.L.back e, fresh_back e d.sn, d.s, d.t, d.apart⟩
theorem map_erase {α β : Type} (f : α → β) : ∀ (l : List α) (i : Nat), (l.map f).eraseIdx i = (l.eraseIdx i).map f
  | [], _ => rfl
  | _ :: _, 0 => rfl
  | x :: r, i + 1 => by
    show f x :: (r.map f).eraseIdx i = f x :: (r.eraseIdx i).map f
    rw [map_erase f r i]
def intOf : V → Int
  | .int i => i
  | _ => 0
def hsOf (yss : List (List V)) : List (List Int) := yss.map fun ys => ys.map intOf
theorem hsOf_iv {yss : List (List V)} {m : Int} (h : yss.flatten.all (fun y => place y m) = true) : iv (hsOf yss) = yss := by
  show List.map _ (List.map _ yss) = yss
  rw [List.map_map]
  refine (List.map_congr_left fun ys hys => ?_).trans (List.map_id _)
  show List.map _ (List.map _ _) = ys
  rw [List.map_map]
  refine (List.map_congr_left fun y hy => ?_).trans (List.map_id _)
  have := List.all_eq_true.mp h y (List.mem_flatten.mpr ⟨ys, hys, hy⟩)
  cases y with
  | int i => rfl
  | _ => cases this
theorem hsOf_in {yss : List (List V)} {m : Nat} (h : yss.flatten.all (fun y => place y m) = true) : ∀ h ∈ hsOf yss, Inside m h := by
  intro hh hm g hg
  obtain ⟨ys, hys, rfl⟩ := List.mem_map.mp hm
  obtain ⟨y, hy, rfl⟩ := List.mem_map.mp hg
  have := List.all_eq_true.mp h y (List.mem_flatten.mpr ⟨ys, hys, hy⟩)
  cases y with
  | int i => exact of_decide_eq_true this
  | _ => cases this
theorem hsOf_flat (yss : List (List V)) : (hsOf yss).flatten.length = yss.flatten.length := by
  unfold hsOf
  rw [← List.map_flatten, List.length_map]
/-- x may stand as a bid -/
def bidOk (x : V) : Bool := match x with
  | .int i => decide (0 ≤ i ∧ i ≤ 1000000000000)
  | _ => false
/-- something that == can compare -/
def Itm (K : PySem.W.Frag) (H : Hp) (y : V) : Prop := Any H y ∧ ∃ d, Dp K H y d ∧ PyData.canLay0 d = true ∧ PyData.depth d ≤ 3
section
variable {K : PySem.W.Frag} {H H' : Hp}
theorem Itm.mono {y : V} (e : Ex H H') (h : Itm K H y) : Itm K H' y := by
  obtain ⟨a, d, b, c⟩ := h
  exact ⟨a.mono e, d, dp_mono e b, c⟩
theorem itm_int (i : Int) : Itm K H (.int i) := ⟨.int i, .int i, .int i, by simp only [PyData.canLay0], by simp [PyData.depth]⟩
theorem itm_bl (b : Bool) : Itm K H (.bl b) := ⟨.bl b, .bool b, .bl b, by simp only [PyData.canLay0], by simp [PyData.depth]⟩
theorem itm_non : Itm K H .non := ⟨.non, .none, .non, by simp only [PyData.canLay0], by simp [PyData.depth]⟩
theorem itm_one {a : Addr} {n : Int} (h : H a = some (.lst [V.int n])) : Itm K H (.ref a) := ⟨.lst h, .list [.int n], .lst (sq_of h) (.cons (.int n) .nil), by simp only [PyData.canLay0, PyData.canLayAll0]; rfl, by simp [PyData.depth, PyData.depthAll]⟩
theorem itm_tup {a : Addr} {n : Int} (h : H a = some (.tup [V.int n])) : Itm K H (.ref a) := ⟨.tup h, .tuple [.int n], .tup (st_of h) (.cons (.int n) .nil), by simp only [PyData.canLay0, PyData.canLayAll0]; rfl, by simp [PyData.depth, PyData.depthAll]⟩
/-- what is new in H' -/
def nw (H H' : Hp) : Hp := fun b => if (H b).isNone then H' b else none
theorem nw_of {H H' : Hp} {b : Addr} {o : HO} (h : nw H H' b = some o) : H b = none ∧ H' b = some o := by
  unfold nw at h
  cases hb : H b with
  | none =>
    rw [hb] at h
    exact ⟨rfl, h⟩
  | some u =>
    rw [hb] at h
    cases h
theorem nw_at {H H' : Hp} {b : Addr} (h : H b = none) : nw H H' b = H' b := by
  unfold nw
  rw [h]
  rfl
theorem nw_ex {H H' H'' : Hp} (h : ∀ b o, H b = none → H' b = some o → H'' b = some o) : Ex (nw H H') H'' := fun b o e => h b o (nw_of e).1 (nw_of e).2
theorem nw_mono {H H' H'' : Hp} (e : Ex H' H'') : Ex (nw H H') (nw H H'') := fun b o h => by
  rw [nw_at (nw_of h).1]
  exact e _ _ (nw_of h).2
end
section
variable {K : PySem.W.Frag} {σ : L2.St} {H : Hp} {ta tb te : TE}
theorem el_cat {xs ys : List V} (ha : EvL ta σ H xs) (hb : EvL tb σ H ys) (hz : xs.length + ys.length ≤ 100000) : EvL (tOp rCat ta tb) σ H (xs ++ ys) := fun H1 e Q q => ha H1 e _ fun p H2 hp e2 h2 => hb H2 (e.trans e2) _ fun p3 H3 hp3 e3 h3 =>
  ⟨p, p3, xs, ys, rfl, rfl, e3 _ _ h2, h3, sz_of hz, fun r hr => q r _ (fresh_back (e2.trans e3) hr) ((e2.trans e3).trans (Ex.new hr)) upd_same⟩
theorem el_rev {a : Addr} {xs : List V} (h : Ev te σ H (.ref a)) (hs : SqL K H a xs) : EvL (tRevL K te) σ H xs.reverse := fun H1 e _ q => h H1 e _ fun H2 e2 =>
  ⟨a, xs, rfl, ex_l (e.trans e2) hs, fun p hp => q p _ (fresh_back e2 hp) (e2.trans (Ex.new hp)) upd_same⟩
theorem ev_isBool {b : Bool} (h : Ev te σ H (.bl b)) : Ev (tCB (rIsi K) (tCons te (tCons (tC (.ty "bool")) tNil))) σ H (.bl true) :=
  ev_cb (ea_cons h (ea_cons ev_c ea_nil)) fun H1 e Q q => ⟨_, _, _, _, true, rfl, .ty _, .base (.bl b), kit_ty (by decide +kernel), q H1 (Ex.refl H1)⟩
end
theorem LNew.out {H0 H : Hp} {p : Addr} {ps : List Addr} {ys : List (List V)} (L : LNew H0 H p ps ys) : ∀ b ∈ p :: ps, H0 b = none ∧ ∃ zs, H b = some (.lst zs) := by
  intro b hb
  rcases List.mem_cons.mp hb with rfl | hb
  · exact ⟨L.new, _, L.top⟩
  · obtain ⟨k, hk⟩ := List.getElem?_of_mem hb
    have hkl : k < ys.length := by
      have := (List.getElem?_eq_some_iff.mp hk).1
      have := L.len
      omega
    have := L.at_ k b _ hk (List.getElem?_eq_getElem hkl)
    exact ⟨this.1, _, this.2⟩
theorem flat_10 : ∀ {n : Nat} {yss : List (List V)}, (∀ ys ∈ yss, ys.length ≤ 50) → yss.length ≤ n → yss.flatten.length ≤ 50 * n
  | _, [], _, _ => by simp
  | 0, _ :: _, _, h => by simp at h
  | n + 1, ys :: r, h, hl => by
    have a := h ys List.mem_cons_self
    have b := flat_10 (n := n) (yss := r) (fun x hx => h x (List.mem_cons_of_mem _ hx)) (by simpa using hl)
    rw [List.flatten_cons, List.length_append]
    omega
section
variable {K : PySem.W.Frag} {H : Hp}
theorem dp_items : ∀ {ys : List V}, (∀ y ∈ ys, Itm K H y) → ∃ ds, DpAll K H ys ds ∧ PyData.canLayAll0 ds = true ∧ PyData.depthAll ds ≤ 3
  | [], _ => ⟨[], .nil, by simp [PyData.canLayAll0], by simp [PyData.depthAll]⟩
  | y :: r, h => by
    obtain ⟨_, d, hd, hc, hp⟩ := h y List.mem_cons_self
    obtain ⟨ds, h1, h2, h3⟩ := dp_items fun x hx => h x (List.mem_cons_of_mem _ hx)
    refine ⟨d :: ds, .cons hd h1, ?_, ?_⟩
    · simp only [PyData.canLayAll0]
      rw [hc, h2]
      rfl
    · simp only [PyData.depthAll]
      omega
/-- two lists of lists with the same items: the same data -/
theorem dp_rows : ∀ {yss : List (List V)}, (∀ ys ∈ yss, ∀ y ∈ ys, Itm K H y) → ∃ ds, (∀ ps : List Addr, ps.length = yss.length → (∀ (i : Nat) (q : Addr) (y : List V), ps[i]? = some q → yss[i]? = some y → SqL K H q y) → DpAll K H (ps.map V.ref) ds) ∧ PyData.canLayAll0 ds = true ∧ PyData.depthAll ds ≤ 4
  | [], _ => by
    refine ⟨[], fun ps hl _ => ?_, by simp [PyData.canLayAll0], by simp [PyData.depthAll]⟩
    cases ps with
    | nil => exact .nil
    | cons _ _ => cases hl
  | ys :: r, h => by
    obtain ⟨d, hd, hc, hp⟩ := dp_items (h ys List.mem_cons_self)
    obtain ⟨ds, h1, h2, h3⟩ := dp_rows fun x hx => h x (List.mem_cons_of_mem _ hx)
    refine ⟨.list d :: ds, fun ps hl ha => ?_, ?_, ?_⟩
    · cases ps with
      | nil => cases hl
      | cons q qs => exact .cons (.lst (ha 0 q ys rfl rfl) hd) (h1 qs (Nat.succ.inj hl) fun i q y e1 e2 => ha (i + 1) q y e1 e2)
    · simp only [PyData.canLayAll0, PyData.canLay0]
      rw [hc, h2]
      rfl
    · simp only [PyData.depthAll, PyData.depth]
      omega
theorem dp_lv {yss : List (List V)} (h : ∀ ys ∈ yss, ∀ y ∈ ys, Itm K H y) : ∃ d, (∀ a, LV K H a yss → Dp K H (.ref a) d) ∧ PyData.canLay0 d = true ∧ PyData.depth d ≤ 63 := by
  obtain ⟨ds, h1, h2, h3⟩ := dp_rows h
  refine ⟨.list ds, fun a ⟨ps, e1, e2, e3⟩ => .lst e1 (h1 ps e2 e3), ?_, ?_⟩
  · simp only [PyData.canLay0]
    exact h2
  · simp only [PyData.depth]
    omega
end
section
variable {K : PySem.W.Frag} {F T : Nat} {H H' : Hp}
/-- heaps, spoiled: told by what stands there; nothing else is changed -/
structure Spo (K : PySem.W.Frag) (F T : Nat) (H H' : Hp) (p : Addr) (ps ps' : List Addr) (yss : List (List V)) : Prop where
  top : H' p = some (.lst (ps'.map V.ref))
  len : ps'.length = yss.length
  at_ : ∀ (i : Nat) (q : Addr) (y : List V), ps'[i]? = some q → yss[i]? = some y → H' q = some (.lst y)
  itm : ∀ ys ∈ yss, ∀ y ∈ ys, Itm K (nw H H') y
  old : ∀ q ∈ ps', q ∈ ps ∨ H q = none
  few : ∀ ys ∈ yss, ys.length ≤ F
  ten : yss.length ≤ T
  keep : ∀ b o, H b = some o → b ∉ p :: ps → H' b = some o
theorem Spo.ext {H'' : Hp} {p : Addr} {ps ps' : List Addr} {yss : List (List V)} (s : Spo K F T H H' p ps ps' yss) (e : Ex H' H'') : Spo K F T H H'' p ps ps' yss :=
  ⟨e _ _ s.top, s.len, fun i q y h1 h2 => e _ _ (s.at_ i q y h1 h2), fun ys h y hy => (s.itm ys h y hy).mono (nw_mono e), s.old, s.few, s.ten, fun b o h n => e _ _ (s.keep b o h n)⟩
theorem spo_same {H0 : Hp} {p : Addr} {ps : List Addr} {hs : List (List Int)} (L : LNew H0 H p ps (iv hs)) (e : Ex H H') (h50 : ∀ h ∈ hs, h.length < F) (h9 : hs.length < T) : Spo K F T H H' p ps ps (iv hs) := by
  have L' := L.ext e
  refine ⟨L'.top, L'.len, fun i q y h1 h2 => (L'.at_ i q y h1 h2).2, fun ys hys y hy => ?_, fun q hq => .inl hq, fun ys hys => ?_, by rw [List.length_map]; omega, fun b o h n => e _ _ h⟩
  · obtain ⟨h, _, rfl⟩ := List.mem_map.mp hys
    obtain ⟨z, _, rfl⟩ := List.mem_map.mp hy
    exact itm_int z
  · obtain ⟨h, hh, rfl⟩ := List.mem_map.mp hys
    rw [List.length_map]
    have := h50 h hh
    omega
/-- one of the heaps made otherwise -/
theorem spo_set {H0 H2 : Hp} {p q : Addr} {ps : List Addr} {hs : List (List Int)} {i : Nat} {y' : List V} (L : LNew H0 H p ps (iv hs)) (e : Ex H H2) (h50 : ∀ h ∈ hs, h.length < F) (h9 : hs.length < T) (hq : ps[i]? = some q)
    (hy : ∀ y ∈ y', Itm K (nw H (upd H2 q (.lst y'))) y) (hl : y'.length ≤ F) : Spo K F T H (upd H2 q (.lst y')) p ps ps ((iv hs).set i y') := by
  have S := spo_same (K := K) L e h50 h9
  have hpq : p ≠ q := fun z => (List.nodup_cons.mp L.nd).1 (z ▸ List.mem_of_getElem? hq)
  have hqm : q ∈ ps := List.mem_of_getElem? hq
  refine ⟨by rw [upd_ne hpq]; exact S.top, by rw [List.length_set]; exact S.len, fun k r z h1 h2 => ?_, fun ys hys y hyy => ?_, fun q hq => .inl hq, fun ys hys => ?_, by rw [List.length_set]; exact S.ten, fun b o h n => ?_⟩
  · by_cases ek : k = i
    · subst ek
      obtain rfl : r = q := Option.some.inj (h1.symm.trans hq)
      have hk : k < (iv hs).length := by
        have := (List.getElem?_eq_some_iff.mp h2).1
        rwa [List.length_set] at this
      rw [List.getElem?_set_self hk] at h2
      rw [upd_same, Option.some.inj h2]
    · rw [List.getElem?_set_ne (fun z => ek z.symm)] at h2
      have hr : r ≠ q := fun z => ek (nd_ix (List.nodup_cons.mp L.nd).2 (z ▸ h1) hq)
      rw [upd_ne hr]
      exact S.at_ k r z h1 h2
  · rcases List.mem_or_eq_of_mem_set hys with hys | rfl
    · obtain ⟨h, _, rfl⟩ := List.mem_map.mp hys
      obtain ⟨z, _, rfl⟩ := List.mem_map.mp hyy
      exact itm_int z
    · exact hy y hyy
  · rcases List.mem_or_eq_of_mem_set hys with hys | rfl
    · exact S.few ys hys
    · exact hl
  · rw [upd_ne (show b ≠ q from fun z => n (by rw [z]; exact List.mem_cons_of_mem _ hqm))]
    exact e _ _ h
end
/-- the heaps in another order, or one less -/
theorem spo_top {K : PySem.W.Frag} {F T : Nat} {H H0 H2 : Hp} {p : Addr} {ps ps' : List Addr} {hs : List (List Int)} {yss : List (List V)} (L : LNew H0 H p ps (iv hs)) (e : Ex H H2) (h50 : ∀ h ∈ hs, h.length < F) (h9 : hs.length < T)
    (hl : ps'.length = yss.length) (h10 : yss.length ≤ T) (h : ∀ (i : Nat) (q : Addr) (y : List V), ps'[i]? = some q → yss[i]? = some y → ∃ j : Nat, ps[j]? = some q ∧ (iv hs)[j]? = some y) : Spo K F T H (upd H2 p (.lst (ps'.map V.ref))) p ps ps' yss := by
  have S := spo_same (K := K) L e h50 h9
  have mem : ∀ y ∈ yss, y ∈ iv hs := fun y hy => by
    obtain ⟨k, hk⟩ := List.getElem?_of_mem hy
    have hkl := (List.getElem?_eq_some_iff.mp hk).1
    obtain ⟨j, _, hj⟩ := h k ps'[k] y (List.getElem?_eq_getElem (by omega)) hk
    exact List.mem_of_getElem? hj
  refine ⟨upd_same, hl, fun i q y h1 h2 => ?_, fun ys hys y hy => ?_, fun q hq => ?_, fun ys hys => S.few ys (mem ys hys), h10, fun b o hb n => ?_⟩
  · obtain ⟨j, h3, h4⟩ := h i q y h1 h2
    have hq : q ≠ p := fun z => (List.nodup_cons.mp L.nd).1 (z ▸ List.mem_of_getElem? h3)
    rw [upd_ne hq]
    exact S.at_ j q y h3 h4
  · obtain ⟨hh, _, rfl⟩ := List.mem_map.mp (mem ys hys)
    obtain ⟨z, _, rfl⟩ := List.mem_map.mp hy
    exact itm_int z
  · obtain ⟨k, hk⟩ := List.getElem?_of_mem hq
    have hkl := (List.getElem?_eq_some_iff.mp hk).1
    obtain ⟨j, hj, _⟩ := h k q yss[k] hk (List.getElem?_eq_getElem (by omega))
    exact .inl (List.mem_of_getElem? hj)
  · rw [upd_ne (show b ≠ p from fun z => n (by rw [z]; exact List.mem_cons_self))]
    exact e _ _ hb
theorem rep_one (g : Nat) (z : Int) : (List.replicate g [V.int z]).flatten = (List.replicate g z).map V.int := by
  induction g with
  | zero => rfl
  | succ g ih =>
    rw [List.replicate_succ, List.flatten_cons, ih, List.replicate_succ]
    rfl
/-- [z] * n -/
theorem el_rep {σ : L2.St} {H : Hp} {tn : TE} {z : Int} {g : Nat} (h : Ev tn σ H (.int (g : Int))) (hg : g ≤ 1000) : EvL (tOp rRep (tLst (tCons (tC (.int z)) tNil)) tn) σ H ((List.replicate g z).map V.int) := fun H0 e0 Q q => by
  refine g_op (g_lst ⟨sz_of (by show 1 ≤ 100000; omega), fun p hp => ?_⟩)
  have x1 := Ex.new (o := .lst [V.int z]) hp
  refine h _ (e0.trans x1) _ fun H1 e1 => ⟨p, (g : Int), [V.int z], rfl, rfl, e1 _ _ upd_same, by omega, by omega, ?_, fun p2 hp2 => ?_⟩
  · rw [Int.toNat_natCast]
    exact sz_of (by show 1 * g ≤ 100000; omega)
  · rw [Int.toNat_natCast, rep_one]
    exact q p2 _ (fresh_back (x1.trans e1) hp2) ((x1.trans e1).trans (Ex.new hp2)) upd_same
/-! the deal in heaps is one, and fair -/
theorem first_ex {rows : List (List Int)} {g : Nat} : ∀ {n : Nat}, 0 < n → ∃ i, i < n ∧ ∀ k, k < n → bidAt rows k g ≤ bidAt rows i g ∧ (bidAt rows k g = bidAt rows i g → i ≤ k)
  | 0, h => by omega
  | 1, _ => ⟨0, by omega, fun k hk => by
    have : k = 0 := by omega
    subst this
    exact ⟨Int.le_refl _, fun _ => Nat.le_refl _⟩⟩
  | n + 2, _ => by
    obtain ⟨i, hi, h⟩ := first_ex (rows := rows) (g := g) (n := n + 1) (by omega)
    by_cases e : bidAt rows i g < bidAt rows (n + 1) g
    · refine ⟨n + 1, by omega, fun k hk => ?_⟩
      by_cases hk2 : k < n + 1
      · have := (h k hk2).1
        exact ⟨by omega, fun z => by omega⟩
      · have : k = n + 1 := by omega
        subst this
        exact ⟨Int.le_refl _, fun _ => Nat.le_refl _⟩
    · refine ⟨i, by omega, fun k hk => ?_⟩
      by_cases hk2 : k < n + 1
      · exact h k hk2
      · have : k = n + 1 := by omega
        subst this
        exact ⟨by omega, fun _ => by omega⟩
theorem sum_zero {c : Nat → Bool} : ∀ {n : Nat}, (∀ i, i < n → c i = false) → ((List.range n).map fun i => if c i = true then 1 else 0).sum = 0
  | 0, _ => rfl
  | n + 1, h => by
    rw [List.range_succ, List.map_append, List.sum_append, sum_zero fun i hi => h i (by omega)]
    simp [h n (by omega)]
theorem sum_one {c : Nat → Bool} {i0 : Nat} (hc : c i0 = true) : ∀ {n : Nat}, i0 < n → (∀ i, i < n → c i = true → i = i0) → ((List.range n).map fun i => if c i = true then 1 else 0).sum = 1
  | 0, h, _ => by omega
  | n + 1, h, hu => by
    rw [List.range_succ, List.map_append, List.sum_append]
    by_cases e : i0 = n
    · subst e
      rw [sum_zero fun i hi => ?_]
      · simp [hc]
      · cases hci : c i with
        | false => rfl
        | true =>
          have := hu i (by omega) hci
          omega
    · have hn : c n = false := by
        cases hcn : c n with
        | false => rfl
        | true => exact absurd (hu n (by omega) hcn).symm e
      rw [sum_one hc (by omega) fun i hi => hu i (by omega)]
      simp [hn]
theorem count_heap (f : Nat → Bool) (k : Nat) : ∀ m : Nat, List.count (V.int (k : Int)) ((((List.range m).filter f).map fun g : Nat => (g : Int)).map V.int) = if k < m ∧ f k = true then 1 else 0
  | 0 => by simp
  | m + 1 => by
    rw [List.range_succ, List.filter_append, List.map_append, List.map_append, List.count_append, count_heap f k m]
    by_cases e : k = m
    · subst e
      by_cases hf : f k = true
      · simp [hf]
      · simp [hf]
    · have hne : ∀ l : List V, (∀ x ∈ l, x ≠ V.int (k : Int)) → List.count (V.int (k : Int)) l = 0 := fun l hl => List.count_eq_zero.mpr fun mm => hl _ mm rfl
      rw [hne _ fun x hx => ?_]
      · by_cases h : k < m ∧ f k = true
        · rw [if_pos h, if_pos ⟨by omega, h.2⟩]
        · rw [if_neg h, if_neg fun z => h ⟨by omega, z.2⟩]
      · obtain ⟨y, hy, rfl⟩ := List.mem_map.mp hx
        obtain ⟨g, hg, rfl⟩ := List.mem_map.mp hy
        have := (List.mem_filter.mp hg).1
        rw [List.mem_singleton.mp this]
        intro z
        have := V.int.inj z
        omega
theorem heaps_seen {rows : List (List Int)} {m k : Nat} (hne : 0 < rows.length) (hk : k < m) : List.count (V.int (k : Int)) (iv (heapsM rows m)).flatten = 1 := by
  rw [List.count_flatten, List.map_map]
  unfold heapsM
  rw [List.map_map]
  have e : (List.range rows.length).map ((List.count (V.int (k : Int)) ∘ fun r => List.map V.int r) ∘ fun i : Nat => ((List.range m).filter (firstB rows i)).map fun g : Nat => (g : Int)) = (List.range rows.length).map fun i => if firstB rows i k = true then 1 else 0 := by
    refine List.map_congr_left fun i _ => ?_
    show List.count _ _ = _
    rw [count_heap]
    by_cases h : firstB rows i k = true
    · rw [if_pos ⟨hk, h⟩, if_pos h]
    · rw [if_neg fun z => h z.2, if_neg h]
  rw [e]
  obtain ⟨i, hi, h⟩ := first_ex (rows := rows) (g := k) hne
  have hf : firstB rows i k = true := firstB_iff.mpr h
  exact sum_one (c := fun i => firstB rows i k) hf hi fun j hj hj2 => firstB_uniq hj hi hj2 hf
theorem heaps_ok {rows : List (List Int)} {m : Nat} (hne : 0 < rows.length) : heapsB (iv (heapsM rows m)) rows.length m = true := by
  unfold heapsB
  rw [decide_eq_true (by rw [List.length_map, heapsM_len]), Bool.true_and, Bool.and_eq_true]
  constructor
  · refine List.all_eq_true.mpr fun y hy => ?_
    rw [iv_flat] at hy
    obtain ⟨g, hg, rfl⟩ := List.mem_map.mp hy
    obtain ⟨h, hh, hg⟩ := List.mem_flatten.mp hg
    exact decide_eq_true (heapsM_in rows m h hh g hg)
  · refine decide_eq_true (List.ext_getElem (by simp [seenM]) fun k h1 h2 => ?_)
    have hk : k < m := by simpa using h2
    simp only [seenM, List.getElem_map, List.getElem_range, List.getElem_replicate]
    rw [heaps_seen hne hk]
    rfl
theorem sum_pay (l : List Int) (c d : Int) : (l.map fun o => o * c - d).sum = l.sum * c - l.length * d := by
  induction l with
  | nil => simp
  | cons x r ih =>
    rw [List.map_cons, List.sum_cons, List.sum_cons, ih, List.length_cons, Int.add_mul]
    have : ((r.length + 1 : Nat) : Int) * d = r.length * d + d := by
      rw [Int.natCast_add, Int.add_mul]
      simp
    omega
theorem pay_zero (rows hs : List (List Int)) : (payM rows hs).sum = 0 := by
  unfold payM
  rw [sum_pay, ownM_len, Int.mul_comm]
  omega
theorem heaps_deal {rows : List (List Int)} {m : Nat} (hne : 0 < rows.length) : dealB (iv (heapsM rows m)) (payM rows (heapsM rows m)) rows.length m = true := by
  unfold dealB
  rw [heaps_ok hne, pay_zero, payM_len, decide_eq_true rfl, decide_eq_true rfl]
  rfl
theorem worthM_le {r r' heap : List Int} (h : ∀ g ∈ heap, r.getD g.toNat 0 ≤ r'.getD g.toNat 0) : worthM r heap ≤ worthM r' heap := by
  unfold worthM
  induction heap with
  | nil => exact Int.le_refl _
  | cons x t ih =>
    have a := h x List.mem_cons_self
    have b := ih fun g hg => h g (List.mem_cons_of_mem _ hg)
    rw [List.map_cons, List.map_cons, List.sum_cons, List.sum_cons]
    omega
theorem own_at {rows hs : List (List Int)} {i : Nat} (hi : i < rows.length) : (ownM rows hs).getD i 0 = worthM (rows.getD i []) (hs.getD i []) := by
  simp [ownM, List.getD_eq_getElem?_getD, hi]
theorem pay_at {rows hs : List (List Int)} {i : Nat} (hi : i < rows.length) : (payM rows hs).getD i 0 = worthM (rows.getD i []) (hs.getD i []) * rows.length - (ownM rows hs).sum := by
  have h := own_at (hs := hs) hi
  have hl : i < (ownM rows hs).length := by rw [ownM_len]; exact hi
  rw [List.getD_eq_getElem?_getD, List.getElem?_eq_getElem hl] at h
  have h2 : (ownM rows hs)[i] = worthM (rows.getD i []) (hs.getD i []) := h
  unfold payM
  rw [List.getD_eq_getElem?_getD, List.getElem?_map, List.getElem?_eq_getElem hl, h2]
  rfl
theorem heaps_fair {rows : List (List Int)} {m : Nat} : enviedB (gainM rows (heapsM rows m) (payM rows (heapsM rows m))) rows.length = false := by
  refine enviedB_not fun i j hi hj => ?_
  unfold gainM
  rw [pay_at hi, pay_at hj]
  have h : worthM (rows.getD i []) ((heapsM rows m).getD j []) ≤ worthM (rows.getD j []) ((heapsM rows m).getD j []) := by
    rw [heapsM_at hj]
    refine worthM_le fun g hg => ?_
    obtain ⟨k, hk, rfl⟩ := List.mem_map.mp hg
    rw [Int.toNat_natCast]
    exact (firstB_iff.mp (List.mem_filter.mp hk).2 i hi).1
  have h2 := Int.mul_le_mul_of_nonneg_right h (show (0 : Int) ≤ rows.length by omega)
  omega
theorem half_ok {rows : List (List Int)} {m : Nat} (hb : Bids rows m) : Bids (rows.map fun r => r.map fun b => 1 + b / 2) m := by
  refine ⟨by rw [List.length_map]; exact hb.ne, by rw [List.length_map]; exact hb.l9, hb.m40, fun r hr => ?_, fun r hr b hbm => ?_⟩
  · obtain ⟨r0, hr0, rfl⟩ := List.mem_map.mp hr
    rw [List.length_map]
    exact hb.len r0 hr0
  · obtain ⟨r0, hr0, rfl⟩ := List.mem_map.mp hr
    obtain ⟨b0, hb0, rfl⟩ := List.mem_map.mp hbm
    have := hb.ok r0 hr0 b0 hb0
    omega
theorem g_c {σ : L2.St} {H : Hp} {v : V} {Q : VK} (h : Q v H) : tC v σ H Q := h
end Fs

/-! Tx: texts. -/
namespace Tx
open PySem PySem.Spec PyProof.Rows L2 Evl Fs TL PySem.StrLaws
def rJoin (K : PySem.W.Frag) : V → List V → Hp → VK → Prop := fun x xs H Q => ∃ a p, ∃ ys : List Str, x = .str a ∧ xs = [.ref p] ∧ (SqL K H p (ys.map V.str) ∨ SqT K H p (ys.map V.str)) ∧
    (ys.map (·.length)).sum + ys.length * a.length ≤ 16777216 ∧ Q (.str (Txt.join a ys)) H
theorem pe_joinK {X : Cx} {K : PySem.W.Frag} {o e : Expr} {to te : TE} {apos pos : Pos} (ho : PE X o to) (he : PE X e te) (hs : starEach [e] X.env = [(false, eval e X.env)] := by rfl) (hbase : attributeBase o "join" X.env (eval o X.env) = eval o X.env := by rfl) (hline : (apos.endLine == pos.line) = true := by rfl) (hK : X.K = K := by rfl) :
    PE X (.Call (.Attribute o "join" apos) [e] [] pos) (tM1 (rJoin K) to te) := by
  subst hK
  exact pe_join ho he hs hbase hline
section
variable {K : PySem.W.Frag} {σ : L2.St} {H : Hp} {te to ta tb : TE}
theorem ev_join {a : Str} {ys : List Str} (h : EvL te σ H (ys.map V.str)) (hz : (ys.map (·.length)).sum + ys.length * a.length ≤ 16777216) : Ev (tM1 (rJoin K) (tC (.str a)) te) σ H (.str (Txt.join a ys)) := fun H1 e Q q =>
  ⟨⟨a, rfl⟩, h H1 e _ fun p H2 hp e2 h2 => ⟨a, p, ys, rfl, rfl, .inl (sq_of h2), hz, q H2 e2⟩⟩
theorem ev_addS {x y : Str} (h1 : Ev ta σ H (.str x)) (h2 : Ev tb σ H (.str y)) (hz : x.length + y.length ≤ 100000) : Ev (tOp (fun x y H Q => ∃ i j, x = .str i ∧ y = .str j ∧ i.length + j.length ≤ sizeLine ∧ Q (.str (i ++ j)) H) ta tb) σ H (.str (x ++ y)) :=
  ev_op h1 h2 fun H1 _ Q q => ⟨x, y, rfl, rfl, sz_of hz, q H1 (Ex.refl H1)⟩
theorem ev_strI {i : Int} (h : Ev te σ H (.int i)) (hz : i.natAbs.log2 < 1920) : Ev (tCB (fun xs H Q => ∃ i, xs = [.int i] ∧ i.natAbs.log2 < 1920 ∧ Q (.str (toString i)) H) (tCons te tNil)) σ H (.str (toString i)) :=
  ev_cb (ea_cons h ea_nil) fun H1 _ Q q => ⟨i, rfl, hz, q H1 (Ex.refl H1)⟩
theorem ev_m0 {r : V → List V → Hp → VK → Prop} {a : Str} {v : V} (h : Ev to σ H (.str a)) (hr : ∀ H1 Q, Q v H1 → r (.str a) [] H1 Q) : Ev (tM0 r to) σ H v := fun H1 e Q q => h H1 e _ fun H2 e2 => ⟨⟨a, rfl⟩, hr _ _ (q H2 e2)⟩
theorem ev_m1 {r : V → List V → Hp → VK → Prop} {a b : Str} {v : V} (h : Ev to σ H (.str a)) (h2 : Ev te σ H (.str b)) (hr : ∀ H1 Q, Q v H1 → r (.str a) [.str b] H1 Q) : Ev (tM1 r to te) σ H v := fun H1 e Q q => h H1 e _ fun H2 e2 => ⟨⟨a, rfl⟩, h2 H2 (e.trans e2) _ fun H3 e3 => hr _ _ (q H3 (e2.trans e3))⟩
theorem ev_lenS {a : Str} (h : Ev te σ H (.str a)) (hz : a.length ≤ 100000) : Ev (tCB (fun xs H Q => ∃ z, xs = [.str z] ∧ z.length ≤ sizeLine ∧ Q (.int z.length) H) (tCons te tNil)) σ H (.int (a.length : Nat)) :=
  ev_cb (ea_cons h ea_nil) fun H1 _ Q q => ⟨a, rfl, sz_of hz, q H1 (Ex.refl H1)⟩
end
/-! ### bids as texts -/
/-- a number as it is written -/
def numS (b : Int) : Str := toString b
def rowS (r : List Int) : Str := Txt.join " " (r.map numS)
def shownS (rows : List (List Int)) : Str := Txt.join "" (rows.map fun r => rowS r ++ "\n")
def rowL (r : List Int) : List Nat := joinL [32] (r.map fun b => numL b.toNat)
def shownL (rows : List (List Int)) : List Nat := (rows.map fun r => rowL r ++ [10]).flatten
theorem tl_numS {b : Int} (h : 0 ≤ b) : tl (numS b) = numL b.toNat := by
  have e : b = ((b.toNat : Nat) : Int) := by omega
  have := tl_num b.toNat
  rw [← e] at this
  exact this
theorem tl_rowS {r : List Int} (h : ∀ b ∈ r, 0 ≤ b) : tl (rowS r) = rowL r := by
  unfold rowS rowL
  rw [join_eq, tl_join, List.map_map]
  have e : tl (" " : Str) = [32] := by decide
  rw [e]
  congr 1
  exact List.map_congr_left fun b hb => tl_numS (h b hb)
theorem joinL_nil : ∀ ps : List (List Nat), joinL [] ps = ps.flatten
  | [] => rfl
  | [p] => by simp [joinL]
  | p :: q :: r => by
    show p ++ ([] ++ joinL [] (q :: r)) = _
    rw [joinL_nil (q :: r), List.nil_append]
    simp
theorem tl_shownS {rows : List (List Int)} (h : ∀ r ∈ rows, ∀ b ∈ r, 0 ≤ b) : tl (shownS rows) = shownL rows := by
  unfold shownS shownL
  rw [join_eq, tl_join, List.map_map]
  have e : tl ("" : Str) = [] := by decide
  rw [e, joinL_nil]
  congr 1
  refine List.map_congr_left fun r hr => ?_
  show tl (rowS r ++ "\n") = _
  rw [tl_append, tl_rowS (h r hr)]
  rfl
theorem len_numS {b : Int} (h0 : 0 ≤ b) (h1 : b ≤ 1000000000000) : (numS b).length ≤ 13 := by
  rw [len_tl, tl_numS h0]
  exact numL_len (by decide) (by omega)
theorem joinL_len (s : Nat) {k : Nat} : ∀ ps : List (List Nat), (∀ p ∈ ps, p.length ≤ k) → (joinL [s] ps).length ≤ ps.length * (k + 1)
  | [], _ => by simp [joinL]
  | [p], h => by
    have := h p List.mem_cons_self
    show p.length ≤ 1 * (k + 1)
    omega
  | p :: q :: r, h => by
    have h1 := h p List.mem_cons_self
    have ih := joinL_len s (k := k) (q :: r) fun x hx => h x (List.mem_cons_of_mem _ hx)
    show (p ++ ([s] ++ joinL [s] (q :: r))).length ≤ (r.length + 1 + 1) * (k + 1)
    rw [List.length_append, List.length_append]
    have e : (r.length + 1 + 1) * (k + 1) = (r.length + 1) * (k + 1) + (k + 1) := Nat.succ_mul _ _
    have ih : (joinL [s] (q :: r)).length ≤ (r.length + 1) * (k + 1) := ih
    have : ([s] : List Nat).length = 1 := rfl
    omega
theorem len_rowS {rows : List (List Int)} {m : Nat} (hb : Bids rows m) {r : List Int} (hr : r ∈ rows) : (rowS r).length ≤ 560 := by
  rw [len_tl, tl_rowS fun b h => (hb.ok r hr b h).1]
  have := joinL_len 32 (k := 13) (r.map fun b => numL b.toNat) fun p hp => by
    obtain ⟨b, hbm, rfl⟩ := List.mem_map.mp hp
    have := hb.ok r hr b hbm
    exact numL_len (by decide) (by omega)
  rw [List.length_map, hb.len r hr] at this
  have := hb.m40
  unfold rowL
  have e : m * (13 + 1) ≤ 40 * 14 := Nat.mul_le_mul hb.m40 (Nat.le_refl _)
  omega
theorem sum_bound {k : Nat} : ∀ l : List Nat, (∀ x ∈ l, x ≤ k) → l.sum ≤ l.length * k
  | [], _ => by simp
  | x :: l, h => by
    have h1 := h x List.mem_cons_self
    have h2 := sum_bound l fun y hy => h y (List.mem_cons_of_mem _ hy)
    rw [List.sum_cons, List.length_cons, Nat.succ_mul]
    omega
theorem log_ok {b : Int} (h0 : 0 ≤ b) (h1 : b ≤ 1000000000000) : b.natAbs.log2 < 1920 := by
  by_cases z : b.natAbs = 0
  · rw [z]
    decide
  · rw [Nat.log2_lt z]
    exact Nat.lt_of_le_of_lt (show b.natAbs ≤ 1000000000000 by omega) (by decide +kernel)
/-- "".join([" ".join([str(bid) for bid in row]) + "\\n" for row in bids]) -/
theorem ev_shown {K : PySem.W.Frag} {σ : L2.St} {H : Hp} {a : Addr} {rows : List (List Int)} {m : Nat} (hA : LL K H a rows) (hb : Bids rows m) (h0 : ∀ x y z, σ = [x, y, z] → x = some (.ref a)) (hl : σ.length = 3) :
    Ev (tM1 (rJoin K) (tC (.str "")) (tLc (iList K (tVar 0)) (gName 1) tYes (tOp (fun x y H Q => ∃ i j, x = .str i ∧ y = .str j ∧ i.length + j.length ≤ sizeLine ∧ Q (.str (i ++ j)) H) (tM1 (rJoin K) (tC (.str " ")) (tLc (iList K (tVar 1)) (gName 2) tYes (tCB (fun xs H Q => ∃ i, xs = [.int i] ∧ i.natAbs.log2 < 1920 ∧ Q (.str (toString i)) H) (tCons (tVar 2) tNil)) [2])) (tC (.str "\n"))) [1])) σ H (.str (shownS rows)) := by
  have hl9 := hb.l9
  have h40 := hb.m40
  match σ, hl with
  | [x, y, z], _ =>
    obtain rfl := h0 x y z rfl
    refine ev_join (ys := rows.map fun r => rowS r ++ "\n") ?_ ?_
    · rw [List.map_map]
      refine el_rows (rows := rows) (fun r => .str (rowS r ++ "\n")) (ev_var rfl) hA (by omega) (fun _ => rfl) fun i p H1 hi hs e1 => ?_
      have hrm : rows.getD i [] ∈ rows := by
        have e : rows.getD i [] = rows[i] := by simp [List.getD_eq_getElem?_getD, hi]
        rw [e]
        exact List.getElem_mem hi
      have hok := hb.ok _ hrm
      have hlen := hb.len _ hrm
      have hlr := len_rowS hb hrm
      generalize rows.getD i [] = r at hs hok hlen hlr
      refine ev_addS (ev_join (ys := r.map numS) ?_ ?_) ev_c (by have : ("\n" : Str).length = 1 := rfl; omega)
      · rw [List.map_map]
        refine el_all (xs := r) (enc := V.int) (fun b => .str (numS b)) (ev_var rfl) hs (by omega) (fun _ => rfl) fun b hbm H2 e2 => ev_strI (ev_var rfl) (log_ok (hok b hbm).1 (hok b hbm).2)
      · have := sum_bound (k := 13) ((r.map numS).map (·.length)) fun x hx => by
          obtain ⟨w, hw, rfl⟩ := List.mem_map.mp hx
          obtain ⟨b, hbm, rfl⟩ := List.mem_map.mp hw
          exact len_numS (hok b hbm).1 (hok b hbm).2
        rw [List.length_map, List.length_map] at this
        rw [List.length_map]
        have e1 : (" " : Str).length = 1 := rfl
        rw [e1]
        omega
    · have := sum_bound (k := 561) ((rows.map fun r => rowS r ++ "\n").map (·.length)) fun x hx => by
        obtain ⟨w, hw, rfl⟩ := List.mem_map.mp hx
        obtain ⟨r, hr, rfl⟩ := List.mem_map.mp hw
        have := len_rowS hb hr
        rw [len_tl, tl_append, List.length_append, ← len_tl]
        show (rowS r).length + 1 ≤ 561
        omega
      rw [List.length_map, List.length_map] at this
      have e1 : ("" : Str).length = 0 := rfl
      rw [e1]
      omega
/-! ### words that are numbers -/
def writtenB (l : List Nat) : Bool := ((decide (l ≠ []) && l.all fun c => decide (48 ≤ c ∧ c ≤ 57)) && decide (l.length ≤ 13)) && (decide (l = [48]) || !decide (l.head? = some 48))
theorem dig_ascii : ∀ c : Nat, c < 128 → Unicode.isDigit c = decide (48 ≤ c ∧ c ≤ 57) := by decide +kernel
theorem dig_txt (w : Str) : (Txt.isascii w && Txt.isdigit w) = (decide (tl w ≠ []) && (tl w).all fun c => decide (48 ≤ c ∧ c ≤ 57)) := by
  have h1 : Txt.isascii w = (tl w).all fun c => decide (c < 128) := by
    show w.cps.all _ = w.cps.toList.all _
    rw [Array.all_toList]
  have h2 : Txt.isdigit w = (decide (w.length > 0) && (tl w).all Unicode.isDigit) := by
    show (decide (w.length > 0) && w.cps.all _) = (_ && w.cps.toList.all _)
    rw [Array.all_toList]
  have h3 : decide (w.length > 0) = decide (tl w ≠ []) := by
    refine decide_eq_decide.mpr ?_
    rw [len_tl]
    exact List.length_pos_iff
  rw [h1, h2, h3]
  generalize tl w = l
  by_cases e : l = []
  · simp [e]
  · rw [decide_eq_true e, Bool.true_and, Bool.true_and, Bool.eq_iff_iff]
    rw [Bool.and_eq_true, List.all_eq_true, List.all_eq_true, List.all_eq_true]
    constructor
    · intro ⟨a, b⟩ c hc
      rw [← dig_ascii c (of_decide_eq_true (a c hc))]
      exact b c hc
    · intro h
      have lt : ∀ c ∈ l, c < 128 := fun c hc => by
        have := of_decide_eq_true (h c hc)
        omega
      exact ⟨fun c hc => decide_eq_true (lt c hc), fun c hc => by rw [dig_ascii c (lt c hc)]; exact h c hc⟩
theorem starts1 (w : Str) (c : Nat) : Txt.startswith w ⟨#[c]⟩ = decide ((tl w).head? = some c) := by
  have key : At w ⟨#[c]⟩ w.length 0 ↔ pre [c] ((tl w).drop 0) = true := at_iff (y := ⟨#[c]⟩) (by show [c] ≠ []; simp) 0
  have e1 : Txt.startswith w ⟨#[c]⟩ = true ↔ At w ⟨#[c]⟩ w.length 0 := by
    show (decide _ && _) = true ↔ (_ ∧ _)
    rw [Bool.and_eq_true, decide_eq_true_iff]
  rw [List.drop_zero] at key
  rw [Bool.eq_iff_iff, e1, key, decide_eq_true_iff]
  unfold pre
  cases tl w with
  | nil => simp
  | cons x r => simp
theorem ends1 (w : Str) (c : Nat) : Txt.endswith w ⟨#[c]⟩ = decide ((tl w).getLast? = some c) := by
  have e1 : Txt.endswith w ⟨#[c]⟩ = (decide (1 ≤ w.length) && Builtin.Str.subAt w ⟨#[c]⟩ (w.length - 1)) := by
    show (decide (0 + 1 ≤ w.length) && _) = _
    rfl
  rw [e1]
  by_cases h0 : tl w = []
  · have : w.length = 0 := by rw [len_tl, h0]; rfl
    rw [this, h0]
    rfl
  · have hl : 1 ≤ w.length := by
      rw [len_tl]
      exact List.length_pos_iff.mpr h0
    have key : At w ⟨#[c]⟩ w.length (w.length - 1) ↔ pre [c] ((tl w).drop (w.length - 1)) = true := at_iff (y := ⟨#[c]⟩) (by show [c] ≠ []; simp) _
    have e2 : At w ⟨#[c]⟩ w.length (w.length - 1) ↔ Builtin.Str.subAt w ⟨#[c]⟩ (w.length - 1) = true := ⟨fun h => h.2, fun h => ⟨by show w.length - 1 + 1 ≤ w.length; omega, h⟩⟩
    rw [decide_eq_true hl, Bool.true_and, Bool.eq_iff_iff, ← e2, key, decide_eq_true_iff]
    obtain ⟨l, x, hx⟩ : ∃ l x, tl w = l ++ [x] := ⟨_, _, (List.dropLast_concat_getLast h0).symm⟩
    have hn : w.length - 1 = l.length := by rw [len_tl, hx, List.length_append]; rfl
    rw [hn, hx, List.drop_left, List.getLast?_append]
    unfold pre
    simp
/-- what a line says -/
def lineNs (l : List Nat) : Option (List Int) := if l = [] then some [] else if (spl [32] 0 [] l).all writtenB = true then some ((spl [32] 0 [] l).map fun p => ((NumText.digitsVal p : Nat) : Int)) else none
theorem numL_head : ∀ n : Nat, 1 ≤ n → (numL n).head? ≠ some 48 := by
  intro n
  induction n using Nat.strongRecOn with
  | _ n ih =>
    intro h1
    by_cases h : n < 10
    · rw [numL_lt h]
      intro z
      have : 48 + n = 48 := Option.some.inj z
      omega
    · rw [numL_step (by omega), List.head?_append]
      have h2 := ih (n / 10) (by omega) (by omega)
      have h3 := numL_ne (n / 10)
      cases e : numL (n / 10) with
      | nil => exact absurd e h3
      | cons x r =>
        rw [e] at h2
        exact h2
theorem numL_written {n : Nat} (h : n ≤ 1000000000000) : writtenB (numL n) = true := by
  unfold writtenB
  rw [decide_eq_true (numL_ne n), Bool.true_and, decide_eq_true (numL_len (n := n) (k := 13) (by decide) (by omega)), Bool.and_true, Bool.and_eq_true]
  refine ⟨List.all_eq_true.mpr fun c hc => decide_eq_true (numL_digits n c hc), ?_⟩
  by_cases h0 : n = 0
  · subst h0
    decide +kernel
  · rw [decide_eq_false (numL_head n (by omega))]
    exact Bool.or_true _
theorem rowL_nil {r : List Int} (h : rowL r = []) : r = [] := by
  cases r with
  | nil => rfl
  | cons b t =>
    exfalso
    unfold rowL at h
    rw [List.map_cons] at h
    cases t with
    | nil => exact numL_ne _ h
    | cons c t =>
      have h : numL b.toNat ++ _ = [] := h
      exact numL_ne _ (List.append_eq_nil_iff.mp h).1
theorem nums_rowL {r : List Int} (hb : ∀ b ∈ r, 0 ≤ b ∧ b ≤ 1000000000000) : lineNs (rowL r) = some r := by
  unfold lineNs
  by_cases h : rowL r = []
  · rw [if_pos h, rowL_nil h]
  · rw [if_neg h]
    have hne : r.map (fun b => numL b.toNat) ≠ [] := fun z => h (by unfold rowL; rw [z]; rfl)
    have hs : spl [32] 0 [] (rowL r) = r.map fun b => numL b.toNat := spl_join hne fun p hp => by
      obtain ⟨b, _, rfl⟩ := List.mem_map.mp hp
      exact numL_free (by omega)
    rw [hs, if_pos (List.all_eq_true.mpr fun p hp => by
      obtain ⟨b, hbm, rfl⟩ := List.mem_map.mp hp
      exact numL_written (by have := hb b hbm; omega)), List.map_map]
    congr 1
    refine (List.map_congr_left fun b hbm => ?_).trans (List.map_id _)
    show ((NumText.digitsVal (numL b.toNat) : Nat) : Int) = b
    rw [numL_val]
    have := hb b hbm
    omega
theorem rowL_free {r : List Int} : 10 ∉ rowL r := by
  unfold rowL
  have : ∀ ps : List (List Nat), (∀ p ∈ ps, 10 ∉ p) → 10 ∉ joinL [32] ps := by
    intro ps
    induction ps with
    | nil => intro _ h; cases h
    | cons p ps ih =>
      intro h
      cases ps with
      | nil => exact h p List.mem_cons_self
      | cons q r =>
        intro m
        have m : 10 ∈ p ++ ([32] ++ joinL [32] (q :: r)) := m
        rcases List.mem_append.mp m with m | m
        · exact h p List.mem_cons_self m
        · rcases List.mem_append.mp m with m | m
          · have := List.mem_singleton.mp m
            omega
          · exact ih (fun x hx => h x (List.mem_cons_of_mem _ hx)) m
  refine this _ fun p hp => ?_
  obtain ⟨b, _, rfl⟩ := List.mem_map.mp hp
  exact numL_free (by omega)
theorem lines_shownL : ∀ rows : List (List Int), spl [10] 0 [] (shownL rows) = rows.map rowL ++ [[]]
  | [] => spl_nil _ _ _
  | r :: rows => by
    have h := spl_part1 (s := 10) (S := []) (acc := []) (p := rowL r) (rest := shownL rows) rowL_free
    have e : shownL (r :: rows) = rowL r ++ ([10] ++ shownL rows) := by
      unfold shownL
      rw [List.map_cons, List.flatten_cons, List.append_assoc]
    rw [e, List.map_cons]
    show spl [10] 0 [] (rowL r ++ ([10] ++ shownL rows)) = _
    rw [h, List.nil_append, lines_shownL rows]
    rfl
theorem last_shownL {rows : List (List Int)} (h : rows ≠ []) : (shownL rows).getLast? = some 10 := by
  obtain ⟨l, x, hx⟩ : ∃ l x, rows = l ++ [x] := ⟨_, _, (List.dropLast_concat_getLast h).symm⟩
  rw [hx]
  unfold shownL
  rw [List.map_append, List.flatten_append]
  show (_ ++ ([rowL x ++ [10]].flatten)).getLast? = _
  simp
section
variable {K : PySem.W.Frag} {σ : L2.St} {H : Hp} {te to ta tb : TE}
theorem el_slN {xs : List V} {lo hi : Option Int} {tlo thi : TO} (h : EvL te σ H xs) (h1 : EvO tlo σ H lo) (h2 : EvO thi σ H hi) : EvL (tSl (rSlL K) te tlo thi) σ H (cutV xs lo hi) := fun H1 e Q q => h H1 e _ fun a H2 ha e2 h0 =>
  el_sl (te := tC (.ref a)) (lo := lo) (hi := hi) ev_c (fun H3 e3 => h1 H3 ((e.trans e2).trans e3)) (fun H3 e3 => h2 H3 ((e.trans e2).trans e3)) (sq_of h0) H2 (Ex.refl _) _ fun p H3 hp e3 h3 => q p H3 (fresh_back e2 hp) (e2.trans e3) h3
theorem cut_last (xs : List V) : cutV xs none (some (-1)) = xs.dropLast := by
  unfold cutV
  rw [HT.sIx_none, List.drop_zero, List.dropLast_eq_take]
  congr 1
  have e : HT.sIx xs.length xs.length (some (-1)) = ((-1 : Int) + (xs.length : Int)).toNat := rfl
  rw [e]
  omega
end
theorem EvO.mono' {to : TO} {σ : L2.St} {H H' : Hp} {o : Option Int} (h : EvO to σ H o) (e : Ex H H') : EvO to σ H' o := fun H1 e1 Q q => h H1 (e.trans e1) Q q
theorem ev_slS {σ : L2.St} {H : Hp} {te : TE} {tlo thi : TO} {z : Str} {lo hi : Option Int} (h : Ev te σ H (.str z)) (h1 : EvO tlo σ H lo) (h2 : EvO thi σ H hi) (hz : z.length ≤ 100000) : Ev (tSl rSlS te tlo thi) σ H (.str (cutS z lo hi)) := fun H1 e Q q =>
  h H1 e _ fun H2 e2 => h1 H2 (e.trans e2) _ fun H3 e3 => h2 H3 ((e.trans e2).trans e3) _ fun H4 e4 => ⟨z, rfl, sz_of hz, q H4 ((e2.trans e3).trans e4)⟩
theorem len_app1 (l : Str) (c : Nat) : (l ++ ⟨#[c]⟩ : Str).length = l.length + 1 := by
  rw [len_tl, tl_append, List.length_append, ← len_tl]
  rfl
theorem len_app (l u : Str) : (l ++ u : Str).length = l.length + u.length := by
  rw [len_tl, tl_append, List.length_append, ← len_tl, ← len_tl]
end Tx

namespace Fk06
open PySem PySem.Spec PyProof.Rows L2 Evl Fs Tx TL
def topS (i : Nat) : Stmt := PySem.Challenge.pw_fairsplit_k06_bids_written.main.body.getD i (.Pass ⟨0, 0, 0, 0⟩)
/-! ### is_number -/
abbrev s_is_number : Stmt := topS 11
theorem sc_is_number : FnScope ["thing"] ["thing"] (defScope s_is_number) := ⟨rfl, rfl, rfl, by decide +kernel, rfl, by decide +kernel, by decide +kernel⟩
def sp_is_number (K : PySem.W.Frag) : Sp := spWhole
section
variable {P : Program} {w : World} {K : PySem.W.Frag} {mg : Str → Option Value} {base : Heap}
theorem ok_is_number (D : DnX K mg "is_number" s_is_number ["thing"]) (B : Bt mg) : Ok P w K mg base CX0 1 "is_number" ["thing"] (sp_is_number K) := by
  refine ok_of D sc_is_number (fun vs H Q E h => by obtain ⟨_, rfl, _⟩ := h; rfl) (fun f cdv A outer s H vs Q E hr h => ⟨_, (pss_one (ps_ret (pe_and (pe_callB (isiK (K := K)) (by rfl) B.isinstance (by decide +kernel) (pa_cons (pv 0) (pa_cons (pe_bltn (v := .ty "int") (by rfl) B.int (by decide +kernel) rfl) pa_nil))) (pe_one (pe_not (pe_callB (isiK (K := K)) (by rfl) B.isinstance (by decide +kernel) (pa_cons (pv 0) (pa_cons (pe_bltn (v := .ty "bool") (by rfl) B.bool (by decide +kernel) rfl) pa_nil)))))))), ?_⟩)
  obtain ⟨x, rfl, ha, q⟩ := h
  exact rd_whole ha q fun Q q => ⟨x, rfl, q⟩
end
/-! ### is_bid -/
abbrev s_is_bid : Stmt := topS 12
theorem sc_is_bid : FnScope ["thing"] ["thing"] (defScope s_is_bid) := ⟨rfl, rfl, rfl, by decide +kernel, rfl, by decide +kernel, by decide +kernel⟩
def sp_is_bid (K : PySem.W.Frag) : Sp := sp1 fun x H Q => Any H x ∧ Q (.bl (bidOk x)) H
section
variable {P : Program} {w : World} {K : PySem.W.Frag} {mg : Str → Option Value} {base : Heap}
theorem ok_is_bid (D : DnX K mg "is_bid" s_is_bid ["thing"]) (B : Bt mg) (c_GREATEST_BID : KInt mg "GREATEST_BID" 1000000000000) (h_is_number : Ok P w K mg base CX0 1 "is_number" ["thing"] (sp_is_number K)) : Ok P w K mg base CX0 2 "is_bid" ["thing"] (sp_is_bid K) := by
  refine ok_of D sc_is_bid (fun vs H Q E h => by obtain ⟨_, rfl, _⟩ := h; rfl) (fun f cdv A outer s H vs Q E hr h => ⟨_, (pss_one (ps_ret (pe_and (pe_ok h_is_number hr (by rfl) pass0 (pa_cons (pv 0) pa_nil)) (pe_one (pe_chain op_le op_le pe_int (pv 0) (pe_const (by rfl) c_GREATEST_BID)))))), ?_⟩)
  obtain ⟨x, rfl, ha, q⟩ := h
  refine ⟨x, rfl, x, rfl, ha, isInt x, rfl, ?_⟩
  cases x with
  | int i =>
    refine iteT ⟨_, rfl, _, _, rfl, rfl, _, rfl, ?_⟩
    by_cases h0 : 0 ≤ i
    · rw [decide_eq_true h0]
      refine iteT ⟨_, _, rfl, rfl, ?_⟩
      have e : bidOk (.int i) = decide (i ≤ 1000000000000) := by simp [bidOk, h0]
      rw [e] at q
      exact q
    · rw [decide_eq_false h0]
      refine iteF ?_
      have e : bidOk (.int i) = false := by simp [bidOk, h0]
      rw [e] at q
      exact q
  | _ => exact q
end
/-! ### check_line -/
abbrev s_check_line : Stmt := topS 13
theorem sc_check_line : FnScope ["line", "many", "bid"] ["line", "many"] (defScope s_check_line) := ⟨rfl, rfl, rfl, by decide +kernel, rfl, by decide +kernel, by decide +kernel⟩
/-- a line of so many good bids -/
def LineOk (row : List Int) (m : Int) : Prop := (row.length : Int) = m ∧ ∀ b ∈ row, 0 ≤ b ∧ b ≤ 1000000000000
def sp_check_line (K : PySem.W.Frag) : Sp := sp2 fun x y H Q => ∃ (a : Addr) (row : List Int) (m : Int), x = .ref a ∧ y = .int m ∧ SqL K H a (row.map V.int) ∧ LineOk row m ∧ RetV .non H Q
section
variable {P : Program} {w : World} {K : PySem.W.Frag} {mg : Str → Option Value} {base : Heap}
theorem ok_check_line (D : DnX K mg "check_line" s_check_line ["line", "many"]) (B : Bt mg) (h_is_bid : Ok P w K mg base CX0 2 "is_bid" ["thing"] (sp_is_bid K)) : Ok P w K mg base CX0 3 "check_line" ["line", "many"] (sp_check_line K) := by
  refine ok_of D sc_check_line (fun vs H Q E h => by obtain ⟨_, _, rfl, _⟩ := h; rfl) (fun f cdv A outer s H vs Q E hr h => ⟨_, (pss_cons (ps_if (pt_cmpR op_ne (pe_callB (lenK (K := K)) (by rfl) B.len PySem.boot_len (pa_cons (pv 0) pa_nil)) (pv 1) (nomark _))
        (pss_one ps_never)
        pss_nil)
      (pss_one (ps_for PassesOwn.never rfl (pi_listK (K := K) (pv 0)) (pg_name (i := 2) sc_check_line.nd rfl (Or.inl rfl))
        (pss_one (ps_if (pt_not (pt_val (pe_ok h_is_bid hr (by rfl) pass0 (pa_cons (pv 2) pa_nil))))
          (pss_one ps_never)
          pss_nil))))), ?_⟩)
  obtain ⟨x, y, rfl, a, row, m, rfl, rfl, hA, ⟨hm, hb⟩, q⟩ := h
  refine q_when (b := false) (et_is (et_test (ev_op (ev_lenI hA (ev_var rfl)) (ev_var rfl) (rv_ne rfl))) (by rw [hm, decide_eq_true rfl]; rfl)) (fun h => nomatch h) fun _ H1 e1 => ?_
  refine s_forLn (ev_var rfl) (ex_l e1 hA) (fun i σ H' => ∃ z, σ = [some (.ref a), some (.int m), z] ∧ Ex H H') (fun H2 e2 => ⟨none, rfl, e1.trans e2⟩) (fun i σ' H' _ h => by obtain ⟨z, _, e⟩ := h; exact ex_l e hA) ?_ ?_
  · rintro i x σ' H' hi ⟨z, rfl, e⟩
    obtain ⟨hj, rfl⟩ := get_ints hi
    have g := hb _ (List.getElem_mem hj)
    refine s_when (b := false) (et_is (et_not (et_B (ev_call (ea_cons (ev_var rfl) ea_nil) fun H2 e2 Q q E => ⟨_, rfl, .int row[i], q H2 (Ex.refl H2)⟩))) (by simp [bidOk, g])) (fun h => nomatch h) fun _ H2 e2 => ⟨_, rfl, e.trans e2⟩
  · rintro σ' H' ⟨z, rfl, e⟩
    exact q H' e
end
/-! ### check_bids -/
abbrev s_check_bids : Stmt := topS 14
theorem sc_check_bids : FnScope ["bids", "many", "row"] ["bids"] (defScope s_check_bids) := ⟨rfl, rfl, rfl, by decide +kernel, rfl, by decide +kernel, by decide +kernel⟩
def sp_check_bids (K : PySem.W.Frag) : Sp := sp1 fun x H Q => ∃ (a : Addr) (rows : List (List Int)) (m : Nat), x = .ref a ∧ LL K H a rows ∧ Bids rows m ∧ RetV .non H Q
section
variable {P : Program} {w : World} {K : PySem.W.Frag} {mg : Str → Option Value} {base : Heap}
theorem ok_check_bids (D : DnX K mg "check_bids" s_check_bids ["bids"]) (B : Bt mg) (c_MOST_PEOPLE : KInt mg "MOST_PEOPLE" 9) (c_MOST_GOODS : KInt mg "MOST_GOODS" 40) (h_check_line : Ok P w K mg base CX0 3 "check_line" ["line", "many"] (sp_check_line K)) : Ok P w K mg base CX0 4 "check_bids" ["bids"] (sp_check_bids K) := by
  refine ok_of D sc_check_bids (fun vs H Q E h => by obtain ⟨_, rfl, _⟩ := h; rfl) (fun f cdv A outer s H vs Q E hr h => ⟨_, (pss_cons (ps_if (pt_cmpR op_eq (pe_callB (lenK (K := K)) (by rfl) B.len PySem.boot_len (pa_cons (pv 0) pa_nil)) pe_int (nomark _))
        (pss_one ps_never)
        pss_nil)
      (pss_cons (ps_if (pt_cmpR op_gt (pe_callB (lenK (K := K)) (by rfl) B.len PySem.boot_len (pa_cons (pv 0) pa_nil)) (pe_const (by rfl) c_MOST_PEOPLE) (nomark _))
        (pss_one ps_never)
        pss_nil)
      (pss_cons (ps_set (i := 1) sc_check_bids.nd rfl (Or.inl rfl) (pe_callB (lenK (K := K)) (by rfl) B.len PySem.boot_len (pa_cons (pe_ix (ixL (K := K)) (pv 0) pe_int (fun _ _ => rfl)) pa_nil)))
      (pss_cons (ps_if (pt_cmpR op_gt (pv 1) (pe_const (by rfl) c_MOST_GOODS) (nomark _))
        (pss_one ps_never)
        pss_nil)
      (pss_one (ps_for PassesOwn.never rfl (pi_listK (K := K) (pv 0)) (pg_name (i := 2) sc_check_bids.nd rfl (Or.inl rfl))
        (pss_one (ps_expr (pe_ok h_check_line hr (by rfl) pass0 (pa_cons (pv 2) (pa_cons (pv 1) pa_nil))))))))))), ?_⟩)
  obtain ⟨x, rfl, a, rows, m, rfl, hA, hb, q⟩ := h
  have ll : (iv rows).length = rows.length := List.length_map _
  have h9 := hb.l9
  have h1 := hb.ne
  have h40 := hb.m40
  refine q_when (b := false) (et_is (et_test (ev_op (ev_lenLL hA (ev_var rfl)) ev_c (rv_eq rfl))) (by rw [ll]; exact decide_eq_false fun z => by have := V.int.inj z; omega)) (fun h => nomatch h) fun _ H1 e1 => ?_
  refine q_when (b := false) (et_is (et_test (ev_op (ev_lenLL (hA.mono e1) (ev_var rfl)) ev_c rv_I0)) (by rw [ll]; exact decide_eq_false (by omega))) (fun h => nomatch h) fun _ H2 e2 => ?_
  have hA2 := hA.mono (e1.trans e2)
  obtain ⟨q0, hq0, hs0⟩ := ev_row (σ := [some (.ref a), none, none]) (ta := tVar 0) (tb := tC (.int 0)) (i := 0) hA2 h1 (ev_var rfl) ev_c
  refine q_asg (v := .int m) (ev_is (ev_lenI hs0 hq0) (by rw [hb.at_ h1])) fun H3 e3 => ?_
  refine q_when (b := false) (et_is (et_test (ev_op (ev_var rfl) ev_c rv_I0)) (decide_eq_false (by omega))) (fun h => nomatch h) fun _ H4 e4 => ?_
  have e14 := ((e1.trans e2).trans e3).trans e4
  obtain ⟨ps, hps, hpl, hpa⟩ := hA
  refine s_forLn (ev_var rfl) (ex_l e14 hps) (fun i σ H' => ∃ z, σ = [some (.ref a), some (.int m), z] ∧ Ex H H') (fun H2 e2 => ⟨none, rfl, e14.trans e2⟩) (fun i σ' H' _ h => by obtain ⟨z, _, e⟩ := h; exact ex_l e hps) ?_ ?_
  · rintro i x σ' H' hi ⟨z, rfl, e⟩
    rw [List.getElem?_map] at hi
    cases ei : ps[i]? with
    | none =>
      rw [ei] at hi
      cases hi
    | some p =>
      rw [ei] at hi
      obtain rfl : V.ref p = x := Option.some.inj hi
      have hil : i < rows.length := by
        have := (List.getElem?_eq_some_iff.mp ei).1
        omega
      have hs := hpa i p _ ei (by rw [List.getElem?_map, List.getElem?_eq_getElem hil]; rfl)
      have hmem := List.getElem_mem hil
      exact s_drop (v := .non) (ev_call (ea_cons (ev_var rfl) (ea_cons (ev_var rfl) ea_nil)) fun H5 e5 Q q E => ⟨_, _, rfl, p, rows[i], m, rfl, rfl, ex_l (e.trans e5) hs, ⟨by rw [hb.len _ hmem], hb.ok _ hmem⟩, fun H6 e6 => q H6 e6⟩) fun H5 e5 => ⟨_, rfl, e.trans e5⟩
  · rintro σ' H' ⟨z, rfl, e⟩
    exact q H' e
end
/-! ### shown -/
abbrev s_shown : Stmt := topS 17
theorem sc_shown : FnScope ["bids", "row", "bid"] ["bids"] (defScope s_shown) := ⟨rfl, rfl, rfl, by decide +kernel, rfl, by decide +kernel, by decide +kernel⟩
def sp_shown (K : PySem.W.Frag) : Sp := sp1 fun x H Q => ∃ (a : Addr) (rows : List (List Int)) (m : Nat), x = .ref a ∧ LL K H a rows ∧ Bids rows m ∧ RetV (.str (shownS rows)) H Q
section
variable {P : Program} {w : World} {K : PySem.W.Frag} {mg : Str → Option Value} {base : Heap}
theorem ok_shown (D : DnX K mg "shown" s_shown ["bids"]) (B : Bt mg) (h_check_bids : Ok P w K mg base CX0 4 "check_bids" ["bids"] (sp_check_bids K)) : Ok P w K mg base CX0 5 "shown" ["bids"] (sp_shown K) := by
  refine ok_of D sc_shown (fun vs H Q E h => by obtain ⟨_, rfl, _⟩ := h; rfl) (fun f cdv A outer s H vs Q E hr h => ⟨_, (pss_cons (ps_expr (pe_ok h_check_bids hr (by rfl) pass0 (pa_cons (pv 0) pa_nil)))
      (pss_one (ps_ret (pe_joinK (K := K) pe_str (pe_lc (own := [("row", 1)]) rfl sc_shown.nd  (pi_listK (K := K) (pv 0)) (blkOk_by (own := [("row", 1)]) (N := ["bids", "row", "bid"]) (sc := (defScope s_shown)) (by decide +kernel)) (fun _ _ _ _ _ => (pg_name (i := 1) sc_shown.nd rfl (Or.inl rfl))) (fun _ _ _ _ _ => pts_nil) (fun _ _ _ _ _ => (pe_op op_add_str (pe_joinK (K := K) pe_str (pe_lc (own := [("bid", 2)]) rfl sc_shown.nd  (pi_listK (K := K) (pv 1)) (blkOk_by (own := [("bid", 2)]) (N := ["bids", "row", "bid"]) (sc := ({ kind := PySem.ScopeKind.function, names := [(PySem.Str.ofString ".0", PySem.NameKind.local), (PySem.Str.ofString "row", PySem.NameKind.local)], isGenerator := false, isCoroutine := false, more := [] : PySem.Scope } : Scope)) (by decide +kernel)) (fun _ _ _ _ _ => (pg_name (i := 2) sc_shown.nd rfl (Or.inl rfl))) (fun _ _ _ _ _ => pts_nil) (fun _ _ _ _ _ => (pe_callTy call_str_int (by rfl) B.str (by decide +kernel) (pa_cons (pv 2) pa_nil))))) pe_str))))))), ?_⟩)
  obtain ⟨x, rfl, a, rows, m, rfl, hA, hb, q⟩ := h
  refine q_drop (v := .non) (ev_call (ea_cons (ev_var rfl) ea_nil) fun H2 e2 Q q E => ⟨_, rfl, a, rows, m, rfl, hA.mono e2, hb, fun H3 e3 => q H3 e3⟩) fun H1 e1 => ?_
  exact s_ret (ev_shown (hA.mono e1) hb (fun x y z h => (List.cons.inj h).1.symm) rfl) fun H2 e2 => q H2 (e1.trans e2)
end
/-! ### is_written -/
abbrev s_is_written : Stmt := topS 20
theorem sc_is_written : FnScope ["word"] ["word"] (defScope s_is_written) := ⟨rfl, rfl, rfl, by decide +kernel, rfl, by decide +kernel, by decide +kernel⟩
def sp_is_written (K : PySem.W.Frag) : Sp := sp1 fun x H Q => ∃ w : Str, x = .str w ∧ w.length ≤ 50000 ∧ RetV (.bl (writtenB (tl w))) H Q
theorem str_eq {x y : Str} : decide (V.str x = V.str y) = decide (tl x = tl y) := decide_eq_decide.mpr ⟨fun h => by rw [V.str.inj h], fun h => by rw [ext_tl h]⟩
section
variable {P : Program} {w : World} {K : PySem.W.Frag} {mg : Str → Option Value} {base : Heap}
theorem ok_is_written (D : DnX K mg "is_written" s_is_written ["word"]) (B : Bt mg) (c_MOST_FIGURES : KInt mg "MOST_FIGURES" 13) : Ok P w K mg base CX0 1 "is_written" ["word"] (sp_is_written K) := by
  refine ok_of D sc_is_written (fun vs H Q E h => by obtain ⟨_, rfl, _⟩ := h; rfl) (fun f cdv A outer s H vs Q E hr h => ⟨_, (pss_cons (ps_if (pt_not (PW.pt (pw_and (pt_val (pe_m0 PySem.F.slot_str_isascii PySem.F.type_str_isascii mt_isascii (pv 0))) (pw_and1 (pt_val (pe_m0 PySem.F.slot_str_isdigit PySem.F.type_str_isdigit mt_isdigit (pv 0)))))))
        (pss_one (ps_ret pe_bl))
        pss_nil)
      (pss_cons (ps_if (pt_cmpR op_gt (pe_callB call_len_str (by rfl) B.len PySem.boot_len (pa_cons (pv 0) pa_nil)) (pe_const (by rfl) c_MOST_FIGURES) (nomark _))
        (pss_one (ps_ret pe_bl))
        pss_nil)
      (pss_one (ps_ret (pe_or (pe_cmpR op_eq (pv 0) pe_str (nomark _)) (pe_one (pe_not (pe_m1 PySem.F.slot_str_startswith PySem.F.type_str_startswith mt_startswith (pv 0) pe_str)))))))), ?_⟩)
  obtain ⟨x, rfl, w, rfl, hz, q⟩ := h
  have hd := dig_txt w
  refine q_when (b := !(Txt.isascii w && Txt.isdigit w)) (et_not (et_and (et_B (ev_m0 (ev_var rfl) fun H1 Q q => ⟨w, rfl, rfl, trivial, q⟩)) fun _ => et_B (ev_m0 (ev_var rfl) fun H1 Q q => ⟨w, rfl, rfl, trivial, q⟩))) (fun h H1 e1 => ?_) fun h H1 e1 => ?_
  · refine s_ret ev_c fun H2 e2 => ?_
    have e : writtenB (tl w) = false := by
      unfold writtenB
      rw [← hd]
      cases z : (Txt.isascii w && Txt.isdigit w) with
      | false => rfl
      | true =>
        rw [z] at h
        cases h
    rw [e] at q
    exact q H2 (e1.trans e2)
  have hdig : (Txt.isascii w && Txt.isdigit w) = true := by
    cases z : (Txt.isascii w && Txt.isdigit w) with
    | true => rfl
    | false =>
      rw [z] at h
      cases h
  rw [hd] at hdig
  refine q_when (et_test (ev_op (ev_lenS (ev_var rfl) (by omega)) ev_c rv_I0)) (fun h H2 e2 => ?_) fun h H2 e2 => ?_
  · have h := of_decide_eq_true h
    rw [len_tl] at h
    refine s_ret ev_c fun H3 e3 => ?_
    have e : writtenB (tl w) = false := by
      unfold writtenB
      rw [decide_eq_false (show ¬ (tl w).length ≤ 13 by omega), Bool.and_false, Bool.false_and]
    rw [e] at q
    exact q H3 ((e1.trans e2).trans e3)
  have h := of_decide_eq_false h
  rw [len_tl] at h
  have e : writtenB (tl w) = (decide (V.str w = V.str "0") || !Txt.startswith w "0") := by
    unfold writtenB
    have e0 : Txt.startswith w "0" = decide ((tl w).head? = some 48) := starts1 w 48
    rw [hdig, decide_eq_true (show (tl w).length ≤ 13 by omega), str_eq, e0]
    rfl
  rw [e] at q
  exact s_ret (ev_orV (ev_op (ev_var rfl) ev_c (rv_eq rfl)) fun _ => ev_notV (ev_m1 (ev_var rfl) ev_c fun H1 Q q => ⟨_, _, rfl, rfl, q⟩)) fun H3 e3 => q H3 ((e1.trans e2).trans e3)
end
/-! ### numbers -/
abbrev s_numbers : Stmt := topS 19
theorem sc_numbers : FnScope ["line", "words", "word"] ["line"] (defScope s_numbers) := ⟨rfl, rfl, rfl, by decide +kernel, rfl, by decide +kernel, by decide +kernel⟩
theorem split_len {w y : Str} (hy : tl y = [32] ∨ tl y = [10]) : (Txt.split w y).length ≤ (tl w).length + 1 := by
  have key : ∀ (s : Nat) (l acc : List Nat), (spl [s] 0 acc l).length ≤ l.length + 1 := by
    intro s l
    induction l with
    | nil => intro acc; rw [spl_nil]; exact Nat.le_refl _
    | cons c r ih =>
      intro acc
      cases h : pre [s] (c :: r) with
      | true =>
        rw [spl_hit h]
        have := ih []
        show (spl [s] 0 [] r).length + 1 ≤ _
        rw [List.length_cons]
        omega
      | false =>
        rw [spl_miss h]
        have := ih (acc ++ [c])
        rw [List.length_cons]
        omega
  have hk : y.cps.all (· < 256) = true := by
    show _ = _
    rw [← Array.all_toList]
    rcases hy with h | h
    · have h : y.cps.toList = [32] := h
      rw [h]
      rfl
    · have h : y.cps.toList = [10] := h
      rw [h]
      rfl
  have := congrArg List.length (split_spl w y (by rcases hy with h | h <;> rw [h] <;> simp) (kind_ok hk))
  rw [List.length_map] at this
  rw [this]
  rcases hy with h | h <;> rw [h] <;> exact key _ _ _
theorem split_tl {w : Str} : (Txt.split w " ").map tl = spl [32] 0 [] (tl w) := split_spl w " " (by show ([32] : List Nat) ≠ []; simp) (kind_ok (by decide +kernel))
theorem split_nl {w : Str} : (Txt.split w "\n").map tl = spl [10] 0 [] (tl w) := split_spl w "\n" (by show ([10] : List Nat) ≠ []; simp) (kind_ok (by decide +kernel))
theorem spl_short (s : Nat) : ∀ (l acc : List Nat) (p : List Nat), p ∈ spl [s] 0 acc l → p.length ≤ acc.length + l.length
  | [], acc, p, h => by
    rw [spl_nil] at h
    rw [List.mem_singleton.mp h]
    exact Nat.le_add_right _ _
  | c :: r, acc, p, h => by
    cases e : pre [s] (c :: r) with
    | true =>
      rw [spl_hit e] at h
      rcases List.mem_cons.mp h with rfl | h
      · exact Nat.le_add_right _ _
      · have := spl_short s r [] p h
        rw [List.length_cons]
        have : p.length ≤ 0 + r.length := this
        omega
    | false =>
      rw [spl_miss e] at h
      have := spl_short s r (acc ++ [c]) p h
      rw [List.length_append] at this
      rw [List.length_cons]
      have : p.length ≤ acc.length + 1 + r.length := this
      omega
theorem word_int {w : Str} (h : writtenB (tl w) = true) : intText? w = some ((NumText.digitsVal (tl w) : Nat) : Int) ∧ w.length ≤ 640 := by
  unfold writtenB at h
  rw [Bool.and_eq_true, Bool.and_eq_true, Bool.and_eq_true] at h
  obtain ⟨⟨⟨h1, h2⟩, h3⟩, _⟩ := h
  have h3 := of_decide_eq_true h3
  have hl : w.length ≤ 13 := by rw [len_tl]; exact h3
  exact ⟨intText_digits (fun c hc => of_decide_eq_true (List.all_eq_true.mp h2 c hc)) (of_decide_eq_true h1) (by omega), by omega⟩
/-- words of a line, to be looked at -/
theorem ev_written {K : PySem.W.Frag} {σ : L2.St} {H : Hp} {a : Addr} {ws : List Str} {r : Sp} (hr : ∀ (w : Str) H1 (Q : VK), w.length ≤ 50000 → RetV (.bl (writtenB (tl w))) H1 Q → ∀ E, r [.str w] H1 Q E) (h0 : ∃ x z, σ = [x, some (.ref a), z]) (hA : SqL K H a (ws.map V.str)) (hz : ws.length ≤ 40000) (hw : ∀ w ∈ ws, w.length ≤ 50000) :
    Ev (tCB (rAll K) (tCons (tLc (iList K (tVar 1)) (gName 2) tYes (tCall r [] E0 (tCons (tVar 2) tNil)) [2]) tNil)) σ H (.bl ((ws.map tl).all writtenB)) := fun H1 e1 Q q => by
  obtain ⟨x, z, rfl⟩ := h0
  refine g_cb1 (el_all (K := K) (xs := ws) (enc := V.str) (fun w => .bl (writtenB (tl w))) (ev_var rfl) (ex_l e1 hA) hz (fun _ => rfl) (fun w hm H2 e2 => ev_call (ea_cons (ev_var rfl) ea_nil) fun H3 e3 Q q E => hr w H3 Q (hw w hm) (fun H4 e4 => q H4 e4) E) H1 (Ex.refl _) _ fun p H2 hp e2 h2 => ?_)
  refine ⟨p, ws.map fun w => writtenB (tl w), rfl, ?_, ?_⟩
  · rw [List.map_map]
    exact sq_of h2
  · have e : ((ws.map fun w => writtenB (tl w)).all id) = ((ws.map tl).all writtenB) := by
      rw [List.all_map, List.all_map]
      rfl
    rw [e]
    exact q H2 e2
theorem el_ints {K : PySem.W.Frag} {σ : L2.St} {H : Hp} {a : Addr} {ws : List Str} (h0 : ∃ x z, σ = [x, some (.ref a), z]) (hA : SqL K H a (ws.map V.str)) (hz : ws.length ≤ 40000) (hw : ∀ w ∈ ws, writtenB (tl w) = true) :
    EvL (tLc (iList K (tVar 1)) (gName 2) tYes (tCB (fun xs H Q => ∃ a n, xs = [.str a] ∧ intText? a = some n ∧ a.length ≤ 640 ∧ Q (.int n) H) (tCons (tVar 2) tNil)) [2]) σ H (((ws.map tl).map fun p => ((NumText.digitsVal p : Nat) : Int)).map V.int) := by
  obtain ⟨x, z, rfl⟩ := h0
  rw [List.map_map, List.map_map]
  refine el_all (K := K) (xs := ws) (enc := V.str) (fun w => .int ((NumText.digitsVal (tl w) : Nat) : Int)) (ev_var rfl) hA hz (fun _ => rfl) (fun w hm H2 e2 => ev_cb (ea_cons (ev_var rfl) ea_nil) fun H3 e3 Q q => ⟨w, _, rfl, (word_int (hw w hm)).1, (word_int (hw w hm)).2, q H3 (Ex.refl _)⟩)
def sp_numbers (K : PySem.W.Frag) : Sp := sp1 fun x H Q => ∃ (w : Str) (ns : List Int), x = .str w ∧ w.length ≤ 20000 ∧ lineNs (tl w) = some ns ∧ RetL (ns.map V.int) H Q
section
variable {P : Program} {w : World} {K : PySem.W.Frag} {mg : Str → Option Value} {base : Heap}
theorem ok_numbers (D : DnX K mg "numbers" s_numbers ["line"]) (B : Bt mg) (h_is_written : Ok P w K mg base CX0 1 "is_written" ["word"] (sp_is_written K)) : Ok P w K mg base CX0 2 "numbers" ["line"] (sp_numbers K) := by
  refine ok_of D sc_numbers (fun vs H Q E h => by obtain ⟨_, rfl, _⟩ := h; rfl) (fun f cdv A outer s H vs Q E hr h => ⟨_, (pss_cons (ps_if (pt_cmpR op_eq (pv 0) pe_str (nomark _))
        (pss_one (ps_ret (pe_lst pa_nil)))
        pss_nil)
      (pss_cons (ps_set (i := 1) sc_numbers.nd rfl (Or.inl rfl) (pe_split (pv 0) pe_str))
      (pss_cons (ps_if (pt_not (pt_val (pe_callB (allK (K := K) rfl) (by rfl) B.all (by decide +kernel) (pa_cons (pe_lc (own := [("word", 2)]) rfl sc_numbers.nd  (pi_listK (K := K) (pv 1)) (blkOk_by (own := [("word", 2)]) (N := ["line", "words", "word"]) (sc := (defScope s_numbers)) (by decide +kernel)) (fun _ _ _ _ _ => (pg_name (i := 2) sc_numbers.nd rfl (Or.inl rfl))) (fun _ _ _ _ _ => pts_nil) (fun _ _ _ _ _ => (pe_ok h_is_written hr (by rfl) pass0 (pa_cons (pv 2) pa_nil)))) pa_nil))))
        (pss_one ps_never)
        pss_nil)
      (pss_one (ps_ret (pe_lc (own := [("word", 2)]) rfl sc_numbers.nd  (pi_listK (K := K) (pv 1)) (blkOk_by (own := [("word", 2)]) (N := ["line", "words", "word"]) (sc := (defScope s_numbers)) (by decide +kernel)) (fun _ _ _ _ _ => (pg_name (i := 2) sc_numbers.nd rfl (Or.inl rfl))) (fun _ _ _ _ _ => pts_nil) (fun _ _ _ _ _ => (pe_callTy call_int_str (by rfl) B.int (by decide +kernel) (pa_cons (pv 2) pa_nil))))))))), ?_⟩)
  obtain ⟨x, rfl, w, ns, rfl, hz, hn, q⟩ := h
  unfold lineNs at hn
  refine q_when (et_test (ev_op (ev_var rfl) ev_c (rv_eq rfl))) (fun h H1 e1 => ?_) fun h H1 e1 => ?_
  · rw [str_eq] at h
    rw [if_pos (show tl w = [] from of_decide_eq_true h)] at hn
    obtain rfl := Option.some.inj hn
    exact s_retL (el_lst ea_nil (by decide)) fun p H2 hp e2 h2 => q p H2 (fresh_back e1 hp) (e1.trans e2) h2
  rw [str_eq] at h
  rw [if_neg (show ¬ tl w = [] from of_decide_eq_false h)] at hn
  have hlw : (tl w).length ≤ 20000 := by rw [← len_tl]; exact hz
  refine q_set ⟨_, rfl, ⟨w, rfl⟩, w, " ", rfl, rfl, rfl, sz_of (by omega), fun a ha => ?_⟩
  have x1 := Ex.new (o := .lst ((Txt.split w " ").map V.str)) ha
  have hA : SqL K (upd H1 a (.lst ((Txt.split w " ").map V.str))) a ((Txt.split w " ").map V.str) := sq_of upd_same
  generalize upd H1 a (.lst ((Txt.split w " ").map V.str)) = H2 at x1 hA
  have hsl : (Txt.split w " ").length ≤ 20001 := by
    have := split_len (w := w) (y := " ") (.inl rfl)
    omega
  have hst := split_tl (w := w)
  have hsh : ∀ u ∈ Txt.split w " ", u.length ≤ 50000 := fun u hu => by
    have := spl_short 32 (tl w) [] (tl u) (by rw [← hst]; exact List.mem_map.mpr ⟨u, hu, rfl⟩)
    rw [len_tl]
    have : (tl u).length ≤ 0 + (tl w).length := this
    omega
  generalize Txt.split w " " = ws at hA hsl hst hsh
  rw [← hst] at hn
  have hall : (ws.map tl).all writtenB = true := by
    cases z : (ws.map tl).all writtenB with
    | true => rfl
    | false =>
      rw [z] at hn
      cases hn
  rw [if_pos hall] at hn
  obtain rfl := Option.some.inj hn
  refine q_when (b := false) (et_is (et_not (et_B (ev_written (fun w H1 Q hw q E => ⟨_, rfl, w, rfl, hw, q⟩) ⟨_, _, rfl⟩ hA (by omega) hsh))) (by rw [hall]; rfl)) (fun h => nomatch h) fun _ H3 e3 => ?_
  refine s_retL (el_ints ⟨_, _, rfl⟩ (ex_l e3 hA) (by omega) fun u hu => List.all_eq_true.mp hall _ (List.mem_map.mpr ⟨u, hu, rfl⟩)) fun p H4 hp e4 h4 => q p H4 (fresh_back ((e1.trans x1).trans e3) hp) (((e1.trans x1).trans e3).trans e4) h4
end
/-! ### read -/
abbrev s_read : Stmt := topS 18
theorem sc_read : FnScope ["text", "lines", "bids", "line"] ["text"] (defScope s_read) := ⟨rfl, rfl, rfl, by decide +kernel, rfl, by decide +kernel, by decide +kernel⟩
def sp_read (K : PySem.W.Frag) : Sp := sp1 fun x H Q => ∃ (w : Str) (rows : List (List Int)) (m : Nat), x = .str w ∧ w.length ≤ 20000 ∧ tl w = shownL rows ∧ Bids rows m ∧ ∀ p ps H2, LNew H H2 p ps (iv rows) → Ex H H2 → Q (.ref p) H2
section
variable {P : Program} {w : World} {K : PySem.W.Frag} {mg : Str → Option Value} {base : Heap}
theorem ok_read (D : DnX K mg "read" s_read ["text"]) (B : Bt mg) (h_check_bids : Ok P w K mg base CX0 4 "check_bids" ["bids"] (sp_check_bids K)) (h_numbers : Ok P w K mg base CX0 2 "numbers" ["line"] (sp_numbers K)) : Ok P w K mg base CX0 5 "read" ["text"] (sp_read K) := by
  refine ok_of D sc_read (fun vs H Q E h => by obtain ⟨_, rfl, _⟩ := h; rfl) (fun f cdv A outer s H vs Q E hr h => ⟨_, (pss_cons (ps_if (PW.pt (pw_and (pt_cmpR op_ne (pv 0) pe_str (nomark _)) (pw_and1 (pt_not (pt_val (pe_m1 PySem.F.slot_str_endswith PySem.F.type_str_endswith mt_endswith (pv 0) pe_str))))))
        (pss_one ps_never)
        pss_nil)
      (pss_cons (ps_set (i := 1) sc_read.nd rfl (Or.inl rfl) (pe_slice (slK (K := K)) (pe_split (pv 0) pe_str) po_none (po_some (pe_un un_neg pe_int))))
      (pss_cons (ps_setLc (own := [("line", 3)]) (i := 2) rfl sc_read.nd rfl rfl (sw_true rfl rfl rfl (by decide +kernel))  (pi_listK (K := K) (pv 1)) (blkOk_by (own := [("line", 3)]) (N := ["text", "lines", "bids", "line"]) (sc := (defScope s_read)) (by decide +kernel)) (fun _ _ _ _ _ => (pg_name (i := 3) sc_read.nd rfl (Or.inl rfl))) (fun _ _ _ _ _ => pts_nil) (fun _ _ _ _ _ => (pe_ok h_numbers (hr.mono (by decide)) (by rfl) pass0 (pa_cons (pv 3) pa_nil))))
      (pss_cons (ps_expr (pe_ok h_check_bids hr (by rfl) pass0 (pa_cons (pv 2) pa_nil)))
      (pss_one (ps_ret (pv 2))))))), ?_⟩)
  obtain ⟨x, rfl, w, rows, m, rfl, hz, hw, hb, q⟩ := h
  have l9 := hb.l9
  have hne : rows ≠ [] := fun z => by
    have := hb.ne
    rw [z] at this
    exact Nat.lt_irrefl _ this
  have hlast : Txt.endswith w "\n" = true := by
    have e0 : Txt.endswith w "\n" = decide ((tl w).getLast? = some 10) := ends1 w 10
    rw [e0, hw, last_shownL hne]
    exact decide_eq_true rfl
  refine q_when (b := false) (et_is (et_and (a := !decide (V.str w = V.str "")) (b := false) (et_test (ev_op (ev_var rfl) ev_c (rv_ne rfl))) fun _ => et_is (et_not (et_B (ev_m1 (ev_var rfl) ev_c fun H1 Q q => ⟨_, _, rfl, rfl, q⟩))) (by rw [hlast]; rfl)) (Bool.and_false _)) (fun h => nomatch h) fun _ H1 e1 => ?_
  have hlw : (tl w).length ≤ 20000 := by rw [← len_tl]; exact hz
  have hst := split_nl (w := w)
  have hsh : ∀ u ∈ Txt.split w "\n", u.length ≤ 20000 := fun u hu => by
    have := spl_short 10 (tl w) [] (tl u) (by rw [← hst]; exact List.mem_map.mpr ⟨u, hu, rfl⟩)
    rw [len_tl]
    have : (tl u).length ≤ 0 + (tl w).length := this
    omega
  rw [hw, lines_shownL] at hst
  refine q_asgL (xs := ((Txt.split w "\n").dropLast).map V.str) ?_ fun a H2 ha e2 hA => ?_
  · have h := el_slN (K := K) (σ := [some (.str w), none, none, none]) (H := H1) (te := tM1 (fun x xs H Q => ∃ a b, x = .str a ∧ xs = [.str b] ∧ (b.length == 0) = false ∧ a.length + 2 ≤ sizeLine ∧ rNewStrs (Txt.split a b) H Q) (tVar 0) (tC (.str "\n"))) (xs := (Txt.split w "\n").map V.str) (lo := none) (hi := some (-1)) (tlo := tNoPart) (thi := tPart (tUn (rU fun i => .int (-i)) (tC (.int 1)))) (fun H2 e2 Q q => ⟨_, rfl, ⟨w, rfl⟩, w, "\n", rfl, rfl, rfl, sz_of (by omega), fun a ha => q a _ ha (Ex.new ha) upd_same⟩) eo_none (eo_some (ev_un ev_c ru_neg))
    rw [cut_last] at h
    rw [List.map_dropLast]
    exact h
  have hlines : ((Txt.split w "\n").dropLast).map tl = rows.map rowL := by
    rw [List.map_dropLast, hst, List.dropLast_concat]
  have hsh2 : ∀ u ∈ (Txt.split w "\n").dropLast, u.length ≤ 20000 := fun u hu => hsh u ((List.dropLast_sublist _).subset hu)
  generalize (Txt.split w "\n").dropLast = ls at hA hlines hsh2
  have hll : ls.length = rows.length := by
    have := congrArg List.length hlines
    rw [List.length_map, List.length_map] at this
    exact this
  refine q_asgN (ys := iv rows) (en_ys (xs := ls) (enc := V.str) (ev_var rfl) (sq_of hA) (by omega) (by rw [List.length_map, hll]) (fun _ => rfl) fun i u y H3 hi hy e3 => ?_) fun bp bs H3 Lb e3 => ?_
  · have hil : i < rows.length := by
      have := (List.getElem?_eq_some_iff.mp hi).1
      omega
    have ey : rows[i].map V.int = y := by
      rw [List.getElem?_map, List.getElem?_eq_getElem hil] at hy
      exact Option.some.inj hy
    rw [← ey]
    have eu : tl u = rowL rows[i] := by
      have h1 : (ls.map tl)[i]? = some (tl u) := by rw [List.getElem?_map, hi]; rfl
      rw [hlines, List.getElem?_map, List.getElem?_eq_getElem hil] at h1
      exact (Option.some.inj h1).symm
    exact el_call (ea_cons (ev_var rfl) ea_nil) fun H4 e4 Q q E => ⟨_, rfl, u, rows[i], rfl, hsh2 u (List.mem_of_getElem? hi), by rw [eu]; exact nums_rowL (hb.ok _ (List.getElem_mem hil)), fun p H5 hp e5 h5 => q p H5 hp e5 h5⟩
  refine q_drop (v := .non) (ev_call (ea_cons (ev_var rfl) ea_nil) fun H4 e4 Q q E => ⟨_, rfl, bp, rows, m, rfl, (Lb.ext e4).lv, hb, fun H5 e5 => q H5 e5⟩) fun H4 e4 => ?_
  exact s_ret (ev_var rfl) fun H5 e5 => q bp bs H5 (((Lb.back (e1.trans e2)).ext e4).ext e5) (((e1.trans e2).trans e3).trans (e4.trans e5))
end
/-! ### _law_whole -/
abbrev s__law_whole : Stmt := topS 22
theorem sc__law_whole : FnScope ["_law_found"] ["_law_found"] (defScope s__law_whole) := ⟨rfl, rfl, rfl, by decide +kernel, rfl, by decide +kernel, by decide +kernel⟩
def sp__law_whole (K : PySem.W.Frag) : Sp := spWhole
section
variable {P : Program} {w : World} {K : PySem.W.Frag} {mg : Str → Option Value} {base : Heap}
theorem ok__law_whole (D : DnX K mg "_law_whole" s__law_whole ["_law_found"]) (B : Bt mg) : Ok P w K mg base CX0 1 "_law_whole" ["_law_found"] (sp__law_whole K) := by
  refine ok_of D sc__law_whole (fun vs H Q E h => by obtain ⟨_, rfl, _⟩ := h; rfl) (fun f cdv A outer s H vs Q E hr h => ⟨_, (pss_one (ps_ret (pe_and (pe_callB (isiK (K := K)) (by rfl) B.isinstance (by decide +kernel) (pa_cons (pv 0) (pa_cons (pe_bltn (v := .ty "int") (by rfl) B.int (by decide +kernel) rfl) pa_nil))) (pe_one (pe_not (pe_callB (isiK (K := K)) (by rfl) B.isinstance (by decide +kernel) (pa_cons (pv 0) (pa_cons (pe_bltn (v := .ty "bool") (by rfl) B.bool (by decide +kernel) rfl) pa_nil)))))))), ?_⟩)
  obtain ⟨x, rfl, ha, q⟩ := h
  exact rd_whole ha q fun Q q => ⟨x, rfl, q⟩
end
/-! ### _law_cell -/
abbrev s__law_cell : Stmt := topS 23
theorem sc__law_cell : FnScope ["_law_script", "_law_k"] ["_law_script", "_law_k"] (defScope s__law_cell) := ⟨rfl, rfl, rfl, by decide +kernel, rfl, by decide +kernel, by decide +kernel⟩
/-- a cell of the script -/
def cellM (ns : List Int) (k : Int) : Int :=
  if k < ns.length then ns.getD k.toNat 0 else if ns.length = 0 then k * 7919 else (ns.getD (k * 7 % ns.length).toNat 0 * 48271 + k * 7919) % 2147483647
def sp__law_cell (K : PySem.W.Frag) : Sp := sp2 fun x y H Q => ∃ (a : Addr) (ns : List Int) (k : Int), x = .ref a ∧ y = .int k ∧ SqL K H a (ns.map V.int) ∧ 0 ≤ k ∧ Q (.int (cellM ns k)) H
theorem ev_cell {K : PySem.W.Frag} {σ : L2.St} {H : Hp} {a : Addr} {ns : List Int} {tk : TE} {k : Int} (h0 : σ[0]? = some (some (.ref a))) (hS : SqL K H a (ns.map V.int)) (hk : Ev tk σ H (.int k)) (k0 : 0 ≤ k) :
    Ev (tCall (sp__law_cell K) [] E0 (tCons (tVar 0) (tCons tk tNil))) σ H (.int (cellM ns k)) :=
  ev_call (ea_cons (ev_var h0) (ea_cons hk ea_nil)) fun H1 e Q q E => ⟨_, _, rfl, a, ns, k, rfl, rfl, ex_l e hS, k0, q H1 (Ex.refl H1)⟩
section
variable {P : Program} {w : World} {K : PySem.W.Frag} {mg : Str → Option Value} {base : Heap}
theorem ok__law_cell (D : DnX K mg "_law_cell" s__law_cell ["_law_script", "_law_k"]) (B : Bt mg) : Ok P w K mg base CX0 1 "_law_cell" ["_law_script", "_law_k"] (sp__law_cell K) := by
  refine ok_of D sc__law_cell (fun vs H Q E h => by obtain ⟨_, _, rfl, _⟩ := h; rfl) (fun f cdv A outer s H vs Q E hr h => ⟨_, (pss_cons (ps_if (pt_cmpR op_lt (pv 1) (pe_callB (lenK (K := K)) (by rfl) B.len PySem.boot_len (pa_cons (pv 0) pa_nil)) (nomark _))
        (pss_one (ps_ret (pe_ix (ixL (K := K)) (pv 0) (pv 1) (fun _ _ => rfl))))
        pss_nil)
      (pss_cons (ps_if (pt_cmpR op_eq (pe_callB (lenK (K := K)) (by rfl) B.len PySem.boot_len (pa_cons (pv 0) pa_nil)) pe_int (nomark _))
        (pss_one (ps_ret (pe_op op_mul (pv 1) pe_int)))
        pss_nil)
      (pss_one (ps_ret (pe_op op_mod (pe_op op_add (pe_op op_mul (pe_ix (ixL (K := K)) (pv 0) (pe_op op_mod (pe_op op_mul (pv 1) pe_int) (pe_callB (lenK (K := K)) (by rfl) B.len PySem.boot_len (pa_cons (pv 0) pa_nil))) (fun _ _ => rfl)) pe_int) (pe_op op_mul (pv 1) pe_int)) pe_int))))), ?_⟩)
  obtain ⟨x, y, rfl, a, ns, k, rfl, rfl, hS, h0, q⟩ := h
  have el : ((ns.map V.int).length : Int) = ns.length := by rw [List.length_map]
  refine ⟨_, rfl, _, rfl, a, _, rfl, .inl hS, _, _, rfl, rfl, _, rfl, ite2 (fun h => ?_) (fun h => ?_)⟩
  · have h1 : k < ns.length := by
      have := of_decide_eq_true h
      omega
    refine ⟨_, rfl, _, rfl, a, _, _, _, rfl, rfl, hS, at_ints h0 h1, ?_⟩
    rw [cellM, if_pos h1] at q
    exact q
  · have h1 : ¬ k < ns.length := fun z => h (decide_eq_true (by omega))
    refine ⟨_, rfl, a, _, rfl, .inl hS, rfl, _, rfl, ite2 (fun h => ?_) (fun h => ?_)⟩
    · have h2 : ns.length = 0 := by
        have := V.int.inj (of_decide_eq_true h)
        omega
      refine ⟨_, rfl, _, _, rfl, rfl, mulR ⟨by decide, by decide⟩, ?_⟩
      rw [cellM, if_neg h1, if_pos h2] at q
      exact q
    · have h2 : ns.length ≠ 0 := fun z => h (decide_eq_true (by rw [el, z]; rfl))
      have hp : (0 : Int) < ns.length := by omega
      have g0 : 0 ≤ k * 7 % (ns.length : Int) := Int.emod_nonneg _ (by omega)
      have g1 : k * 7 % (ns.length : Int) < ns.length := Int.emod_lt_of_pos _ hp
      refine ⟨_, rfl, _, rfl, _, _, rfl, rfl, mulR ⟨by decide, by decide⟩, _, rfl, a, _, rfl, .inl hS, _, _, rfl, rfl, (by show (0 : Int) < ((ns.map V.int).length : Int); omega), a, _, _, _, rfl, rfl, hS, (by rw [el]; exact at_ints g0 g1), ?_⟩
      refine ⟨_, _, rfl, rfl, mulR ⟨by decide, by decide⟩, _, rfl, _, _, rfl, rfl, mulR ⟨by decide, by decide⟩, _, _, rfl, rfl, _, _, rfl, rfl, (by show (0 : Int) < 2147483647; decide), ?_⟩
      rw [cellM, if_neg h1, if_neg h2] at q
      exact q
end
/-! ### _law_bid -/
abbrev s__law_bid : Stmt := topS 24
theorem sc__law_bid : FnScope ["_law_cell_here", "_law_kind"] ["_law_cell_here", "_law_kind"] (defScope s__law_bid) := ⟨rfl, rfl, rfl, by decide +kernel, rfl, by decide +kernel, by decide +kernel⟩
def bidM (c k : Int) : Int := if k = 0 then c % 3 else if k = 1 then c % 100 else if k = 2 then c % 1000000000001 else 1000000000000 - c % 3 * (c / 3 % 2 * 499999999999 + 1)
theorem bidM_nn (c k : Int) : 0 ≤ bidM c k ∧ bidM c k ≤ 1000000000000 := by
  unfold bidM
  have h3 : c % 3 = 0 ∨ c % 3 = 1 ∨ c % 3 = 2 := by omega
  split
  · omega
  · split
    · omega
    · split
      · omega
      · rcases h3 with h | h | h <;> rw [h] <;> omega
def sp__law_bid (K : PySem.W.Frag) : Sp := sp2 fun x y H Q => ∃ (c k : Int), x = .int c ∧ y = .int k ∧ Q (.int (bidM c k)) H
section
variable {P : Program} {w : World} {K : PySem.W.Frag} {mg : Str → Option Value} {base : Heap}
theorem ok__law_bid (D : DnX K mg "_law_bid" s__law_bid ["_law_cell_here", "_law_kind"]) (B : Bt mg) : Ok P w K mg base CX0 1 "_law_bid" ["_law_cell_here", "_law_kind"] (sp__law_bid K) := by
  refine ok_of D sc__law_bid (fun vs H Q E h => by obtain ⟨_, _, rfl, _⟩ := h; rfl) (fun f cdv A outer s H vs Q E hr h => ⟨_, (pss_cons (ps_if (pt_cmpR op_eq (pv 1) pe_int (nomark _))
        (pss_one (ps_ret (pe_op op_mod (pv 0) pe_int)))
        pss_nil)
      (pss_cons (ps_if (pt_cmpR op_eq (pv 1) pe_int (nomark _))
        (pss_one (ps_ret (pe_op op_mod (pv 0) pe_int)))
        pss_nil)
      (pss_cons (ps_if (pt_cmpR op_eq (pv 1) pe_int (nomark _))
        (pss_one (ps_ret (pe_op op_mod (pv 0) pe_int)))
        pss_nil)
      (pss_one (ps_ret (pe_op op_sub pe_int (pe_op op_mul (pe_op op_mod (pv 0) pe_int) (pe_op op_add (pe_op op_mul (pe_op op_mod (pe_op op_fdiv (pv 0) pe_int) pe_int) pe_int) pe_int)))))))), ?_⟩)
  obtain ⟨x, y, rfl, c, k, rfl, rfl, q⟩ := h
  refine ⟨_, rfl, rfl, _, rfl, ite2 (fun h => ?_) (fun h => ?_)⟩
  · have h1 : k = 0 := V.int.inj (of_decide_eq_true h)
    refine ⟨_, rfl, _, _, rfl, rfl, (by show (0 : Int) < 3; decide), ?_⟩
    rw [bidM, if_pos h1] at q
    exact q
  · have h1 : ¬ k = 0 := fun z => h (decide_eq_true (by rw [z]))
    refine ⟨_, rfl, rfl, _, rfl, ite2 (fun h => ?_) (fun h => ?_)⟩
    · have h2 : k = 1 := V.int.inj (of_decide_eq_true h)
      refine ⟨_, rfl, _, _, rfl, rfl, (by show (0 : Int) < 100; decide), ?_⟩
      rw [bidM, if_neg h1, if_pos h2] at q
      exact q
    · have h2 : ¬ k = 1 := fun z => h (decide_eq_true (by rw [z]))
      refine ⟨_, rfl, rfl, _, rfl, ite2 (fun h => ?_) (fun h => ?_)⟩
      · have h3 : k = 2 := V.int.inj (of_decide_eq_true h)
        refine ⟨_, rfl, _, _, rfl, rfl, (by show (0 : Int) < 1000000000001; decide), ?_⟩
        rw [bidM, if_neg h1, if_neg h2, if_pos h3] at q
        exact q
      · have h3 : ¬ k = 2 := fun z => h (decide_eq_true (by rw [z]))
        have b3 : -(2 ^ 64) < c % 3 ∧ c % 3 < 2 ^ 64 := by omega
        refine ⟨_, rfl, _, _, rfl, rfl, (by show (0 : Int) < 3; decide), _, rfl, _, _, rfl, rfl, ⟨by decide, by decide⟩, _, _, rfl, rfl, (by show (0 : Int) < 2; decide), _, _, rfl, rfl, mulR ⟨by decide, by decide⟩, _, _, rfl, rfl, _, _, rfl, rfl, mulL b3, _, _, rfl, rfl, ?_⟩
        rw [bidM, if_neg h1, if_neg h2, if_neg h3] at q
        exact q
end
/-! ### _law_bids -/
abbrev s__law_bids : Stmt := topS 25
theorem sc__law_bids : FnScope ["_law_script", "_law_first", "_law_people", "_law_goods", "_law_kind", "_law_bids_here", "_law_i", "_law_j"] ["_law_script", "_law_first", "_law_people", "_law_goods", "_law_kind"] (defScope s__law_bids) := ⟨rfl, rfl, rfl, by decide +kernel, rfl, by decide +kernel, by decide +kernel⟩
def rowM (ns : List Int) (first goods kind i : Int) (g : Nat) : List Int := (List.range g).map fun j : Nat => bidM (cellM ns (first + goods * i + j)) kind
def bidsM (ns : List Int) (first : Int) (n g : Nat) (kind : Int) : List (List Int) := (List.range n).map fun i : Nat => rowM ns first g kind i g
theorem bidsM_len (ns : List Int) (first : Int) (n g : Nat) (kind : Int) : (bidsM ns first n g kind).length = n := by simp [bidsM]
theorem bidsM_ok (ns : List Int) (first : Int) (n g : Nat) (kind : Int) (h1 : 0 < n) (h9 : n ≤ 9) (h40 : g ≤ 40) : Bids (bidsM ns first n g kind) g := by
  refine ⟨by rw [bidsM_len]; exact h1, by rw [bidsM_len]; exact h9, h40, fun r hr => ?_, fun r hr b hb => ?_⟩
  · obtain ⟨i, _, rfl⟩ := List.mem_map.mp hr
    simp [rowM]
  · obtain ⟨i, _, rfl⟩ := List.mem_map.mp hr
    obtain ⟨j, _, rfl⟩ := List.mem_map.mp hb
    exact bidM_nn _ _
def sp__law_bids (K : PySem.W.Frag) : Sp := sp5 fun x y z u v H Q => ∃ (a : Addr) (ns : List Int) (first : Int) (n g : Nat) (kind : Int), x = .ref a ∧ y = .int first ∧ z = .int n ∧ u = .int g ∧ v = .int kind ∧ SqL K H a (ns.map V.int) ∧ 0 ≤ first ∧ n ≤ 1000 ∧ g ≤ 1000 ∧
  ∀ p ps H2, LNew H H2 p ps (iv (bidsM ns first n g kind)) → Ex H H2 → Q (.ref p) H2
section
variable {P : Program} {w : World} {K : PySem.W.Frag} {mg : Str → Option Value} {base : Heap}
theorem ok__law_bids (D : DnX K mg "_law_bids" s__law_bids ["_law_script", "_law_first", "_law_people", "_law_goods", "_law_kind"]) (B : Bt mg) (h__law_bid : Ok P w K mg base CX0 1 "_law_bid" ["_law_cell_here", "_law_kind"] (sp__law_bid K)) (h__law_cell : Ok P w K mg base CX0 1 "_law_cell" ["_law_script", "_law_k"] (sp__law_cell K)) : Ok P w K mg base CX0 2 "_law_bids" ["_law_script", "_law_first", "_law_people", "_law_goods", "_law_kind"] (sp__law_bids K) := by
  refine ok_of D sc__law_bids (fun vs H Q E h => by obtain ⟨_, _, _, _, _, rfl, _⟩ := h; rfl) (fun f cdv A outer s H vs Q E hr h => ⟨_, (pss_cons (ps_set (i := 5) sc__law_bids.nd rfl (Or.inl rfl) (pe_lst pa_nil))
      (pss_cons (ps_for PassesOwn.never rfl (pi_range1 (by rfl) B.range (pa_cons (pv 2) pa_nil)) (pg_name (i := 6) sc__law_bids.nd rfl (Or.inr rfl))
        (pss_one (ps_expr (pe_bm PySem.F.plainAttrs_list PySem.F.slot_list_append PySem.F.type_list_append mt_append (pv 5) (pa_cons (pe_lc (own := [("_law_j", 7)]) rfl sc__law_bids.nd  (pi_range1 (by rfl) B.range (pa_cons (pv 3) pa_nil)) (blkOk_by (own := [("_law_j", 7)]) (N := ["_law_script", "_law_first", "_law_people", "_law_goods", "_law_kind", "_law_bids_here", "_law_i", "_law_j"]) (sc := (defScope s__law_bids)) (by decide +kernel)) (fun _ _ _ _ _ => (pg_name (i := 7) sc__law_bids.nd rfl (Or.inl rfl))) (fun _ _ _ _ _ => pts_nil) (fun _ _ _ _ _ => (pe_ok h__law_bid hr (by rfl) pass0 (pa_cons (pe_ok h__law_cell hr (by rfl) pass0 (pa_cons (pv 0) (pa_cons (pe_op op_add (pe_op op_add (pv 1) (pe_op op_mul (pv 3) (pv 6))) (pv 7)) pa_nil))) (pa_cons (pv 4) pa_nil))))) pa_nil)))))
      (pss_one (ps_ret (pv 5))))), ?_⟩)
  obtain ⟨x, y, z, u, v, rfl, a, ns, first, n, g, kind, rfl, rfl, rfl, rfl, rfl, hA, h0, hn, hg, q⟩ := h
  refine q_asgL (el_lst ea_nil (by decide)) fun l H1 hl e1 h1 => ?_
  refine q_forR1 (n := n) (ea_cons (ev_var rfl) ea_nil) ⟨by omega, by omega⟩ (fun i σ H' => ∃ (w6 : Option V) (ps : List Addr), σ = [some (.ref a), some (.int first), some (.int n), some (.int g), some (.int kind), some (.ref l), w6, none] ∧ Ex H H' ∧ LNew H H' l ps (iv (bidsM ns first i g kind))) (fun H2 e2 => ⟨none, [], rfl, e1.trans e2, hl, e2 _ _ h1, rfl, by simp, fun i q y h => by simp at h⟩) ?_ ?_
  · rintro i σ' H' hi ⟨w6, ps, rfl, e, L⟩
    have hA' := ex_l e hA
    refine s_appL (ys := (rowM ns first g kind i g).map V.int) L.top (ev_var rfl) ?_ ?_ fun p H2 hp e2 h2 => ?_
    · have hrow := el_rngA (σ := [some (.ref a), some (.int first), some (.int n), some (.int g), some (.int kind), some (.ref l), some (.int (i : Int)), none]) (H := H') (te := tCall (sp__law_bid K) [] E0 (tCons (tCall (sp__law_cell K) [] E0 (tCons (tVar 0) (tCons (tOp (rI0 fun i j => .int (i + j)) (tOp (rI0 fun i j => .int (i + j)) (tVar 1) (tOp (rI CMul fun i j => .int (i * j)) (tVar 3) (tVar 6))) (tVar 7)) tNil))) (tCons (tVar 4) tNil))) (ta := tCons (tVar 3) tNil) (j := 7) (vs := [7]) (n := g) (fun j => .int (bidM (cellM ns (first + g * i + j)) kind)) (ea_cons (ev_var rfl) ea_nil) (by omega) (fun _ => rfl) (fun j H3 e3 hj => ?_)
      · have er : (rowM ns first g kind i g).map V.int = (List.range g).map fun j : Nat => V.int (bidM (cellM ns (first + g * i + j)) kind) := by
          unfold rowM
          rw [List.map_map]
          rfl
        rw [er]
        exact hrow
      · have hk : 0 ≤ first + (g : Int) * i + j := by
          have : 0 ≤ (g : Int) * i := Int.mul_nonneg (by omega) (by omega)
          omega
        exact ev_call (ea_cons (ev_call (ea_cons (ev_var rfl) (ea_cons (ev_op (ev_op (ev_var rfl) (ev_op (ev_var rfl) (ev_var rfl) (rv_I (mulL ⟨by omega, by omega⟩))) rv_I0) (ev_var rfl) rv_I0) ea_nil)) fun H4 e4 Q q E => ⟨_, _, rfl, a, ns, _, rfl, rfl, ex_l (e3.trans e4) hA', hk, q H4 (Ex.refl H4)⟩) (ea_cons (ev_var rfl) ea_nil)) fun H4 e4 Q q E => ⟨_, _, rfl, _, _, rfl, rfl, q H4 (Ex.refl H4)⟩
    · have := L.len
      rw [List.length_map, bidsM_len] at this
      rw [List.length_map]
      omega
    · refine ⟨some (.int i), ps ++ [p], rfl, Ex.mut (e.trans e2) hl, ?_⟩
      have eb : bidsM ns first (i + 1) g kind = bidsM ns first i g kind ++ [rowM ns first g kind i g] := by
        unfold bidsM
        rw [List.range_succ, List.map_append]
        rfl
      rw [eb]
      show LNew H _ l (ps ++ [p]) (List.map _ (_ ++ _))
      rw [List.map_append]
      exact L.push e e2 hp h2
  · rintro σ' H' ⟨w6, ps, rfl, e, L⟩
    exact s_ret (ev_var rfl) fun H2 e2 => q l ps H2 (by have := L.ext e2; simpa using this) (e.trans e2)
end
/-! ### _law_figures -/
abbrev s__law_figures : Stmt := topS 26
theorem sc__law_figures : FnScope ["_law_number", "_law_word"] ["_law_number"] (defScope s__law_figures) := ⟨rfl, rfl, rfl, by decide +kernel, rfl, by decide +kernel, by decide +kernel⟩
theorem fig_at : ∀ d : Nat, d < 10 → atI ("0123456789" : Str).cps.toList (d : Int) = some (48 + d) := by decide +kernel
theorem ev_fig {σ : L2.St} {H : Hp} {te : TE} {n : Nat} (h : Ev te σ H (.int (n : Int))) : Ev (tOp rIxS (tC (.str "0123456789")) (tOp (rI (fun _ j => 0 < j) fun i j => .int (i % j)) te (tC (.int 10)))) σ H (.str ⟨#[48 + n % 10]⟩) :=
  ev_op ev_c (ev_is (ev_op h ev_c (rv_I (by show (0 : Int) < 10; decide))) (show V.int ((n : Int) % 10) = V.int ((n % 10 : Nat) : Int) by congr 1)) (rv_ixS (by decide +kernel) (fig_at _ (by omega)))
theorem numL_last (n : Nat) : numL n = (if n < 10 then [] else numL (n / 10)) ++ [48 + n % 10] := by
  by_cases h : n < 10
  · rw [if_pos h, numL_lt h, Nat.mod_eq_of_lt h]
    rfl
  · rw [if_neg h, numL_step (by omega)]
def sp__law_figures (K : PySem.W.Frag) : Sp := sp1 fun x H Q => ∃ n : Nat, x = .int (n : Int) ∧ n ≤ 1000000000000 ∧ ∀ (w : Str) H2, tl w = numL n → Ex H H2 → Q (.str w) H2
section
variable {P : Program} {w : World} {K : PySem.W.Frag} {mg : Str → Option Value} {base : Heap}
theorem ok__law_figures (D : DnX K mg "_law_figures" s__law_figures ["_law_number"]) (B : Bt mg) : Ok P w K mg base CX0 1 "_law_figures" ["_law_number"] (sp__law_figures K) := by
  refine ok_of D sc__law_figures (fun vs H Q E h => by obtain ⟨_, rfl, _⟩ := h; rfl) (fun f cdv A outer s H vs Q E hr h => ⟨_, (pss_cons (ps_set (i := 1) sc__law_figures.nd rfl (Or.inl rfl) (pe_ix ix_str pe_str (pe_op op_mod (pv 0) pe_int) (fun _ _ => rfl)))
      (pss_cons (ps_while PassesOwn.never (pt_cmpR op_gt (pv 0) pe_int (nomark _))
        (pss_cons (ps_set (i := 0) sc__law_figures.nd rfl (Or.inl rfl) (pe_op op_fdiv (pv 0) pe_int))
        (pss_one (ps_set (i := 1) sc__law_figures.nd rfl (Or.inl rfl) (pe_op op_add_str (pe_ix ix_str pe_str (pe_op op_mod (pv 0) pe_int) (fun _ _ => rfl)) (pv 1))))))
      (pss_one (ps_ret (pv 1))))), ?_⟩)
  obtain ⟨x, rfl, n, rfl, hn, q⟩ := h
  refine q_asg (ev_fig (ev_var rfl)) fun H1 e1 => ?_
  refine q_while (fun m σ H' => ∃ (c : Nat) (w : Str), m = c ∧ σ = [some (.int (c : Int)), some (.str w)] ∧ Ex H H' ∧ numL n = (if c < 10 then [] else numL (c / 10)) ++ tl w) n ⟨n, _, rfl, rfl, e1, numL_last n⟩ ?_
  rintro m σ' H' ⟨c, w, hm, rfl, ex, hw⟩
  have hln : (numL n).length ≤ 13 := numL_len (by decide) (by omega)
  have hlw : w.length ≤ 13 := by
    rw [hw, List.length_append] at hln
    rw [len_tl]
    omega
  refine ⟨decide ((9 : Int) < c), et_test (ev_op (ev_var rfl) ev_c rv_I0), fun h H2 e2 => ?_, fun h H2 e2 => ?_⟩
  · have h := of_decide_eq_true h
    have hc : ¬ c < 10 := by omega
    refine ⟨fun σ2 H2 => ∃ (w : Str), σ2 = [some (.int ((c / 10 : Nat) : Int)), some (.str w)] ∧ Ex H H2 ∧ numL n = (if c / 10 < 10 then [] else numL (c / 10 / 10)) ++ tl w, fun σ2 H3 ⟨w2, h1, h2, h3⟩ => ⟨c / 10, by omega, c / 10, w2, rfl, h1, h2, h3⟩, ?_⟩
    refine q_asg (v := .int ((c / 10 : Nat) : Int)) (ev_is (ev_op (ev_var rfl) ev_c (rv_I ⟨by decide, by decide⟩)) (by congr 1)) fun H3 e3 => ?_
    refine s_asg (ev_addS (ev_fig (ev_var rfl)) (ev_var rfl) (by show 1 + _ ≤ _; omega)) fun H4 e4 => ⟨_, rfl, ((ex.trans e2).trans e3).trans e4, ?_⟩
    rw [hw, if_neg hc, numL_last (c / 10), tl_append, List.append_assoc]
  · have h := of_decide_eq_false h
    rw [if_pos (by omega), List.nil_append] at hw
    exact s_ret (ev_var rfl) fun H3 e3 => q w H3 hw.symm ((ex.trans e2).trans e3)
end
/-! ### _law_same -/
abbrev s__law_same : Stmt := topS 27
theorem sc__law_same : FnScope ["_law_found", "_law_bids_here", "_law_row", "_law_one"] ["_law_found", "_law_bids_here"] (defScope s__law_same) := ⟨rfl, rfl, rfl, by decide +kernel, rfl, by decide +kernel, by decide +kernel⟩
def sp__law_same (K : PySem.W.Frag) : Sp := sp2 fun x y H Q => ∃ (a b : Addr) (rows : List (List Int)) (m : Nat), x = .ref a ∧ y = .ref b ∧ TV H a (iv rows) ∧ LL K H b rows ∧ Bids rows m ∧ RetV (.bl true) H Q
section
variable {P : Program} {w : World} {K : PySem.W.Frag} {mg : Str → Option Value} {base : Heap}
theorem ok__law_same (D : DnX K mg "_law_same" s__law_same ["_law_found", "_law_bids_here"]) (B : Bt mg) (h__law_whole : Ok P w K mg base CX0 1 "_law_whole" ["_law_found"] (sp__law_whole K)) : Ok P w K mg base CX0 2 "_law_same" ["_law_found", "_law_bids_here"] (sp__law_same K) := by
  refine ok_of D sc__law_same (fun vs H Q E h => by obtain ⟨_, _, rfl, _⟩ := h; rfl) (fun f cdv A outer s H vs Q E hr h => ⟨_, (pss_cons (ps_if (PW.pt (pw_or (pt_not (pt_val (pe_callB (isiK (K := K)) (by rfl) B.isinstance (by decide +kernel) (pa_cons (pv 0) (pa_cons (pe_bltn (v := .ty "list") (by rfl) B.list (by decide +kernel) rfl) pa_nil))))) (pw_or1 (pt_cmpR op_ne (pe_callB (lenK (K := K)) (by rfl) B.len PySem.boot_len (pa_cons (pv 0) pa_nil)) (pe_callB (lenK (K := K)) (by rfl) B.len PySem.boot_len (pa_cons (pv 1) pa_nil)) (nomark _)))))
        (pss_one (ps_ret pe_bl))
        pss_nil)
      (pss_cons (ps_for PassesOwn.never rfl (pi_listK (K := K) (pv 0)) (pg_name (i := 2) sc__law_same.nd rfl (Or.inl rfl))
        (pss_cons (ps_if (pt_not (pt_val (pe_callB (isiK (K := K)) (by rfl) B.isinstance (by decide +kernel) (pa_cons (pv 2) (pa_cons (pe_bltn (v := .ty "list") (by rfl) B.list (by decide +kernel) rfl) pa_nil)))))
          (pss_one (ps_ret pe_bl))
          pss_nil)
        (pss_one (ps_for PassesOwn.never rfl (pi_listK (K := K) (pv 2)) (pg_name (i := 3) sc__law_same.nd rfl (Or.inl rfl))
          (pss_one (ps_if (pt_not (pt_val (pe_ok h__law_whole hr (by rfl) pass0 (pa_cons (pv 3) pa_nil))))
            (pss_one (ps_ret pe_bl))
            pss_nil))))))
      (pss_one (ps_ret (pe_cmpR (eqK (K := K) hr.units) (pv 0) (pv 1) (nomark _)))))), ?_⟩)
  obtain ⟨x, y, rfl, a, b, rows, m, rfl, rfl, hT, hB, hb, q⟩ := h
  have ll : (iv rows).length = rows.length := List.length_map _
  have l9 := hb.l9
  have h40 := hb.m40
  obtain ⟨ps, hp, hpl, hpa⟩ := id hT
  refine q_when (b := false) (et_or (a := false) (b := false) (et_not (et_B (b := true) (ev_isList (ev_var rfl) hp))) fun _ => et_is (et_test (ev_op (ev_lenLL (hT.lv (K := K)) (ev_var rfl)) (ev_lenLL hB (ev_var rfl)) (rv_ne rfl))) (by rw [decide_eq_true rfl]; rfl)) (fun h => nomatch h) fun _ H1 e1 => ?_
  refine q_forLn (ev_var rfl) (sq_of (e1 _ _ hp)) (fun i σ H' => ∃ z2 z3, σ = [some (.ref a), some (.ref b), z2, z3] ∧ Ex H H') (fun H2 e2 => ⟨none, none, rfl, e1.trans e2⟩) (fun i σ' H' _ h => by obtain ⟨_, _, _, e⟩ := h; exact sq_of (e _ _ hp)) ?_ ?_
  · rintro i x σ' H' hi ⟨z2, z3, rfl, ex⟩
    rw [List.getElem?_map] at hi
    cases ei : ps[i]? with
    | none =>
      rw [ei] at hi
      cases hi
    | some p =>
      rw [ei] at hi
      obtain rfl : V.ref p = x := Option.some.inj hi
      have hil : i < rows.length := by
        have := (List.getElem?_eq_some_iff.mp ei).1
        omega
      have hs := hpa i p _ ei (by rw [List.getElem?_map, List.getElem?_eq_getElem hil]; rfl)
      have hlr := hb.len _ (List.getElem_mem hil)
      refine q_when (b := false) (et_not (et_B (b := true) (ev_isList (ev_var rfl) (ex _ _ hs)))) (fun h => nomatch h) fun _ H2 e2 => ?_
      refine s_forLn (ev_var rfl) (sq_of ((ex.trans e2) _ _ hs)) (fun k σ H' => ∃ z3, σ = [some (.ref a), some (.ref b), some (.ref p), z3] ∧ Ex H H') (fun H3 e3 => ⟨z3, rfl, (ex.trans e2).trans e3⟩) (fun i σ' H' _ h => by obtain ⟨_, _, e⟩ := h; exact sq_of (e _ _ hs)) ?_ ?_
      · rintro k x σ' H3 hk ⟨z3, rfl, ex3⟩
        obtain ⟨hkl, rfl⟩ := get_ints hk
        exact s_when (b := false) (et_not (et_B (b := true) (ev_call (ea_cons (ev_var rfl) ea_nil) fun H4 e4 Q q E => ⟨_, rfl, .int _, q H4 (Ex.refl _)⟩))) (fun h => nomatch h) fun _ H4 e4 => ⟨_, rfl, ex3.trans e4⟩
      · rintro σ' H3 ⟨z3, rfl, ex3⟩
        exact ⟨_, _, rfl, ex3⟩
  · rintro σ' H' ⟨z2, z3, rfl, ex⟩
    exact s_ret (ev_op (ev_var rfl) (ev_var rfl) (rv_eqS encII (by decide) (LL.dp ((hT.mono ex).lv (K := K))) (LL.dp (hB.mono ex)))) fun H2 e2 => q H2 (ex.trans e2)
end
/-! ### _law_apart -/
abbrev s__law_apart : Stmt := topS 28
theorem sc__law_apart : FnScope ["_law_rows", "_law_due", "_law_k", "_law_row"] ["_law_rows"] (defScope s__law_apart) := ⟨rfl, rfl, rfl, by decide +kernel, rfl, by decide +kernel, by decide +kernel⟩
/-- each heap with its own number behind it -/
def apartM (hs : List (List Int)) (i : Nat) : List (List Int) := (List.range hs.length).map fun k : Nat => if k < i then hs.getD k [] ++ [(k : Int)] else hs.getD k []
theorem apartM_zero (hs : List (List Int)) : apartM hs 0 = hs := by
  refine List.ext_getElem (by simp [apartM]) fun k h1 h2 => ?_
  simp [apartM, List.getD_eq_getElem?_getD, h2]
theorem apartM_len (hs : List (List Int)) (i : Nat) : (apartM hs i).length = hs.length := by simp [apartM]
theorem apartM_succ {hs : List (List Int)} {i : Nat} (hi : i < hs.length) : (apartM hs i).set i ((apartM hs i).getD i [] ++ [(i : Int)]) = apartM hs (i + 1) := by
  refine List.ext_getElem (by simp [apartM]) fun k h1 h2 => ?_
  have hk : k < hs.length := by simpa [apartM] using h2
  rw [List.getElem_set]
  by_cases e : i = k
  · subst e
    rw [if_pos rfl]
    simp [apartM, List.getD_eq_getElem?_getD, hk]
  · rw [if_neg e]
    simp only [apartM, List.getElem_map, List.getElem_range]
    by_cases h : k < i
    · rw [if_pos h, if_pos (by omega)]
    · rw [if_neg h, if_neg (by omega)]
theorem apartM_at {hs : List (List Int)} {i : Nat} (hi : i < hs.length) : (apartM hs i).getD i [] = hs.getD i [] := by
  simp [apartM, List.getD_eq_getElem?_getD, hi]
def sp__law_apart (K : PySem.W.Frag) : Sp := sp1 fun x H Q => ∃ (H0 : Hp) (p : Addr) (ps : List Addr) (hs : List (List Int)), x = .ref p ∧ LNew H0 H p ps (iv hs) ∧ hs.length ≤ 100 ∧ (∀ h ∈ hs, h.length ≤ 1000) ∧
  ∀ H2, (∀ b o, H b = some o → b ∉ ps → H2 b = some o) → Q (.bl true) H2
section
variable {P : Program} {w : World} {K : PySem.W.Frag} {mg : Str → Option Value} {base : Heap}
theorem ok__law_apart (D : DnX K mg "_law_apart" s__law_apart ["_law_rows"]) (B : Bt mg) : Ok P w K mg base CX0 1 "_law_apart" ["_law_rows"] (sp__law_apart K) := by
  refine ok_of D sc__law_apart (fun vs H Q E h => by obtain ⟨_, rfl, _⟩ := h; rfl) (fun f cdv A outer s H vs Q E hr h => ⟨_, (pss_cons (ps_setLc (own := [("_law_row", 3)]) (i := 1) rfl sc__law_apart.nd rfl rfl (sw_true rfl rfl rfl (by decide +kernel))  (pi_listK (K := K) (pv 0)) (blkOk_by (own := [("_law_row", 3)]) (N := ["_law_rows", "_law_due", "_law_k", "_law_row"]) (sc := (defScope s__law_apart)) (by decide +kernel)) (fun _ _ _ _ _ => (pg_name (i := 3) sc__law_apart.nd rfl (Or.inl rfl))) (fun _ _ _ _ _ => pts_nil) (fun _ _ _ _ _ => (pe_callTy (listK (K := K)) (by rfl) B.list (by decide +kernel) (pa_cons (pv 3) pa_nil))))
      (pss_cons (ps_for PassesOwn.never rfl (pi_range1 (by rfl) B.range (pa_cons (pe_callB (lenK (K := K)) (by rfl) B.len PySem.boot_len (pa_cons (pv 1) pa_nil)) pa_nil)) (pg_name (i := 2) sc__law_apart.nd rfl (Or.inl rfl))
        (pss_cons (ps_expr (pe_bm PySem.F.plainAttrs_list PySem.F.slot_list_append PySem.F.type_list_append mt_append (pe_ix (ixL (K := K)) (pv 0) (pv 2) (fun _ _ => rfl)) (pa_cons (pv 2) pa_nil)))
        (pss_one (ps_expr (pe_bm PySem.F.plainAttrs_list PySem.F.slot_list_append PySem.F.type_list_append mt_append (pe_ix (ixL (K := K)) (pv 1) (pv 2) (fun _ _ => rfl)) (pa_cons (pv 2) pa_nil))))))
      (pss_one (ps_ret (pe_cmpR (eqK (K := K) hr.units) (pv 0) (pv 1) (nomark _)))))), ?_⟩)
  obtain ⟨x, rfl, H0, p, ps, hs, rfl, L, hl, hh, q⟩ := h
  have ll : (iv hs).length = hs.length := List.length_map _
  refine q_asgN (en_copy (ev_var rfl) L.lv (by omega) (fun _ => rfl) (fun _ => rfl)) fun p2 ps2 H1 L2 e1 => ?_
  have L1 := L.ext e1
  have lps := L.len
  -- nothing of the one is of the other
  have apart : ∀ q, q ∈ p2 :: ps2 → q ∉ p :: ps := by
    intro r hr hr2
    have hn : H r = none := by
      rcases List.mem_cons.mp hr with rfl | hr
      · exact L2.new
      · obtain ⟨k, hk⟩ := List.getElem?_of_mem hr
        have hkl : k < (iv hs).length := by
          rw [← L2.len]
          exact (List.getElem?_eq_some_iff.mp hk).1
        exact (L2.at_ k r _ hk (List.getElem?_eq_getElem hkl)).1
    rcases List.mem_cons.mp hr2 with rfl | hr2
    · rw [L.top] at hn
      cases hn
    · obtain ⟨k, hk⟩ := List.getElem?_of_mem hr2
      have hkl : k < (iv hs).length := by
        rw [← L.len]
        exact (List.getElem?_eq_some_iff.mp hk).1
      rw [(L.at_ k r _ hk (List.getElem?_eq_getElem hkl)).2] at hn
      cases hn
  have keepN : ∀ {Hb Hx : Hp} {pp : Addr} {pps : List Addr} {yss : List (List V)} {r : Addr} {o : HO}, LNew Hb Hx pp pps yss → r ∉ pp :: pps → LNew Hb (upd Hx r o) pp pps yss := by
    intro Hb Hx pp pps yss r o LL hr
    refine ⟨LL.new, by rw [upd_ne (show pp ≠ r from fun z => hr (by rw [← z]; exact List.mem_cons_self))]; exact LL.top, LL.len, LL.nd, fun i s y h1 h2 => ⟨(LL.at_ i s y h1 h2).1, ?_⟩⟩
    rw [upd_ne (show s ≠ r from fun z => hr (by rw [← z]; exact List.mem_cons_of_mem _ (List.mem_of_getElem? h1)))]
    exact (LL.at_ i s y h1 h2).2
  refine q_forR1 (n := hs.length) (ea_cons (ev_is (ev_lenLL L2.lv (ev_var rfl)) (by rw [ll])) ea_nil) ⟨by omega, by omega⟩ (fun i σ H' => ∃ z : Option V, σ = [some (.ref p), some (.ref p2), z, none] ∧ LNew H0 H' p ps (iv (apartM hs i)) ∧ LNew H H' p2 ps2 (iv (apartM hs i)) ∧ ∀ b o, H b = some o → b ∉ ps → H' b = some o)
    (fun H2 e2 => ⟨none, rfl, by rw [apartM_zero]; exact L1.ext e2, by rw [apartM_zero]; exact L2.ext e2, fun b o hb _ => e2 _ _ (e1 _ _ hb)⟩) ?_ ?_
  · rintro i σ' H' hi ⟨z, rfl, LA, LB, keep⟩
    have hi' : i < hs.length := by omega
    have hlen : ((apartM hs i).getD i []).length ≤ 1000 := by
      rw [apartM_at hi']
      have e : hs.getD i [] = hs[i] := by simp [List.getD_eq_getElem?_getD, hi']
      rw [e]
      exact hh _ (List.getElem_mem hi')
    obtain ⟨r, hr, hrv, hput⟩ := LA.put (i := i) (by rw [apartM_len]; exact hi')
    have hrm : r ∈ ps := List.mem_of_getElem? hr
    refine q_app hrv (ev_op (ev_var rfl) (ev_var rfl) (rv_ixL (sq_of LA.top) (at_refs hr))) (ev_var rfl) (by rw [List.length_map]; omega) fun H2 e2 => ?_
    have LA2 := hput H2 e2 (i : Int)
    rw [apartM_succ hi'] at LA2
    have LB2 : LNew H (upd H2 r (.lst (((apartM hs i).getD i []).map V.int ++ [.int (i : Int)]))) p2 ps2 (iv (apartM hs i)) := keepN (LB.ext e2) fun m => apart r m (List.mem_cons_of_mem _ hrm)
    obtain ⟨r2, hr2, hrv2, hput2⟩ := LB2.put (i := i) (by rw [apartM_len]; exact hi')
    refine s_app hrv2 (ev_op (ev_var rfl) (ev_var rfl) (rv_ixL (sq_of LB2.top) (at_refs hr2))) (ev_var rfl) (by rw [List.length_map]; omega) fun H3 e3 => ?_
    have LB3 := hput2 H3 e3 (i : Int)
    rw [apartM_succ hi'] at LB3
    have hr2m := apart r2 (List.mem_cons_of_mem _ (List.mem_of_getElem? hr2))
    have hr2n : H r2 = none := by
      have hkl : i < (iv (apartM hs i)).length := by rw [List.length_map, apartM_len]; exact hi'
      exact (LB2.at_ i r2 _ hr2 (List.getElem?_eq_getElem hkl)).1
    refine ⟨_, rfl, keepN (LA2.ext e3) hr2m, LB3, fun b o hb hbn => ?_⟩
    rw [upd_ne (ne_of_none hb hr2n)]
    refine e3 _ _ ?_
    rw [upd_ne (show b ≠ r from fun z => hbn (by rw [z]; exact hrm))]
    exact e2 _ _ (keep b o hb hbn)
  · rintro σ' H' ⟨z, rfl, LA, LB, keep⟩
    have LA' : LL K H' p (apartM hs (hs.length : Int).toNat) := LA.lv
    have LB' : LL K H' p2 (apartM hs (hs.length : Int).toNat) := LB.lv
    refine s_ret (v := .bl true) (ev_op (ev_var rfl) (ev_var rfl) (rv_eqS encII (by decide) (LL.dp LA') (LL.dp LB'))) fun H2 e2 => q H2 fun b o hb hbn => e2 _ _ (keep b o hb hbn)
end
/-! ### law -/
abbrev s_law : Stmt := topS 29
theorem sc_law : FnScope ["_law_script", "_law_people", "_law_goods", "_law_bids_here", "_law_due", "_law_row", "_law_handed", "_law_found", "_law_line", "_law_one"] ["_law_script"] (defScope s_law) := ⟨rfl, rfl, rfl, by decide +kernel, rfl, by decide +kernel, by decide +kernel⟩
theorem len_shown (rows : List (List Int)) : (shownL rows).length = (rows.map fun r => (rowL r).length + 1).sum := by
  unfold shownL
  rw [List.length_flatten, List.map_map]
  congr 1
  refine List.map_congr_left fun r _ => ?_
  show (rowL r ++ [10]).length = _
  rw [List.length_append]
  rfl
theorem tl_cut1 (l : Str) : tl (cutS l (some 1) none) = (tl l).drop 1 := by
  show (((l.cps.toList.drop (HT.sIx l.length 0 (some 1))).take (l.length - HT.sIx l.length 0 (some 1))).toArray).toList = l.cps.toList.drop 1
  have e : HT.sIx l.length 0 (some 1) = min 1 l.length := HT.sIx_nat l.length 0 1
  have hl : l.cps.toList.length = l.length := Array.length_toList
  rw [e, List.take_of_length_le (by rw [List.length_drop]; omega)]
  by_cases h : 1 ≤ l.length
  · rw [Nat.min_eq_left h]
  · rw [List.drop_of_length_le (by omega), List.drop_of_length_le (by omega)]
theorem drop_row (r : List Int) : ((r.map fun b => 32 :: numL b.toNat).flatten).drop 1 = rowL r := by
  have key : ∀ ps : List (List Nat), ((ps.map fun p => 32 :: p).flatten).drop 1 = joinL [32] ps := by
    intro ps
    induction ps with
    | nil => rfl
    | cons p ps ih =>
      cases ps with
      | nil => simp [joinL]
      | cons q t =>
        show p ++ (((q :: t).map fun p => 32 :: p).flatten) = p ++ ([32] ++ joinL [32] (q :: t))
        rw [← ih]
        rfl
  unfold rowL
  rw [← key, List.map_map]
  rfl
theorem ev_isStr {σ : L2.St} {K : PySem.W.Frag} {H : Hp} {te : TE} {w : Str} (h : Ev te σ H (.str w)) : Ev (tCB (rIsi K) (tCons te (tCons (tC (.ty "str")) tNil))) σ H (.bl true) :=
  ev_cb (ea_cons h (ea_cons ev_c ea_nil)) fun H1 e Q q => ⟨_, _, _, _, true, rfl, .ty _, .base (.str w), kit_ty (by decide +kernel), q H1 (Ex.refl H1)⟩
def sp_law (K : PySem.W.Frag) : Sp := sp1 fun x H Q => ∃ (a : Addr) (ns : List Int), x = .ref a ∧ SqL K H a (ns.map V.int) ∧ ∀ H', Q (.bl true) H'
theorem law_start {K : PySem.W.Frag} {H : Hp} {a : Addr} {ns : List Int} (hl : ns.length ≤ 63) (hS : SqL K H a (ns.map V.int)) : sp_law K [.ref a] H (fun v _ => v = .bl true) (fun _ _ _ => False) := ⟨.ref a, rfl, a, ns, rfl, hS, fun _ => rfl⟩
section
variable {P : Program} {w : World} {K : PySem.W.Frag} {mg : Str → Option Value} {base : Heap}
theorem ok_law (D : DnX K mg "law" s_law ["_law_script"]) (B : Bt mg) (h__law_bids : Ok P w K mg base CX0 2 "_law_bids" ["_law_script", "_law_first", "_law_people", "_law_goods", "_law_kind"] (sp__law_bids K)) (h_shown : Ok P w K mg base CX0 5 "shown" ["bids"] (sp_shown K)) (h_read : Ok P w K mg base CX0 5 "read" ["text"] (sp_read K)) (h__law_cell : Ok P w K mg base CX0 1 "_law_cell" ["_law_script", "_law_k"] (sp__law_cell K)) (h__law_apart : Ok P w K mg base CX0 1 "_law_apart" ["_law_rows"] (sp__law_apart K)) (h__law_same : Ok P w K mg base CX0 2 "_law_same" ["_law_found", "_law_bids_here"] (sp__law_same K)) (h__law_figures : Ok P w K mg base CX0 1 "_law_figures" ["_law_number"] (sp__law_figures K)) : Ok P w K mg base CX0 6 "law" ["_law_script"] (sp_law K) := by
  refine ok_of D sc_law (fun vs H Q E h => by obtain ⟨_, rfl, _⟩ := h; rfl) (fun f cdv A outer s H vs Q E hr h => ⟨_, (pss_cons (ps_set (i := 1) sc_law.nd rfl (Or.inl rfl) (pe_op op_add pe_int (pe_op op_mod (pe_ok h__law_cell (hr.mono (by decide)) (by rfl) pass0 (pa_cons (pv 0) (pa_cons pe_int pa_nil))) pe_int)))
      (pss_cons (ps_set (i := 2) sc_law.nd rfl (Or.inl rfl) (pe_op op_mod (pe_ok h__law_cell (hr.mono (by decide)) (by rfl) pass0 (pa_cons (pv 0) (pa_cons pe_int pa_nil))) pe_int))
      (pss_cut (ps_if (pt_cmpR op_eq (pe_op op_mod (pe_op op_fdiv (pe_ok h__law_cell (hr.mono (by decide)) (by rfl) pass0 (pa_cons (pv 0) (pa_cons pe_int pa_nil))) pe_int) pe_int) pe_int (nomark _))
        (pss_one (ps_set (i := 2) sc_law.nd rfl (Or.inl rfl) (pe_op op_mod (pe_op op_fdiv (pe_ok h__law_cell (hr.mono (by decide)) (by rfl) pass0 (pa_cons (pv 0) (pa_cons pe_int pa_nil))) pe_int) pe_int)))
        pss_nil)
      (pss_cons (ps_set (i := 3) sc_law.nd rfl (Or.inl rfl) (pe_ok h__law_bids (hr.mono (by decide)) (by rfl) pass0 (pa_cons (pv 0) (pa_cons pe_int (pa_cons (pv 1) (pa_cons (pv 2) (pa_cons (pe_op op_mod (pe_ok h__law_cell (hr.mono (by decide)) (by rfl) pass0 (pa_cons (pv 0) (pa_cons pe_int pa_nil))) pe_int) pa_nil)))))))
      (pss_cons (ps_set (i := 4) sc_law.nd rfl (Or.inl rfl) pe_str)
      (pss_cons (ps_for PassesOwn.never rfl (pi_listK (K := K) (pv 3)) (pg_name (i := 5) sc_law.nd rfl (Or.inl rfl))
        (pss_cons (ps_set (i := 8) sc_law.nd rfl (Or.inl rfl) pe_str)
        (pss_cons (ps_for PassesOwn.never rfl (pi_listK (K := K) (pv 5)) (pg_name (i := 9) sc_law.nd rfl (Or.inl rfl))
          (pss_one (ps_set (i := 8) sc_law.nd rfl (Or.inl rfl) (pe_op op_add_str (pe_op op_add_str (pv 8) pe_str) (pe_ok h__law_figures (hr.mono (by decide)) (by rfl) pass0 (pa_cons (pv 9) pa_nil))))))
        (pss_one (ps_set (i := 4) sc_law.nd rfl (Or.inl rfl) (pe_op op_add_str (pe_op op_add_str (pv 4) (pe_slice sl_str (pv 8) (po_some pe_int) po_none)) pe_str))))))
      (pss_cons (ps_setLc (own := [("_law_row", 5)]) (i := 6) rfl sc_law.nd rfl rfl (sw_true rfl rfl rfl (by decide +kernel))  (pi_listK (K := K) (pv 3)) (blkOk_by (own := [("_law_row", 5)]) (N := ["_law_script", "_law_people", "_law_goods", "_law_bids_here", "_law_due", "_law_row", "_law_handed", "_law_found", "_law_line", "_law_one"]) (sc := (defScope s_law)) (by decide +kernel)) (fun _ _ _ _ _ => (pg_name (i := 5) sc_law.nd rfl (Or.inl rfl))) (fun _ _ _ _ _ => pts_nil) (fun _ _ _ _ _ => (pe_callTy (listK (K := K)) (by rfl) B.list (by decide +kernel) (pa_cons (pv 5) pa_nil))))
      (pss_cons (ps_set (i := 7) sc_law.nd rfl (Or.inl rfl) (pe_ok h_shown hr (by rfl) pass0 (pa_cons (pv 6) pa_nil)))
      (pss_cons (ps_if (PW.pt (pw_or (pt_cmpR (neK (K := K) hr.units) (pv 6) (pv 3) (nomark _)) (pw_or (pt_not (pt_val (pe_callB (isiK (K := K)) (by rfl) B.isinstance (by decide +kernel) (pa_cons (pv 7) (pa_cons (pe_bltn (v := .ty "str") (by rfl) B.str (by decide +kernel) rfl) pa_nil))))) (pw_or1 (pt_cmpR op_ne (pv 7) (pv 4) (nomark _))))))
        (pss_one (ps_ret pe_bl))
        pss_nil)
      (pss_cons (ps_set (i := 7) sc_law.nd rfl (Or.inl rfl) (pe_ok h_read hr (by rfl) pass0 (pa_cons (pv 4) pa_nil)))
      (pss_cons (ps_if (PW.pt (pw_or (pt_not (pt_val (pe_ok h__law_same (hr.mono (by decide)) (by rfl) pass0 (pa_cons (pv 7) (pa_cons (pv 3) pa_nil))))) (pw_or (pt_cmpR (neK (K := K) hr.units) (pe_ok h_read hr (by rfl) pass0 (pa_cons pe_str pa_nil)) (pe_lst (pa_cons (pe_lst (pa_cons pe_int (pa_cons pe_int pa_nil))) (pa_cons (pe_lst (pa_cons pe_int (pa_cons pe_int pa_nil))) pa_nil))) (nomark _)) (pw_or1 (pt_not (pt_val (pe_ok h__law_same (hr.mono (by decide)) (by rfl) pass0 (pa_cons (pv 7) (pa_cons (pv 3) pa_nil)))))))))
        (pss_one (ps_ret pe_bl))
        pss_nil)
      (pss_one (ps_ret (pe_and (pe_ok h__law_apart (hr.mono (by decide)) (by rfl) pass0 (pa_cons (pv 7) pa_nil)) (pe_one (pe_ok h__law_same (hr.mono (by decide)) (by rfl) pass0 (pa_cons (pe_ok h_read hr (by rfl) pass0 (pa_cons (pv 4) pa_nil)) (pa_cons (pv 3) pa_nil)))))))))))))))))), ?_⟩)
  obtain ⟨x, rfl, a, ns, rfl, hS, q⟩ := h
  -- people
  obtain ⟨pn, hp9, hp1, hpe⟩ : ∃ pn : Nat, pn ≤ 9 ∧ 1 ≤ pn ∧ 1 + cellM ns 0 % 9 = (pn : Int) := by
    obtain ⟨n, h1, h2⟩ := mod_range (cellM ns 0) (m := 9) (by decide)
    exact ⟨n + 1, by omega, by omega, by omega⟩
  refine q_asg (v := .int (pn : Int)) (ev_is (ev_op ev_c (ev_op (ev_cell rfl hS ev_c (by decide)) ev_c (rv_I (by show (0 : Int) < 9; decide))) rv_I0) (by rw [hpe])) fun H1 e1 => ?_
  -- goods
  refine q_asg (ev_op (ev_cell rfl (ex_l e1 hS) ev_c (by decide)) ev_c (rv_I (by show (0 : Int) < 7; decide))) fun H2 e2 => ?_
  have hS2 := ex_l (e1.trans e2) hS
  obtain ⟨g0, hg0, hg0l⟩ := mod_range (cellM ns 1) (m := 7) (by decide)
  rw [hg0]
  refine q_cut (M := fun σ H' => ∃ gn : Nat, gn ≤ 40 ∧ Ex H2 H' ∧ σ = [some (.ref a), some (.int pn), some (.int gn), none, none, none, none, none, none, none]) ?_ ?_
  · refine s_when (et_test (ev_op (ev_op (ev_op (ev_cell rfl hS2 ev_c (by decide)) ev_c (rv_I ⟨by decide, by decide⟩)) ev_c (rv_I (by show (0 : Int) < 8; decide))) ev_c (rv_eq rfl))) (fun _ H3 e3 => ?_) (fun _ H3 e3 => ⟨g0, by omega, e3, rfl⟩)
    obtain ⟨g1, hg1, hg1l⟩ := mod_range (cellM ns 1 / 56) (m := 41) (by decide)
    refine s_asg (v := .int (g1 : Int)) (ev_is (ev_op (ev_op (ev_cell rfl (ex_l e3 hS2) ev_c (by decide)) ev_c (rv_I ⟨by decide, by decide⟩)) ev_c (rv_I (by show (0 : Int) < 41; decide))) (by rw [hg1])) fun H4 e4 => ⟨g1, by omega, e3.trans e4, rfl⟩
  rintro σ H3 ⟨gn, hg40, e3, rfl⟩
  have hS3 := ex_l e3 hS2
  -- bids
  generalize hk : cellM ns 2 % 4 = kind
  refine q_asgN (ys := iv (bidsM ns 3 pn gn kind)) (fun H4 e4 Q q => ?_) fun bp bs H4 Lb e4 => ?_
  · refine g_call ?_
    refine ea_cons (ev_var rfl) (ea_cons ev_c (ea_cons (ev_var rfl) (ea_cons (ev_var rfl) (ea_cons (ev_is (ev_op (ev_cell rfl hS3 ev_c (by decide)) ev_c (rv_I (by show (0 : Int) < 4; decide))) (by rw [hk])) ea_nil)))) H4 e4 _ fun H5 e5 => ?_
    exact ⟨_, _, _, _, _, rfl, a, ns, 3, pn, gn, kind, rfl, rfl, rfl, rfl, rfl, ex_l (e4.trans e5) hS3, by decide, by omega, by omega, fun p ps H6 L e6 => q p ps H6 (L.back e5) (e5.trans e6)⟩
  have hB : Bids (bidsM ns 3 pn gn kind) gn := bidsM_ok ns 3 pn gn kind hp1 hp9 hg40
  have hBl := bidsM_len ns 3 pn gn kind
  generalize bidsM ns 3 pn gn kind = rows at Lb hB hBl
  have LbB : LL K H4 bp rows := Lb.lv
  have hne := hB.ne
  have hl40 := hB.m40
  have ll : (iv rows).length = rows.length := List.length_map _
  -- the text that is due
  refine q_asg (v := .str "") ev_c fun H5 e5 => ?_
  obtain ⟨as, hAs, hAl, hAa⟩ := id LbB
  refine q_forLn (ev_var rfl) (ex_l e5 hAs) (fun i σ H' => ∃ (w : Str) (z5 z8 z9 : Option V), σ = [some (.ref a), some (.int (pn : Int)), some (.int (gn : Int)), some (.ref bp), some (.str w), z5, none, none, z8, z9] ∧ Ex H4 H' ∧ tl w = shownL (rows.take i)) (fun H6 e6 => ⟨"", none, none, none, rfl, e5.trans e6, rfl⟩) (fun i σ' H' _ h => by obtain ⟨_, _, _, _, _, e, _⟩ := h; exact ex_l e hAs) ?_ ?_
  · rintro i x σ' H' hi ⟨w, z5, z8, z9, rfl, ex, hw⟩
    rw [List.getElem?_map] at hi
    cases ei : as[i]? with
    | none =>
      rw [ei] at hi
      cases hi
    | some p =>
      rw [ei] at hi
      obtain rfl : V.ref p = x := Option.some.inj hi
      have hil : i < rows.length := by
        have := (List.getElem?_eq_some_iff.mp ei).1
        omega
      have hs := hAa i p _ ei (by rw [List.getElem?_map, List.getElem?_eq_getElem hil]; rfl)
      have hlr := hB.len _ (List.getElem_mem hil)
      have hok := hB.ok _ (List.getElem_mem hil)
      have ht : shownL (rows.take (i + 1)) = shownL (rows.take i) ++ (rowL rows[i] ++ [10]) := by
        unfold shownL
        rw [List.take_add_one, List.getElem?_eq_getElem hil, List.map_append, List.flatten_append]
        simp
      have hwl : w.length ≤ 9 * 561 := by
        rw [len_tl, hw, len_shown]
        have := sum_bound (k := 561) ((rows.take i).map fun r => (rowL r).length + 1) fun x hx => by
          obtain ⟨r, hr, rfl⟩ := List.mem_map.mp hx
          have := len_rowS hB (List.mem_of_mem_take hr)
          rw [len_tl, tl_rowS fun b h => (hB.ok r (List.mem_of_mem_take hr) b h).1] at this
          omega
        rw [List.length_map, List.length_take] at this
        have e : min i rows.length * 561 ≤ 9 * 561 := Nat.mul_le_mul (by omega) (Nat.le_refl _)
        omega
      have hrl : (rowL rows[i]).length ≤ 560 := by
        have := len_rowS hB (List.getElem_mem hil)
        rw [len_tl, tl_rowS fun b h => (hok b h).1] at this
        exact this
      generalize rows[i] = r at hs hlr hok ht hrl
      refine q_asg (v := .str "") ev_c fun H6 e6 => ?_
      refine q_forLn (ev_var rfl) (ex_l (ex.trans e6) hs) (fun k σ H' => ∃ (l : Str) (z9 : Option V), σ = [some (.ref a), some (.int (pn : Int)), some (.int (gn : Int)), some (.ref bp), some (.str w), some (.ref p), none, none, some (.str l), z9] ∧ Ex H4 H' ∧ tl l = ((r.take k).map fun b => 32 :: numL b.toNat).flatten) (fun H7 e7 => ⟨"", z9, rfl, (ex.trans e6).trans e7, rfl⟩) (fun i σ' H' _ h => by obtain ⟨_, _, _, e, _⟩ := h; exact ex_l e hs) ?_ ?_
      · rintro k x σ' H7 hk ⟨l, z9, rfl, ex7, hl⟩
        obtain ⟨hkl, rfl⟩ := get_ints hk
        have hbk := hok _ (List.getElem_mem hkl)
        have hll : l.length ≤ 40 * 14 := by
          rw [len_tl, hl, List.length_flatten, List.map_map]
          have := sum_bound (k := 14) ((r.take k).map (List.length ∘ fun b : Int => 32 :: numL b.toNat)) fun x hx => by
            obtain ⟨b, hb, rfl⟩ := List.mem_map.mp hx
            have hb := hok b (List.mem_of_mem_take hb)
            have : (numL b.toNat).length ≤ 13 := numL_len (by decide) (by omega)
            show (numL b.toNat).length + 1 ≤ 14
            omega
          rw [List.length_map, List.length_take] at this
          have e : min k r.length * 14 ≤ 40 * 14 := Nat.mul_le_mul (by omega) (Nat.le_refl _)
          omega
        have hnl : (numL r[k].toNat).length ≤ 13 := numL_len (by decide) (by omega)
        refine g_set (g_op (ev_addS (ev_var rfl) ev_c (by show l.length + 1 ≤ 100000; omega) H7 (Ex.refl _) _ fun H8 e8 => ?_))
        refine g_call (ea_cons (ev_is (ev_var rfl) (show V.int r[k] = V.int ((r[k].toNat : Nat) : Int) by congr 1; omega)) ea_nil H8 (Ex.refl _) _ fun H9 e9 => ⟨_, rfl, r[k].toNat, rfl, by omega, fun u H10 hu e10 => ?_⟩)
        refine ⟨_, _, rfl, rfl, sz_of ?_, _, _, rfl, (ex7.trans e8).trans (e9.trans e10), ?_⟩
        · have e1 : (l ++ " ").length = l.length + 1 := by rw [len_tl, tl_append, List.length_append, ← len_tl]; rfl
          have e2 : u.length ≤ 13 := by rw [len_tl, hu]; exact hnl
          omega
        · rw [tl_append, tl_append, hl, hu, List.take_add_one, List.getElem?_eq_getElem hkl, List.map_append, List.flatten_append, List.append_assoc]
          simp
          rfl
      · rintro σ' H7 ⟨l, z9, rfl, ex7, hl⟩
        rw [List.length_map, List.take_length] at hl
        have hcut : tl (cutS l (some 1) none) = rowL r := by
          have e : tl (cutS l (some 1) none) = (tl l).drop 1 := tl_cut1 l
          rw [e, hl, drop_row]
        have hl1 : l.length ≤ 100000 := by
          rw [len_tl, hl, List.length_flatten, List.map_map]
          have := sum_bound (k := 14) (r.map (List.length ∘ fun b : Int => 32 :: numL b.toNat)) fun x hx => by
            obtain ⟨b, hb, rfl⟩ := List.mem_map.mp hx
            have hb := hok b hb
            have : (numL b.toNat).length ≤ 13 := numL_len (by decide) (by omega)
            show (numL b.toNat).length + 1 ≤ 14
            omega
          rw [List.length_map] at this
          omega
        have hcl : (cutS l (some 1) none).length ≤ 560 := by rw [len_tl, hcut]; exact hrl
        have hadd : (w ++ cutS l (some 1) none).length ≤ 10000 := by rw [len_app]; omega
        refine s_asg (ev_addS (ev_addS (ev_var rfl) (ev_slS (ev_var rfl) (eo_some ev_c) eo_none hl1) (by omega)) ev_c (by show _ + 1 ≤ 100000; omega)) fun H8 e8 => ⟨_, _, _, _, rfl, ex7.trans e8, ?_⟩
        rw [tl_append, tl_append, hcut, hw, ht, List.append_assoc]
        rfl
  rintro σ' H6 ⟨w, z5, z8, z9, rfl, ex6, hw⟩
  rw [List.length_map, hAl, ll, List.take_length] at hw
  have hwl : w.length ≤ 20000 := by
    rw [len_tl, hw, len_shown]
    have := sum_bound (k := 561) (rows.map fun r => (rowL r).length + 1) fun x hx => by
      obtain ⟨r, hr, rfl⟩ := List.mem_map.mp hx
      have := len_rowS hB hr
      rw [len_tl, tl_rowS fun b h => (hB.ok r hr b h).1] at this
      omega
    rw [List.length_map] at this
    omega
  have hws : w = shownS rows := ext_tl (by rw [hw, tl_shownS fun r hr b h => (hB.ok r hr b h).1])
  -- handed
  refine q_asgN (en_copy (ev_var rfl) (LbB.mono ex6) (by omega) (fun _ => rfl) (fun _ => rfl)) fun b2 bs2 H7 Lw e7 => ?_
  have k1 : LL K H7 bp rows := LbB.mono (ex6.trans e7)
  have k2 : LL K H7 b2 rows := Lw.lv
  refine q_asg (ev_call (ea_cons (ev_var rfl) ea_nil) fun H8 e8 Q q E => ⟨_, rfl, b2, rows, gn, rfl, k2.mono e8, hB, fun H9 e9 => q H9 e9⟩) fun H8 e8 => ?_
  refine q_when (b := false) (et_or (a := false) (b := false) (et_test (ev_op (ev_var rfl) (ev_var rfl) (rv_neS encII (by decide) (LL.dp (k2.mono e8)) (LL.dp (k1.mono e8))))) fun _ => et_or (a := false) (b := false) (et_not (et_B (b := true) (ev_isStr (ev_var rfl)))) fun _ => et_is (et_test (ev_op (ev_var rfl) (ev_var rfl) (rv_ne rfl))) (by rw [hws, decide_eq_true rfl]; rfl)) (fun h => nomatch h) fun _ H9 e9 => ?_
  have k1_9 := k1.mono (e8.trans e9)
  -- read
  refine q_set (g_call (ea_cons (ev_var rfl) ea_nil H9 (Ex.refl _) _ fun H9' e9' => ⟨_, rfl, w, rows, gn, rfl, hwl, hw, hB, fun fp fps H10 Lf' e10' => ?_⟩))
  have e10 := e9'.trans e10'
  have Lf := Lf'.back e9'
  have k1_10 := k1_9.mono e10
  have same : ∀ {σ : L2.St} {H'}, Ex H10 H' → σ[7]? = some (some (.ref fp)) → σ[3]? = some (some (.ref bp)) → Ev (tCall (sp__law_same K) [] E0 (tCons (tVar 7) (tCons (tVar 3) tNil))) σ H' (.bl true) := fun e h7 h3 =>
    ev_call (ea_cons (ev_var h7) (ea_cons (ev_var h3) ea_nil)) fun H11 e11 Q q E => ⟨_, _, rfl, fp, bp, rows, gn, rfl, rfl, Lf.tv.mono (e.trans e11), k1_10.mono (e.trans e11), hB, fun H12 e12 => q H12 e12⟩
  refine q_when (b := false) (et_or (a := false) (b := false) (et_not (et_B (b := true) (same (Ex.refl _) rfl rfl))) fun _ => et_or (a := false) (b := false) (et_test ?_) fun _ => et_not (et_B (b := true) (same (Ex.refl _) rfl rfl))) (fun h => nomatch h) fun _ H11 e11 => ?_
  · -- another text is read
    have hS : tl ("7 8\n9 10\n" : Str) = shownL [[7, 8], [9, 10]] := by decide +kernel
    intro H11 e11 Q q
    refine g_op (g_call (g_cons (g_c (g_nil ⟨_, rfl, "7 8\n9 10\n", [[7, 8], [9, 10]], 2, rfl, by decide +kernel, hS, ⟨by decide, by decide, by decide, by decide, by decide⟩, fun p ps H12 L12 e12 => ?_⟩))))
    refine g_lst (g_cons (g_lst (g_cons (g_c (g_cons (g_c (g_nil ⟨sz_of (by show 2 ≤ 100000; omega), fun r1 hr1 => ?_⟩)))))))
    have x1 := Ex.new (o := .lst [V.int 7, V.int 8]) hr1
    refine g_cons (g_lst (g_cons (g_c (g_cons (g_c (g_nil ⟨sz_of (by show 2 ≤ 100000; omega), fun r2 hr2 => ?_⟩))))))
    have x2 := Ex.new (o := .lst [V.int 9, V.int 10]) hr2
    refine g_nil ⟨sz_of (by show 2 ≤ 100000; omega), fun r3 hr3 => ?_⟩
    have x3 := Ex.new (o := .lst [V.ref r1, V.ref r2]) hr3
    have m1 := (x2.trans x3) _ _ (upd_same (H := H12) (a := r1) (o := .lst [V.int 7, V.int 8]))
    have m2 := x3 _ _ (upd_same (H := upd H12 r1 (.lst [V.int 7, V.int 8])) (a := r2) (o := .lst [V.int 9, V.int 10]))
    have xx := (x1.trans x2).trans x3
    have hLL : LL K (upd (upd (upd H12 r1 (.lst [V.int 7, V.int 8])) r2 (.lst [V.int 9, V.int 10])) r3 (.lst [V.ref r1, V.ref r2])) r3 [[7, 8], [9, 10]] := lv_two upd_same m1 m2
    exact rv_neS encII (by decide) (LL.dp ((L12.ext xx).lv (K := K))) (LL.dp hLL) _ (Ex.refl _) _ fun H13 e13 => q H13 ((e12.trans xx).trans e13)
  -- changed, and read again
  have hps : ∀ b ∈ fps, H9 b = none := fun b hb => by
    obtain ⟨k, hk⟩ := List.getElem?_of_mem hb
    have hkl : k < (iv rows).length := by
      rw [← Lf.len]
      exact (List.getElem?_eq_some_iff.mp hk).1
    exact (Lf.at_ k b _ hk (List.getElem?_eq_getElem hkl)).1
  refine g_ret (g_call (ea_cons (ev_var rfl) ea_nil H11 (Ex.refl _) _ fun H12 e12 => ⟨_, rfl, H9, fp, fps, rows, rfl, (Lf.ext e11).ext e12, by omega, fun r hr => (by have := hB.len r hr; omega), fun H13 keep => ⟨true, rfl, ?_⟩⟩))
  have e913 : Ex (msk H12 fps) H13 := msk_ex keep
  have k1m : LL K (msk H12 fps) bp rows := k1_9.mono (ex_msk ((e10.trans e11).trans e12) hps)
  refine g_call (g_cons (g_call (ea_cons (ev_var rfl) ea_nil H13 (Ex.refl _) _ fun H14 e14 => ⟨_, rfl, w, rows, gn, rfl, hwl, hw, hB, fun gp gps H15 Lg e15 => ?_⟩)))
  refine ea_cons (ev_var rfl) ea_nil H15 (Ex.refl _) _ fun H16 e16 => ⟨_, _, rfl, gp, bp, rows, gn, rfl, rfl, (Lg.ext e16).tv, k1m.mono (e913.trans ((e14.trans e15).trans e16)), hB, fun H17 e17 => q H17⟩
end
end Fk06
namespace Fk06
open PySem PySem.Spec PyProof.Rows L2 Evl Fs Tx TL
theorem all_mk {l : PySem.W.OpenLaw} {w : World} {K : PySem.W.Frag} {h : Heap} {mg : Str → Option Value} {fa f0 f1 f2 f3 f4 f5 f6 f7 f8 f9 f10 f11 f12 f13 f14 f15 : Addr} (X : K.In h) (G : h.Ns mainGlobals mg) (hfa : mg "law" = some (.ref fa))
    {od0 an0 od1 an1 od2 an2 od3 an3 od4 an4 od5 an5 od6 an6 od7 an7 od8 an8 od9 an9 od10 an10 od11 an11 od12 an12 od13 an13 od14 an14 od15 an15 : Option Addr} {sl0 sl1 sl2 sl3 sl4 sl5 sl6 sl7 sl8 sl9 sl10 sl11 sl12 sl13 sl14 sl15 : Array (Option Value)} {oc0 kV0 dc0 pm0 cd0 ct0 oc1 kV1 dc1 pm1 cd1 ct1 oc2 kV2 dc2 pm2 cd2 ct2 oc3 kV3 dc3 pm3 cd3 ct3 oc4 kV4 dc4 pm4 cd4 ct4 oc5 kV5 dc5 pm5 cd5 ct5 oc6 kV6 dc6 pm6 cd6 ct6 oc7 kV7 dc7 pm7 cd7 ct7 oc8 kV8 dc8 pm8 cd8 ct8 oc9 kV9 dc9 pm9 cd9 ct9 oc10 kV10 dc10 pm10 cd10 ct10 oc11 kV11 dc11 pm11 cd11 ct11 oc12 kV12 dc12 pm12 cd12 ct12 oc13 kV13 dc13 pm13 cd13 ct13 oc14 kV14 dc14 pm14 cd14 ct14 oc15 kV15 dc15 pm15 cd15 ct15 : Value}
    (a0 : PySem.W.nsIn K mainGlobals "is_number" = some (some (.ref f0))) (l0 : K.lookup f0 = some ⟨oc0, od0, .func (PySem.W.fnOf "is_number" "is_number" (defArgs s_is_number) (defBody s_is_number) (defScope s_is_number) .none kV0 dc0 pm0 an0 cd0 ct0), sl0⟩) (c0 : PySem.W.codeIn K cd0 "is_number" = true) (k0 : PySem.W.keepIn K (.ref f0) = true)
    (a1 : PySem.W.nsIn K mainGlobals "is_bid" = some (some (.ref f1))) (l1 : K.lookup f1 = some ⟨oc1, od1, .func (PySem.W.fnOf "is_bid" "is_bid" (defArgs s_is_bid) (defBody s_is_bid) (defScope s_is_bid) .none kV1 dc1 pm1 an1 cd1 ct1), sl1⟩) (c1 : PySem.W.codeIn K cd1 "is_bid" = true) (k1 : PySem.W.keepIn K (.ref f1) = true)
    (a2 : PySem.W.nsIn K mainGlobals "check_line" = some (some (.ref f2))) (l2 : K.lookup f2 = some ⟨oc2, od2, .func (PySem.W.fnOf "check_line" "check_line" (defArgs s_check_line) (defBody s_check_line) (defScope s_check_line) .none kV2 dc2 pm2 an2 cd2 ct2), sl2⟩) (c2 : PySem.W.codeIn K cd2 "check_line" = true) (k2 : PySem.W.keepIn K (.ref f2) = true)
    (a3 : PySem.W.nsIn K mainGlobals "check_bids" = some (some (.ref f3))) (l3 : K.lookup f3 = some ⟨oc3, od3, .func (PySem.W.fnOf "check_bids" "check_bids" (defArgs s_check_bids) (defBody s_check_bids) (defScope s_check_bids) .none kV3 dc3 pm3 an3 cd3 ct3), sl3⟩) (c3 : PySem.W.codeIn K cd3 "check_bids" = true) (k3 : PySem.W.keepIn K (.ref f3) = true)
    (a4 : PySem.W.nsIn K mainGlobals "shown" = some (some (.ref f4))) (l4 : K.lookup f4 = some ⟨oc4, od4, .func (PySem.W.fnOf "shown" "shown" (defArgs s_shown) (defBody s_shown) (defScope s_shown) .none kV4 dc4 pm4 an4 cd4 ct4), sl4⟩) (c4 : PySem.W.codeIn K cd4 "shown" = true) (k4 : PySem.W.keepIn K (.ref f4) = true)
    (a5 : PySem.W.nsIn K mainGlobals "is_written" = some (some (.ref f5))) (l5 : K.lookup f5 = some ⟨oc5, od5, .func (PySem.W.fnOf "is_written" "is_written" (defArgs s_is_written) (defBody s_is_written) (defScope s_is_written) .none kV5 dc5 pm5 an5 cd5 ct5), sl5⟩) (c5 : PySem.W.codeIn K cd5 "is_written" = true) (k5 : PySem.W.keepIn K (.ref f5) = true)
    (a6 : PySem.W.nsIn K mainGlobals "numbers" = some (some (.ref f6))) (l6 : K.lookup f6 = some ⟨oc6, od6, .func (PySem.W.fnOf "numbers" "numbers" (defArgs s_numbers) (defBody s_numbers) (defScope s_numbers) .none kV6 dc6 pm6 an6 cd6 ct6), sl6⟩) (c6 : PySem.W.codeIn K cd6 "numbers" = true) (k6 : PySem.W.keepIn K (.ref f6) = true)
    (a7 : PySem.W.nsIn K mainGlobals "read" = some (some (.ref f7))) (l7 : K.lookup f7 = some ⟨oc7, od7, .func (PySem.W.fnOf "read" "read" (defArgs s_read) (defBody s_read) (defScope s_read) .none kV7 dc7 pm7 an7 cd7 ct7), sl7⟩) (c7 : PySem.W.codeIn K cd7 "read" = true) (k7 : PySem.W.keepIn K (.ref f7) = true)
    (a8 : PySem.W.nsIn K mainGlobals "_law_whole" = some (some (.ref f8))) (l8 : K.lookup f8 = some ⟨oc8, od8, .func (PySem.W.fnOf "_law_whole" "_law_whole" (defArgs s__law_whole) (defBody s__law_whole) (defScope s__law_whole) .none kV8 dc8 pm8 an8 cd8 ct8), sl8⟩) (c8 : PySem.W.codeIn K cd8 "_law_whole" = true) (k8 : PySem.W.keepIn K (.ref f8) = true)
    (a9 : PySem.W.nsIn K mainGlobals "_law_cell" = some (some (.ref f9))) (l9 : K.lookup f9 = some ⟨oc9, od9, .func (PySem.W.fnOf "_law_cell" "_law_cell" (defArgs s__law_cell) (defBody s__law_cell) (defScope s__law_cell) .none kV9 dc9 pm9 an9 cd9 ct9), sl9⟩) (c9 : PySem.W.codeIn K cd9 "_law_cell" = true) (k9 : PySem.W.keepIn K (.ref f9) = true)
    (a10 : PySem.W.nsIn K mainGlobals "_law_bid" = some (some (.ref f10))) (l10 : K.lookup f10 = some ⟨oc10, od10, .func (PySem.W.fnOf "_law_bid" "_law_bid" (defArgs s__law_bid) (defBody s__law_bid) (defScope s__law_bid) .none kV10 dc10 pm10 an10 cd10 ct10), sl10⟩) (c10 : PySem.W.codeIn K cd10 "_law_bid" = true) (k10 : PySem.W.keepIn K (.ref f10) = true)
    (a11 : PySem.W.nsIn K mainGlobals "_law_bids" = some (some (.ref f11))) (l11 : K.lookup f11 = some ⟨oc11, od11, .func (PySem.W.fnOf "_law_bids" "_law_bids" (defArgs s__law_bids) (defBody s__law_bids) (defScope s__law_bids) .none kV11 dc11 pm11 an11 cd11 ct11), sl11⟩) (c11 : PySem.W.codeIn K cd11 "_law_bids" = true) (k11 : PySem.W.keepIn K (.ref f11) = true)
    (a12 : PySem.W.nsIn K mainGlobals "_law_figures" = some (some (.ref f12))) (l12 : K.lookup f12 = some ⟨oc12, od12, .func (PySem.W.fnOf "_law_figures" "_law_figures" (defArgs s__law_figures) (defBody s__law_figures) (defScope s__law_figures) .none kV12 dc12 pm12 an12 cd12 ct12), sl12⟩) (c12 : PySem.W.codeIn K cd12 "_law_figures" = true) (k12 : PySem.W.keepIn K (.ref f12) = true)
    (a13 : PySem.W.nsIn K mainGlobals "_law_same" = some (some (.ref f13))) (l13 : K.lookup f13 = some ⟨oc13, od13, .func (PySem.W.fnOf "_law_same" "_law_same" (defArgs s__law_same) (defBody s__law_same) (defScope s__law_same) .none kV13 dc13 pm13 an13 cd13 ct13), sl13⟩) (c13 : PySem.W.codeIn K cd13 "_law_same" = true) (k13 : PySem.W.keepIn K (.ref f13) = true)
    (a14 : PySem.W.nsIn K mainGlobals "_law_apart" = some (some (.ref f14))) (l14 : K.lookup f14 = some ⟨oc14, od14, .func (PySem.W.fnOf "_law_apart" "_law_apart" (defArgs s__law_apart) (defBody s__law_apart) (defScope s__law_apart) .none kV14 dc14 pm14 an14 cd14 ct14), sl14⟩) (c14 : PySem.W.codeIn K cd14 "_law_apart" = true) (k14 : PySem.W.keepIn K (.ref f14) = true)
    (a15 : PySem.W.nsIn K mainGlobals "law" = some (some (.ref f15))) (l15 : K.lookup f15 = some ⟨oc15, od15, .func (PySem.W.fnOf "law" "law" (defArgs s_law) (defBody s_law) (defScope s_law) .none kV15 dc15 pm15 an15 cd15 ct15), sl15⟩) (c15 : PySem.W.codeIn K cd15 "law" = true) (k15 : PySem.W.keepIn K (.ref f15) = true)
    (z_len : PySem.W.nsIn K mainGlobals "len" = some none) (z_range : PySem.W.nsIn K mainGlobals "range" = some none) (z_sum : PySem.W.nsIn K mainGlobals "sum" = some none) (z_isinstance : PySem.W.nsIn K mainGlobals "isinstance" = some none) (z_int : PySem.W.nsIn K mainGlobals "int" = some none) (z_bool : PySem.W.nsIn K mainGlobals "bool" = some none) (z_list : PySem.W.nsIn K mainGlobals "list" = some none) (z_tuple : PySem.W.nsIn K mainGlobals "tuple" = some none) (z_sorted : PySem.W.nsIn K mainGlobals "sorted" = some none) (z_max : PySem.W.nsIn K mainGlobals "max" = some none) (z_min : PySem.W.nsIn K mainGlobals "min" = some none) (z_all : PySem.W.nsIn K mainGlobals "all" = some none) (z_any : PySem.W.nsIn K mainGlobals "any" = some none) (z_zip : PySem.W.nsIn K mainGlobals "zip" = some none) (z_str : PySem.W.nsIn K mainGlobals "str" = some none) (z_ValueError : PySem.W.nsIn K mainGlobals "ValueError" = some none)
    {t_MOST_PEOPLE t_MOST_GOODS t_GREATEST_BID t_MOST_FIGURES : Tok} (q_MOST_PEOPLE : PySem.W.nsIn K mainGlobals "MOST_PEOPLE" = some (some (.int 9 t_MOST_PEOPLE))) (q_MOST_GOODS : PySem.W.nsIn K mainGlobals "MOST_GOODS" = some (some (.int 40 t_MOST_GOODS))) (q_GREATEST_BID : PySem.W.nsIn K mainGlobals "GREATEST_BID" = some (some (.int 1000000000000 t_GREATEST_BID))) (q_MOST_FIGURES : PySem.W.nsIn K mainGlobals "MOST_FIGURES" = some (some (.int 13 t_MOST_FIGURES)))
    : ∃ fd : FuncData, (∀ (s : Shared) (v : Value), BindsTo s fd ⟨[v], []⟩ [("_law_script", v)]) ∧ ∀ base : Heap, K.In base → base.Ns mainGlobals mg → FnOk l.prog w K mg base CX0 6 fa fd ["_law_script"] (sp_law K) := by
  have e := hfa.symm.trans (PySem.W.mg_of X G a15)
  cases e
  have B : Bt mg := ⟨PySem.W.mg_none_of X G z_len, PySem.W.mg_none_of X G z_range, PySem.W.mg_none_of X G z_sum, PySem.W.mg_none_of X G z_isinstance, PySem.W.mg_none_of X G z_int, PySem.W.mg_none_of X G z_bool, PySem.W.mg_none_of X G z_list, PySem.W.mg_none_of X G z_tuple, PySem.W.mg_none_of X G z_sorted, PySem.W.mg_none_of X G z_max, PySem.W.mg_none_of X G z_min, PySem.W.mg_none_of X G z_all, PySem.W.mg_none_of X G z_any, PySem.W.mg_none_of X G z_zip, PySem.W.mg_none_of X G z_str, PySem.W.mg_none_of X G z_ValueError⟩
  have c_MOST_PEOPLE : KInt mg "MOST_PEOPLE" 9 := ⟨_, PySem.W.mg_of X G q_MOST_PEOPLE⟩
  have c_MOST_GOODS : KInt mg "MOST_GOODS" 40 := ⟨_, PySem.W.mg_of X G q_MOST_GOODS⟩
  have c_GREATEST_BID : KInt mg "GREATEST_BID" 1000000000000 := ⟨_, PySem.W.mg_of X G q_GREATEST_BID⟩
  have c_MOST_FIGURES : KInt mg "MOST_FIGURES" 13 := ⟨_, PySem.W.mg_of X G q_MOST_FIGURES⟩
  have F0 := fun_mk (st := s_is_number) l0 c0 k0
  have b0 := F0.binds (ps := ["thing"]) fun _ _ _ _ _ _ us hl => match us, hl with | [_], _ => rfl
  have D0 : DnX K mg "is_number" s_is_number ["thing"] := ⟨_, _, F0, PySem.W.mg_of X G a0, b0⟩
  have F1 := fun_mk (st := s_is_bid) l1 c1 k1
  have b1 := F1.binds (ps := ["thing"]) fun _ _ _ _ _ _ us hl => match us, hl with | [_], _ => rfl
  have D1 : DnX K mg "is_bid" s_is_bid ["thing"] := ⟨_, _, F1, PySem.W.mg_of X G a1, b1⟩
  have F2 := fun_mk (st := s_check_line) l2 c2 k2
  have b2 := F2.binds (ps := ["line", "many"]) fun _ _ _ _ _ _ us hl => match us, hl with | [_, _], _ => rfl
  have D2 : DnX K mg "check_line" s_check_line ["line", "many"] := ⟨_, _, F2, PySem.W.mg_of X G a2, b2⟩
  have F3 := fun_mk (st := s_check_bids) l3 c3 k3
  have b3 := F3.binds (ps := ["bids"]) fun _ _ _ _ _ _ us hl => match us, hl with | [_], _ => rfl
  have D3 : DnX K mg "check_bids" s_check_bids ["bids"] := ⟨_, _, F3, PySem.W.mg_of X G a3, b3⟩
  have F4 := fun_mk (st := s_shown) l4 c4 k4
  have b4 := F4.binds (ps := ["bids"]) fun _ _ _ _ _ _ us hl => match us, hl with | [_], _ => rfl
  have D4 : DnX K mg "shown" s_shown ["bids"] := ⟨_, _, F4, PySem.W.mg_of X G a4, b4⟩
  have F5 := fun_mk (st := s_is_written) l5 c5 k5
  have b5 := F5.binds (ps := ["word"]) fun _ _ _ _ _ _ us hl => match us, hl with | [_], _ => rfl
  have D5 : DnX K mg "is_written" s_is_written ["word"] := ⟨_, _, F5, PySem.W.mg_of X G a5, b5⟩
  have F6 := fun_mk (st := s_numbers) l6 c6 k6
  have b6 := F6.binds (ps := ["line"]) fun _ _ _ _ _ _ us hl => match us, hl with | [_], _ => rfl
  have D6 : DnX K mg "numbers" s_numbers ["line"] := ⟨_, _, F6, PySem.W.mg_of X G a6, b6⟩
  have F7 := fun_mk (st := s_read) l7 c7 k7
  have b7 := F7.binds (ps := ["text"]) fun _ _ _ _ _ _ us hl => match us, hl with | [_], _ => rfl
  have D7 : DnX K mg "read" s_read ["text"] := ⟨_, _, F7, PySem.W.mg_of X G a7, b7⟩
  have F8 := fun_mk (st := s__law_whole) l8 c8 k8
  have b8 := F8.binds (ps := ["_law_found"]) fun _ _ _ _ _ _ us hl => match us, hl with | [_], _ => rfl
  have D8 : DnX K mg "_law_whole" s__law_whole ["_law_found"] := ⟨_, _, F8, PySem.W.mg_of X G a8, b8⟩
  have F9 := fun_mk (st := s__law_cell) l9 c9 k9
  have b9 := F9.binds (ps := ["_law_script", "_law_k"]) fun _ _ _ _ _ _ us hl => match us, hl with | [_, _], _ => rfl
  have D9 : DnX K mg "_law_cell" s__law_cell ["_law_script", "_law_k"] := ⟨_, _, F9, PySem.W.mg_of X G a9, b9⟩
  have F10 := fun_mk (st := s__law_bid) l10 c10 k10
  have b10 := F10.binds (ps := ["_law_cell_here", "_law_kind"]) fun _ _ _ _ _ _ us hl => match us, hl with | [_, _], _ => rfl
  have D10 : DnX K mg "_law_bid" s__law_bid ["_law_cell_here", "_law_kind"] := ⟨_, _, F10, PySem.W.mg_of X G a10, b10⟩
  have F11 := fun_mk (st := s__law_bids) l11 c11 k11
  have b11 := F11.binds (ps := ["_law_script", "_law_first", "_law_people", "_law_goods", "_law_kind"]) fun _ _ _ _ _ _ us hl => match us, hl with | [_, _, _, _, _], _ => rfl
  have D11 : DnX K mg "_law_bids" s__law_bids ["_law_script", "_law_first", "_law_people", "_law_goods", "_law_kind"] := ⟨_, _, F11, PySem.W.mg_of X G a11, b11⟩
  have F12 := fun_mk (st := s__law_figures) l12 c12 k12
  have b12 := F12.binds (ps := ["_law_number"]) fun _ _ _ _ _ _ us hl => match us, hl with | [_], _ => rfl
  have D12 : DnX K mg "_law_figures" s__law_figures ["_law_number"] := ⟨_, _, F12, PySem.W.mg_of X G a12, b12⟩
  have F13 := fun_mk (st := s__law_same) l13 c13 k13
  have b13 := F13.binds (ps := ["_law_found", "_law_bids_here"]) fun _ _ _ _ _ _ us hl => match us, hl with | [_, _], _ => rfl
  have D13 : DnX K mg "_law_same" s__law_same ["_law_found", "_law_bids_here"] := ⟨_, _, F13, PySem.W.mg_of X G a13, b13⟩
  have F14 := fun_mk (st := s__law_apart) l14 c14 k14
  have b14 := F14.binds (ps := ["_law_rows"]) fun _ _ _ _ _ _ us hl => match us, hl with | [_], _ => rfl
  have D14 : DnX K mg "_law_apart" s__law_apart ["_law_rows"] := ⟨_, _, F14, PySem.W.mg_of X G a14, b14⟩
  have F15 := fun_mk (st := s_law) l15 c15 k15
  have b15 := F15.binds (ps := ["_law_script"]) fun _ _ _ _ _ _ us hl => match us, hl with | [_], _ => rfl
  have D15 : DnX K mg "law" s_law ["_law_script"] := ⟨_, _, F15, PySem.W.mg_of X G a15, b15⟩
  exact ⟨PySem.W.fnOf "law" "law" (defArgs s_law) (defBody s_law) (defScope s_law) .none kV15 dc15 pm15 an15 cd15 ct15, fun s v => .of_eq rfl, fun base _ _ => by
    have O_is_number := ok_is_number (P := l.prog) (w := w) (base := base) D0 B
    have O_is_bid := ok_is_bid (P := l.prog) (w := w) (base := base) D1 B c_GREATEST_BID O_is_number
    have O_check_line := ok_check_line (P := l.prog) (w := w) (base := base) D2 B O_is_bid
    have O_check_bids := ok_check_bids (P := l.prog) (w := w) (base := base) D3 B c_MOST_PEOPLE c_MOST_GOODS O_check_line
    have O_shown := ok_shown (P := l.prog) (w := w) (base := base) D4 B O_check_bids
    have O_is_written := ok_is_written (P := l.prog) (w := w) (base := base) D5 B c_MOST_FIGURES
    have O_numbers := ok_numbers (P := l.prog) (w := w) (base := base) D6 B O_is_written
    have O_read := ok_read (P := l.prog) (w := w) (base := base) D7 B O_check_bids O_numbers
    have O__law_whole := ok__law_whole (P := l.prog) (w := w) (base := base) D8 B
    have O__law_cell := ok__law_cell (P := l.prog) (w := w) (base := base) D9 B
    have O__law_bid := ok__law_bid (P := l.prog) (w := w) (base := base) D10 B
    have O__law_bids := ok__law_bids (P := l.prog) (w := w) (base := base) D11 B O__law_bid O__law_cell
    have O__law_figures := ok__law_figures (P := l.prog) (w := w) (base := base) D12 B
    have O__law_same := ok__law_same (P := l.prog) (w := w) (base := base) D13 B O__law_whole
    have O__law_apart := ok__law_apart (P := l.prog) (w := w) (base := base) D14 B
    exact ok_fn F15 (PySem.W.mg_of X G a15) (ok_law (P := l.prog) (w := w) (base := base) D15 B O__law_bids O_shown O_read O__law_cell O__law_apart O__law_same O__law_figures)⟩
end Fk06
open PySem PySem.W PyProof.Rows
set_option maxHeartbeats 0 in
theorem PySem.Challenge.cw_fairsplit_k06_bids_written_holds : PySem.Challenge.rw_fairsplit_k06_bids_written.Holds := by
  w_on; o_law; k_head; (case hw => w_witness2)
  k_fill
  refine L2.walk_of (l := PySem.Challenge.rw_fairsplit_k06_bids_written) (n := 63) (k := 6) (x := "_law_script") (CX := fun _ => L2.CX0) (sp := fun w => Fk06.sp_law _) rfl (by decide) rfl ⟨rfl, by decide, by decide⟩ (fun w h Y => PySem.W.kIn_of Y) ?F (fun _ H a ns hl hO hS => Fk06.law_start hl hS) (fun _ _ _ _ _ h => h)
  case F =>
    intro w mg fa h KX G hmg
    refine' Fk06.all_mk KX G hmg ?a0 ?l0 ?c0 ?k0 ?a1 ?l1 ?c1 ?k1 ?a2 ?l2 ?c2 ?k2 ?a3 ?l3 ?c3 ?k3 ?a4 ?l4 ?c4 ?k4 ?a5 ?l5 ?c5 ?k5 ?a6 ?l6 ?c6 ?k6 ?a7 ?l7 ?c7 ?k7 ?a8 ?l8 ?c8 ?k8 ?a9 ?l9 ?c9 ?k9 ?a10 ?l10 ?c10 ?k10 ?a11 ?l11 ?c11 ?k11 ?a12 ?l12 ?c12 ?k12 ?a13 ?l13 ?c13 ?k13 ?a14 ?l14 ?c14 ?k14 ?a15 ?l15 ?c15 ?k15 ?z_len ?z_range ?z_sum ?z_isinstance ?z_int ?z_bool ?z_list ?z_tuple ?z_sorted ?z_max ?z_min ?z_all ?z_any ?z_zip ?z_str ?z_ValueError ?q_MOST_PEOPLE ?q_MOST_GOODS ?q_GREATEST_BID ?q_MOST_FIGURES
    (case a0 => k_is); (case l0 => k_is); (case c0 => k_is); (case k0 => k_is); (case a1 => k_is); (case l1 => k_is); (case c1 => k_is); (case k1 => k_is); (case a2 => k_is); (case l2 => k_is); (case c2 => k_is); (case k2 => k_is)
    (case a3 => k_is); (case l3 => k_is); (case c3 => k_is); (case k3 => k_is); (case a4 => k_is); (case l4 => k_is); (case c4 => k_is); (case k4 => k_is); (case a5 => k_is); (case l5 => k_is); (case c5 => k_is); (case k5 => k_is)
    (case a6 => k_is); (case l6 => k_is); (case c6 => k_is); (case k6 => k_is); (case a7 => k_is); (case l7 => k_is); (case c7 => k_is); (case k7 => k_is); (case a8 => k_is); (case l8 => k_is); (case c8 => k_is); (case k8 => k_is)
    (case a9 => k_is); (case l9 => k_is); (case c9 => k_is); (case k9 => k_is); (case a10 => k_is); (case l10 => k_is); (case c10 => k_is); (case k10 => k_is); (case a11 => k_is); (case l11 => k_is); (case c11 => k_is); (case k11 => k_is)
    (case a12 => k_is); (case l12 => k_is); (case c12 => k_is); (case k12 => k_is); (case a13 => k_is); (case l13 => k_is); (case c13 => k_is); (case k13 => k_is); (case a14 => k_is); (case l14 => k_is); (case c14 => k_is); (case k14 => k_is)
    (case a15 => k_is); (case l15 => k_is); (case c15 => k_is); (case k15 => k_is); (case z_len => k_is); (case z_range => k_is); (case z_sum => k_is); (case z_isinstance => k_is); (case z_int => k_is); (case z_bool => k_is); (case z_list => k_is); (case z_tuple => k_is)
    (case z_sorted => k_is); (case z_max => k_is); (case z_min => k_is); (case z_all => k_is); (case z_any => k_is); (case z_zip => k_is); (case z_str => k_is); (case z_ValueError => k_is); (case q_MOST_PEOPLE => k_is); (case q_MOST_GOODS => k_is); (case q_GREATEST_BID => k_is); (case q_MOST_FIGURES => k_is)
