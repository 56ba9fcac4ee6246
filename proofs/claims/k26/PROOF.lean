import PyProof.Rows.All
import Wide.All
import OpenK.AllK
import Wide.FinOn
import HandS.ForMost
import HandS.Wide
import HandS.WideBits
import HandS.Codes
import HandS.Flow
import HandS.Conv
import HandS.Gcd
import HandS.NoneIn
import HandS.IsInst
import HandS.Zip
import HandS.ExcIs
import HandS.ExcValue
import HandS.Style
import HandS.ForExc
import HandS.More
import HandS.Walk
import HandS.Iter
import PySem.Challenge.RW_wholepoll_k26_seals_mended
set_option Elab.async false
set_option maxRecDepth 100000
/-! What all my proofs share: promises under which no repr is going on, repr, an item changed by an operator, data and their texts. -/
namespace My
open PySem L2 PySem.Spec PyProof.Rows

/-! ### an item of a list, to be changed by an operator -/
def rGet0 (K : PySem.W.Frag) : V → V → Hp → VK → Prop := fun x y H Q =>
  ∃ p xs, ∃ (n : Nat) (v : V), x = .ref p ∧ y = .int n ∧ SqL K H p xs ∧ xs[n]? = some v ∧ Q v H
theorem get_list {X : Cx} : PGet X (rGet0 X.K) := by
  intro pins st σ H o i ov iv Q I ro ri h
  obtain ⟨p, xs, n, v, rfl, rfl, hq, he, q⟩ := h
  cases ro
  obtain ⟨tk, rfl⟩ := ri
  obtain ⟨its, rr, pl, hz⟩ := I.list hq
  obtain ⟨u, eu, ru⟩ := rr.get he
  have hn : n < xs.length := (List.getElem?_eq_some_iff.mp he).1
  have h63 := line63
  exact wpAny_getItem_list pl.isList (by omega) (by omega) (by simpa using eu) ⟨v, H, I, ru, q⟩

theorem ixN_nat {n j : Nat} (h : j < n) : ixN n (j : Int) = some j := by
  obtain ⟨k, hk⟩ : ∃ k : Nat, (List.range n)[j]? = some k := ⟨j, by simp [h]⟩
  unfold ixN
  rw [if_pos (by omega)]
  simp [h]
/-! ### comparisons whose answer is told by me -/
def rEqC : R2 := fun x y H Q => ∃ c : Bool, scal x y = true ∧ decide (x = y) = c ∧ Q (.bl c) H
def rNeC : R2 := fun x y H Q => ∃ c : Bool, scal x y = true ∧ decide (x = y) = c ∧ Q (.bl (!c)) H
def rIC (g : Int → Int → Bool) : R2 := fun x y H Q => ∃ i j, ∃ c : Bool, x = .int i ∧ y = .int j ∧ g i j = c ∧ Q (.bl c) H
/-- whole numbers, the answer told by me -/
def rA0 (g : Int → Int → Int) : R2 := fun x y H Q => ∃ i j k, x = .int i ∧ y = .int j ∧ g i j = k ∧ Q (.int k) H
def rA (C : Int → Int → Prop) (g : Int → Int → Int) : R2 := fun x y H Q => ∃ i j k, x = .int i ∧ y = .int j ∧ C i j ∧ g i j = k ∧ Q (.int k) H
def rInC (K : PySem.W.Frag) (neg : Bool) : R2 := fun x y H Q => ∃ p xs, ∃ c : Bool, y = .ref p ∧ (SqL K H p xs ∨ SqT K H p xs) ∧ flatV x = true ∧ xs.all flatV = true ∧ inV x xs = c ∧ Q (.bl (if neg then !c else c)) H
def rEqDC (K : PySem.W.Frag) : R2 := fun x y H Q => ∃ d e, ∃ c : Bool, Dp K H x d ∧ Dp K H y e ∧ SeqAt.shaped d = true ∧ SeqAt.shaped e = true ∧ PyData.eqv d e = c ∧ Q (.bl c) H
def rNeDC (K : PySem.W.Frag) : R2 := fun x y H Q => ∃ d e, ∃ c : Bool, Dp K H x d ∧ Dp K H y e ∧ SeqAt.shaped d = true ∧ SeqAt.shaped e = true ∧ PyData.eqv d e = c ∧ Q (.bl (!c)) H
section
variable {X : Cx}
theorem OpR.imp {f : Value → Value → Sem Value} {r r' : R2} (h : OpR X f r) (hi : ∀ x y H Q, r' x y H Q → r x y H Q) : OpR X f r' :=
  fun pins st σ H x y v u Q I rx ry q => h pins st σ H x y v u Q I rx ry (hi x y H Q q)
theorem op_eqC : OpR X (compareOp .Eq) rEqC := OpR.imp op_eq fun x y H Q ⟨c, h1, h2, q⟩ => ⟨h1, by rw [h2]; exact q⟩
theorem op_neC : OpR X (compareOp .NotEq) rNeC := OpR.imp op_ne fun x y H Q ⟨c, h1, h2, q⟩ => ⟨h1, by rw [h2]; exact q⟩
theorem op_ltC : OpR X (compareOp .Lt) (rIC fun i j => decide (i < j)) := OpR.imp op_lt fun x y H Q ⟨i, j, c, h1, h2, h3, q⟩ => ⟨i, j, h1, h2, by subst h3; exact q⟩
theorem op_leC : OpR X (compareOp .LtE) (rIC fun i j => decide (i ≤ j)) := OpR.imp op_le fun x y H Q ⟨i, j, c, h1, h2, h3, q⟩ => ⟨i, j, h1, h2, by subst h3; exact q⟩
theorem op_gtC : OpR X (compareOp .Gt) (rIC fun i j => decide (j < i)) := OpR.imp op_gt fun x y H Q ⟨i, j, c, h1, h2, h3, q⟩ => ⟨i, j, h1, h2, by subst h3; exact q⟩
theorem op_geC : OpR X (compareOp .GtE) (rIC fun i j => decide (j ≤ i)) := OpR.imp op_ge fun x y H Q ⟨i, j, c, h1, h2, h3, q⟩ => ⟨i, j, h1, h2, by subst h3; exact q⟩
theorem op_addC : OpR X (binaryOp .Add) (rA0 fun i j => i + j) := OpR.imp op_add fun x y H Q ⟨i, j, k, h1, h2, h3, q⟩ => ⟨i, j, h1, h2, by subst h3; exact q⟩
theorem op_subC : OpR X (binaryOp .Sub) (rA0 fun i j => i - j) := OpR.imp op_sub fun x y H Q ⟨i, j, k, h1, h2, h3, q⟩ => ⟨i, j, h1, h2, by subst h3; exact q⟩
def MulOk (i j : Int) : Prop := CMul i j ∨ CMulW i j
theorem op_mulC : OpR X (binaryOp .Mult) (rA MulOk fun i j => i * j) := fun pins st σ H x y v u Q I rx ry ⟨i, j, k, h1, h2, hc, h3, q⟩ =>
  hc.elim (fun c => op_mul pins st σ H x y v u Q I rx ry ⟨i, j, h1, h2, c, by subst h3; exact q⟩) fun c => op_mulW pins st σ H x y v u Q I rx ry ⟨i, j, h1, h2, c, by subst h3; exact q⟩
theorem op_modC : OpR X (binaryOp .Mod) (rA (fun _ j => 0 < j) fun i j => i % j) := OpR.imp op_modN fun x y H Q ⟨i, j, k, h1, h2, hc, h3, q⟩ =>
  ⟨i, j, h1, h2, Int.ne_of_gt hc, by subst h3; show Q (.int (i.fmod j)) H; rw [Int.fmod_eq_emod_of_nonneg i (Int.le_of_lt hc)]; exact q⟩
theorem op_fdivC : OpR X (binaryOp .FloorDiv) (rA CDivW fun i j => i / j) := OpR.imp op_fdivW fun x y H Q ⟨i, j, k, h1, h2, hc, h3, q⟩ => ⟨i, j, h1, h2, hc, by subst h3; exact q⟩
theorem op_inC : OpR X (compareOp .In) (rInC X.K false) := OpR.imp op_in_seq fun x y H Q ⟨p, xs, c, h1, h2, h3, h4, h5, q⟩ => ⟨p, xs, h1, h2, h3, h4, by subst h5; exact q⟩
theorem op_niC : OpR X (compareOp .NotIn) (rInC X.K true) := OpR.imp op_notIn_seq fun x y H Q ⟨p, xs, c, h1, h2, h3, h4, h5, q⟩ => ⟨p, xs, h1, h2, h3, h4, by subst h5; exact q⟩
theorem op_eqDC (hu : X.A.units + 64 < cLine) : OpR X (compareOp .Eq) (rEqDC X.K) := OpR.imp (op_eqD hu) fun x y H Q ⟨d, e, c, h1, h2, h3, h4, h5, q⟩ => ⟨d, e, h1, h2, h3, h4, by rw [h5]; exact q⟩
theorem op_neDC (hu : X.A.units + 64 < cLine) : OpR X (compareOp .NotEq) (rNeDC X.K) := OpR.imp (op_neD hu) fun x y H Q ⟨d, e, c, h1, h2, h3, h4, h5, q⟩ => ⟨d, e, h1, h2, h3, h4, by rw [h5]; exact q⟩
end

/-! ### data whose text is short -/
mutual
def wt : PyData → Nat
  | .none => 4
  | .bool _ => 5
  | .int _ => 1921
  | .str x => (reprText x).length
  | .list xs => wtAll xs + 2
  | .tuple xs => wtAll xs + 3
  | .dict _ => 0
def wtAll : List PyData → Nat
  | [] => 0
  | x :: xs => wt x + 2 + wtAll xs
end
/-- d: no dict within, not deeper than k, its text not longer than n -/
structure Fine (k n : Nat) (d : PyData) : Prop where
  lay : d.canLay0 = true
  sh : d.showable = true
  nd : d.hasDict = false
  dep : d.depth ≤ k
  sz : wt d ≤ n
structure FineL (k n : Nat) (ds : List PyData) : Prop where
  lay : PyData.canLayAll0 ds = true
  sh : PyData.showableAll ds = true
  nd : PyData.hasDictAll ds = false
  dep : PyData.depthAll ds ≤ k
  sz : wtAll ds ≤ n
theorem Fine.none : Fine 0 4 .none := ⟨rfl, rfl, rfl, Nat.le_refl _, Nat.le_refl _⟩
theorem Fine.bool (b : Bool) : Fine 0 5 (.bool b) := ⟨rfl, rfl, rfl, Nat.le_refl _, Nat.le_refl _⟩
theorem Fine.int {i : Int} (h : i.natAbs.log2 < 1920) : Fine 0 1921 (.int i) :=
  ⟨rfl, by show decide _ = true; exact decide_eq_true h, rfl, Nat.le_refl _, Nat.le_refl _⟩
theorem Fine.str {x : Str} (h : PyData.canLay0 (.str x) = true) : Fine 0 (reprText x).length (.str x) := ⟨h, rfl, rfl, Nat.le_refl _, Nat.le_refl _⟩
theorem Fine.up {k n k' n' : Nat} {d : PyData} (h : Fine k n d) (hk : k ≤ k') (hn : n ≤ n') : Fine k' n' d :=
  ⟨h.lay, h.sh, h.nd, Nat.le_trans h.dep hk, Nat.le_trans h.sz hn⟩
theorem FineL.nil : FineL 0 0 [] := ⟨rfl, rfl, rfl, Nat.le_refl _, Nat.le_refl _⟩
theorem FineL.up {k n k' n' : Nat} {d : List PyData} (h : FineL k n d) (hk : k ≤ k') (hn : n ≤ n') : FineL k' n' d :=
  ⟨h.lay, h.sh, h.nd, Nat.le_trans h.dep hk, Nat.le_trans h.sz hn⟩
theorem FineL.cons {k n m : Nat} {d : PyData} {ds : List PyData} (h : Fine k n d) (hs : FineL k m ds) : FineL k (n + 2 + m) (d :: ds) := by
  refine ⟨?_, ?_, ?_, ?_, ?_⟩
  · show (d.canLay0 && PyData.canLayAll0 ds) = true
    rw [h.lay, hs.lay] <;> rfl
  · show (d.showable && PyData.showableAll ds) = true
    rw [h.sh, hs.sh] <;> rfl
  · show (d.hasDict || PyData.hasDictAll ds) = false
    rw [h.nd, hs.nd] <;> rfl
  · show max d.depth (PyData.depthAll ds) ≤ k
    exact Nat.max_le.mpr ⟨h.dep, hs.dep⟩
  · show wt d + 2 + wtAll ds ≤ n + 2 + m
    have a := h.sz
    have b := hs.sz
    omega
theorem FineL.all {k n : Nat} : ∀ {ds : List PyData}, (∀ d ∈ ds, Fine k n d) → FineL k (ds.length * (n + 2)) ds
  | [], _ => FineL.nil.up (Nat.zero_le _) (Nat.zero_le _)
  | d :: ds, h => ((h d (List.mem_cons_self ..)).up (Nat.le_refl _) (Nat.le_refl _)) |> fun a =>
    (FineL.cons a (FineL.all fun e he => h e (List.mem_cons_of_mem _ he))).up (Nat.le_refl _) (by rw [List.length_cons, Nat.succ_mul]; omega)
theorem Fine.list {k n : Nat} {ds : List PyData} (h : FineL k n ds) : Fine (k + 1) (n + 2) (.list ds) :=
  ⟨h.lay, h.sh, h.nd, Nat.succ_le_succ h.dep, Nat.add_le_add_right h.sz 2⟩
theorem Fine.tuple {k n : Nat} {ds : List PyData} (h : FineL k n ds) : Fine (k + 1) (n + 3) (.tuple ds) :=
  ⟨h.lay, h.sh, h.nd, Nat.succ_le_succ h.dep, Nat.add_le_add_right h.sz 3⟩
def fineB (d : PyData) : Bool := d.canLay0 && d.showable && !d.hasDict && decide (d.depth ≤ 60) && decide (wt d ≤ 16000000)
theorem fineNow {d : PyData} (h : fineB d = true) : Fine 60 16000000 d := by
  unfold fineB at h
  simp only [Bool.and_eq_true, decide_eq_true_eq, Bool.not_eq_true'] at h
  obtain ⟨⟨⟨⟨h1, h2⟩, h3⟩, h4⟩, h5⟩ := h
  exact ⟨h1, h2, h3, h4, h5⟩
theorem bool_text (b : Bool) : ((if b then "True" else "False" : Str)).length ≤ 5 := by cases b <;> decide
theorem int_text {i : Int} (h : i.natAbs.log2 < 1920) : (Str.ofString (toString i)).length ≤ 1921 := int_text_len_1921 h
theorem pile_le : ∀ (ts : List Str), (listText ts).length ≤ piled ts + 2 := by
  intro ts
  unfold listText
  have e2 : (Str.ofString "]").length = 1 := by decide
  have e1 : (Str.ofString "[").length = 1 := by decide
  rw [Str.length_append, e2]
  cases ts with
  | nil => simp only [textFrom, e1, piled_nil]; decide
  | cons t ts =>
    have h0 : ∀ acc : Str, textFrom 0 acc (t :: ts) = textFrom 1 (acc ++ Str.ofString "" ++ t) ts := fun _ => rfl
    rw [h0, textFrom_length_pos ts 1 _ (by decide), Str.length_append, Str.length_append, e1, piled_cons]
    have e0 : (Str.ofString "").length = 0 := by decide
    rw [e0]
    omega
theorem tup_le : ∀ (ts : List Str), (tupleText ts).length ≤ piled ts + 3 := by
  intro ts
  unfold tupleText
  have e1 : (Str.ofString "(").length = 1 := by decide
  have e3 : ((if ts.length == 1 then ",)" else ")" : String) : Str).length ≤ 2 := by split <;> decide
  rw [Str.length_append, Str.length_append, e1]
  by_cases h : ts = []
  · subst h
    have : (Str.join (Str.ofString ", ") []).length = 0 := by decide
    rw [this, piled_nil]
    omega
  · have := join_length_add ts h
    omega
mutual
theorem shown_le : ∀ (d : PyData), d.showable = true → d.hasDict = false → d.shown.length ≤ wt d
  | .none, _, _ => by decide
  | .bool b, _, _ => bool_text b
  | .int i, h, _ => int_text (by simpa [PyData.showable] using h)
  | .str x, _, _ => Nat.le_refl _
  | .list xs, h, hn => by
    have a := shownL_le xs (by simpa [PyData.showable] using h) (by simpa [PyData.hasDict] using hn)
    show (listText (PyData.shownAll xs)).length ≤ wtAll xs + 2
    have := pile_le (PyData.shownAll xs)
    omega
  | .tuple xs, h, hn => by
    have a := shownL_le xs (by simpa [PyData.showable] using h) (by simpa [PyData.hasDict] using hn)
    show (tupleText (PyData.shownAll xs)).length ≤ wtAll xs + 3
    have := tup_le (PyData.shownAll xs)
    omega
  | .dict kvs, _, hn => by simp [PyData.hasDict] at hn
theorem shownL_le : ∀ (ds : List PyData), PyData.showableAll ds = true → PyData.hasDictAll ds = false → piled (PyData.shownAll ds) ≤ wtAll ds
  | [], _, _ => by simp [PyData.shownAll, piled_nil, wtAll]
  | d :: ds, h, hn => by
    have h' : (d.showable && PyData.showableAll ds) = true := h
    have hn' : (d.hasDict || PyData.hasDictAll ds) = false := hn
    rw [Bool.and_eq_true] at h'
    rw [Bool.or_eq_false_iff] at hn'
    have a := shown_le d h'.1 hn'.1
    have b := shownL_le ds h'.2 hn'.2
    show piled (d.shown :: PyData.shownAll ds) ≤ wt d + 2 + wtAll ds
    rw [piled_cons]
    omega
end
/-! ### repr of data -/
def rRepr (K : PySem.W.Frag) : List V → Hp → VK → Prop := fun xs H Q =>
  ∃ x d, xs = [x] ∧ Dp K H x d ∧ Fine 60 16000000 d ∧ Q (.str d.shown) H
theorem call_repr {X : Cx} (hg : X.A.guards = some []) (hu : X.A.units + 64 < cLine) : CallR X (.builtin "repr") (rRepr X.K) := by
  intro pins st σ H xs us Q I rv h
  obtain ⟨x, d, rfl, hd, hf, q⟩ := h
  obtain ⟨u, rfl, ru⟩ := vals1 rv
  obtain ⟨as, rd⟩ := Dp.reads I d x u hd ru
  have hz : d.shown.length ≤ sizeLine := by
    have a := shown_le d hf.sh hf.nd
    have b := hf.sz
    rw [sizeLine_eq]
    omega
  have fin : ∀ t tk, EP X pins σ Q (.str d.shown t) { st with toks := tk } := fun t tk => ⟨.str d.shown, H, I.tok tk, ⟨t, rfl⟩, q⟩
  have big : ∀ a, u = .ref a → wpAny (model X.prog X.w) X.A (call (.builtin "repr") [u]) (EP X pins σ Q) X.xe st := fun a e => by
    subst e
    have hdp := hf.dep
    exact repr_of_reads' rd hf.sh (PyData.noDict_hsm hf.nd) hg (by omega) (fun _ _ e => e)
      (fun h' t tk hk => ⟨.str d.shown, H, I.kept hk, ⟨t, rfl⟩, q⟩) hz
  cases rd with
  | none => exact PySem.P.repr_of_none (fin _ _)
  | bool b => exact PySem.P.repr_of_bool (fin _ _)
  | int i t => exact PySem.P.repr_of_int (by simpa [PyData.showable] using hf.sh) (fin _ _)
  | str y t => exact PySem.P.repr_of_str (fin _ _) hz
  | list a1 a2 a3 a4 => exact big _ rfl
  | tuple a1 a2 a3 a4 => exact big _ rfl
  | dict a1 a2 a3 a4 a5 => exact absurd hf.nd (by simp [PyData.hasDict])
end My

set_option Elab.async false
set_option maxRecDepth 100000
/-! Defs whose promise is shown where no repr is going on. -/
namespace My
open PySem L2 PySem.Spec PyProof.Rows

/-- as FnOk (no exception leaves), where it is known that nothing is being shown -/
structure FnG (P : Program) (w : World) (K : PySem.W.Frag) (mg : Str → Option Value) (base : Heap) (k : Nat)
    (f : Addr) (fd : FuncData) (ps : List Str) (sp : Sp) : Prop where
  len : ∀ vs H Q E, sp vs H Q E → vs.length = ps.length
  run : ∀ (A : Around) (out : List Env) (st : Shared) (H : Hp) (ar : Args) (us : List Value) (vs : List V) (Q : VK) (E : XK),
    Room k A → A.guards = some [] → Env0 P w K mg base A out st H → BindsTo st fd ar (ps.zip us) →
    Vals vs us → sp vs H Q E → codeAny (model P w) A (.call (.ref f) ar) (CR CX0 out P w H st Q E) st
section
variable {P : Program} {w : World} {K : PySem.W.Frag} {mg : Str → Option Value} {base : Heap} {k : Nat}
  {f : Addr} {fd : FuncData} {ps : List Str} {sp : Sp}
theorem FnG.of (F : FnOk P w K mg base CX0 k f fd ps sp) : FnG P w K mg base k f fd ps sp :=
  ⟨F.len, fun A out st H ar us vs Q E hr _ => F.run A out st H ar us vs Q E hr⟩
theorem FnG.mono {j : Nat} (F : FnG P w K mg base j f fd ps sp) (h : j ≤ k) : FnG P w K mg base k f fd ps sp :=
  ⟨F.len, fun A out st H ar us vs Q E hr => F.run A out st H ar us vs Q E (hr.mono h)⟩
end

section
variable {X : Cx} {k : Nat} {f : Addr} {fd : FuncData} {ps : List Str} {sp : Sp} {x : Str} {p pos : Pos} {e : Expr} {es : List Expr} {t : TA}
theorem run_g {pins : List (Addr × Obj)} {σ : L2.St} {H : Hp} {st : Shared} {Q : VK} {us : List Value} {vs : List V}
    (F : FnG X.prog X.w X.K X.mg X.base k f fd ps sp) (hr : Room k X.A) (hg : X.A.guards = some []) (hb : Binds X.K fd ps [])
    (I : Inv X pins σ H st) (r : Vals vs us) (h : sp vs H Q E0) :
    wpAny (model X.prog X.w) X.A (call (.ref f) us) (EP X pins σ Q) X.xe st := by
  have hl : (us ++ ([] : List Value)).length = ps.length := by
    rw [List.append_nil, ← r.length]
    exact F.len _ _ _ _ h
  have hb' := hb st us I.kIn hl
  rw [List.append_nil] at hb'
  refine wpAny_call (codeAny_mono (F.run X.A X.stack st H ⟨us, []⟩ us vs Q E0 hr hg I.env0 hb' r h) ?_)
  intro res st' hq
  match res, hq with
  | .error _, hq => exact False.elim hq
  | .ok (.ret _), hq => exact I.after hq
  | .ok .next, hq => exact False.elim hq
  | .ok .brk, hq => exact False.elim hq
  | .ok .cont, hq => exact False.elim hq
theorem pe_callG (F : FnG X.prog X.w X.K X.mg X.base k f fd ps sp) (hr : Room k X.A) (hg : X.A.guards = some []) (gl : Gl X x)
    (hm : X.mg x = some (.ref f)) (hk : PySem.W.keepIn X.K (.ref f) = true) (hb : Binds X.K fd ps []) (ha : PA X (e :: es) t)
    (hdb : (x == ("__debug__" : Str)) = false := by decide) (he : starEach (e :: es) X.env = (false, eval e X.env) :: starEach es X.env := by rfl)
    (hpl : (backTo pos (starEach es X.env)).any (·.1) = false := by rfl) : PE X (.Call (.Name x p) (e :: es) [] pos) (tCall sp [] E0 t) := by
  constructor
  intro pins st σ H Q I h
  refine wpAny_Call_Name_kw (ld_glob I gl hm ?_ hdb)
  refine PySem.W.callWith_K (h₀ := X.base) I.ok.mod.kin hk (thn (ha.run pos pins st σ H _ I h) ?_) he hpl
  rintro us s1 ⟨vs, H1, I1, r, q⟩
  have q' : sp vs H1 Q E0 := by
    have q2 : sp (vs ++ []) H1 Q E0 := q
    rwa [List.append_nil] at q2
  exact ⟨I1.kIn, run_g F hr hg hb I1 r q'⟩
theorem pe_callG0 (F : FnG X.prog X.w X.K X.mg X.base k f fd ps sp) (hr : Room k X.A) (hg : X.A.guards = some []) (gl : Gl X x)
    (hm : X.mg x = some (.ref f)) (hk : PySem.W.keepIn X.K (.ref f) = true) (hb : Binds X.K fd ps [])
    (hdb : (x == ("__debug__" : Str)) = false := by decide) : PE X (.Call (.Name x p) [] [] pos) (tCall sp [] E0 tNil) := by
  constructor
  intro pins st σ H Q I h
  have q2 : sp ([] ++ []) H Q E0 := h
  exact wpAny_Call_Name_kw (ld_glob I gl hm (PySem.W.callWith_K0 I.kIn hk (run_g (us := []) F hr hg hb I .nil q2)) hdb)
end

/-- a def by its body, where nothing is being shown -/
theorem okG {P : Program} {w : World} {K : PySem.W.Frag} {mg : Str → Option Value} {base : Heap} {x qual : Str} {sm : Stmt} {f : Addr} {fd : FuncData}
    {N ps : List Str} {k : Nat} {sp : Sp} (F : Fun K x qual sm f fd) (S : FnScope N ps (defScope sm)) (len : ∀ vs H Q E, sp vs H Q E → vs.length = ps.length)
    (hbody : ∀ (cdv : Value) (A : Around) (out : List Env) (st : Shared) (H : Hp) (vs : List V) (Q : VK) (E : XK),
      Room k (A.deeper (envOfC qual (defScope sm) st.heap.objs.size f cdv)) → (A.deeper (envOfC qual (defScope sm) st.heap.objs.size f cdv)).guards = some [] → sp vs H Q E →
      ∃ t, PSs (cxOf CX0 P w K mg base N qual (defScope sm) f cdv A out st H E).nox (defBody sm) t ∧ t { nx := fun _ H' => Q .non H', rt := Q } (start N vs) H) :
    FnG P w K mg base (k + 1) f fd ps sp := by
  obtain ⟨oc, od, kV, doc, pm, an, cdv, ct, osl, rfl, lk, hcd⟩ := F.ex
  refine ⟨len, ?_⟩
  intro A out st H ar us vs Q E hr hgd e0 hb rv hsp
  have n1 := len _ _ _ _ hsp
  have kin : K.In st.heap := e0.mod.kin.keeps fun b o z => (e0.bs b o z).1
  have lim : st.heap.NoLimit := e0.mod.nolimit.keeps fun b o z => (e0.bs b o z).1
  have kinds : ∀ y ∈ ps.zip us, (defScope sm).names.lookup y.1 = some .local ∨
      ((defScope sm).names.lookup y.1 = some .cell ∧ ((cellsFrom (st.heap.objs.size + 1) (defScope sm).names []).lookup y.1).isSome = true) := by
    rintro ⟨n, v⟩ hy
    rcases S.par n (List.of_mem_zip hy).1 with q | q
    · exact .inl q
    · exact .inr ⟨q, PySem.W.cellsFrom_some _ _ _ (.inl q)⟩
  refine codeAny_call_function hr.depth (kin _ _ lk) rfl S.co S.gen rfl (PySem.W.codeRec_of kin hcd) (hb _ _ _ _ ?_)
  refine wpAny_newFunctionEnv_cells S.kind kinds ?_
  intro env he s1 x1
  subst he
  obtain ⟨t, ht, hq⟩ := hbody cdv A out st H vs Q E (hr.deeper _) hgd hsp
  refine ⟨lim.keeps x1.toInCall.keep, codeAny_func ?_⟩
  have I : Inv (cxOf CX0 P w K mg base N qual (defScope sm) f cdv A out st H E) [] (start N vs) H s1 := inv_start S hr.hd e0 n1 rv x1
  refine wpAny_mono (ht.nox.run [] s1 (start N vs) H _ I hq) ?_ fun e s' hs => hs
  intro fl s' hs
  match fl, hs with
  | .ret u, hs =>
    obtain ⟨v, σ', H', J, rv', q⟩ := hs
    exact ⟨v, H', J.os, J.bare, J.base, J.hok, rv', q⟩
  | .next, hs =>
    obtain ⟨σ', H', J, q⟩ := hs
    exact ⟨.non, H', J.os, J.bare, J.base, J.hok, rfl, q⟩
  | .brk, hs =>
    obtain ⟨_, _, _, q⟩ := hs
    exact False.elim q
  | .cont, hs =>
    obtain ⟨_, _, _, q⟩ := hs
    exact False.elim q

/-- one def of the text, as it stands behind the top -/
structure Df (K : PySem.W.Frag) (mg : Str → Option Value) (name : Str) (sm : Stmt) (ps : List Str) where
  f : Addr
  fd : FuncData
  F : Fun K name name sm f fd
  mg : mg name = some (.ref f)
  kp : PySem.W.keepIn K (.ref f) = true
  b : Binds K fd ps []
end My

set_option Elab.async false
set_option maxRecDepth 100000
/-! The law's own call, from a promise that may lean on it that nothing is being shown. -/
namespace My
open PySem L2 PySem.Spec PyProof.Rows

def lawEnd (st : Shared) : Result → Shared → Prop := fun r s' =>
  r = .ok (.ret (.bool true)) ∧ OldK st.heap s'.heap ∧ s'.os = st.os ∧ AllBare s'.gens

/-- from an abstract heap in which at most the script stands -/
theorem law_from {P : Program} {w : World} {K : PySem.W.Frag} {mg mb : Str → Option Value} {k : Nat} {fa a : Addr} {fd : FuncData} {x : Str} {sp : Sp}
    {st : Shared} {vs : List Value} {H : Hp}
    (KX : K.In st.heap) (hns : st.heap.Ns mainGlobals mg) (hb : st.heap.Ns builtinsNs mb) (hbb : ∀ y : Str, y ≠ "__name__" → mb y = bootBuiltins y)
    (hlim : st.heap.NoLimit) (hgn : st.gens = #[]) (ha : st.heap.get? a = some { cls := .type "list", data := .seq vs.toArray }) (hr : Room k callerA)
    (F : ∀ base : Heap, K.In base → base.Ns mainGlobals mg → FnG P w K mg base k fa fd [x] sp)
    (hbind : ∀ (s : Shared) (u : Value), BindsTo s fd ⟨[u], []⟩ [(x, u)])
    (hsp : sp [.ref a] H (fun v _ => v = .bl true) fun _ _ _ => False)
    (hO : Only H) (hok : HOk P w H st.heap) (hA : ∀ b, H b ≠ none → b = a) (hK : H a ≠ none → K.lookup a = none) :
    codeAny (model P w) callerA (.call (.ref fa) ⟨[.ref a], []⟩) (lawEnd st) st := by
  have isA : ∀ {b : Addr} {u : HO}, H b = some u → b = a := fun {b u} q => hA b (by rw [q]; simp)
  have dictFree : ∀ {b : Addr} {o : Obj} {es : Array DictEntry} {ep : Nat}, st.heap.get? b = some o → o.data = .dict es ep → H b = none := by
    intro b o es ep e d
    match q : H b with
    | none => rfl
    | some u =>
      obtain rfl := isA q
      rw [ha] at e
      cases e
      cases (show Data.seq vs.toArray _ = Data.dict es ep from d)
  have nsOf : ∀ {b : Addr} {m : Str → Option Value}, st.heap.Ns b m → (hidT st.heap H).Ns b m := by
    rintro b m ⟨o, es, ep, e, d, r⟩
    exact ⟨o, es, ep, hidT_get e (dictFree e d), d, r⟩
  have kin : K.In (hidT st.heap H) := by
    intro b o e
    refine hidT_get (KX b o e) ?_
    match q : H b with
    | none => rfl
    | some u =>
      obtain rfl := isA q
      rw [hK (by rw [q]; simp)] at e
      cases e
  have md : Mod K mg (hidT st.heap H) := by
    obtain ⟨mc, l1, l2⟩ := hlim
    exact ⟨kin, nsOf hns, ⟨mb, nsOf hb, hbb⟩, ⟨mc, nsOf l1, l2⟩⟩
  have e0 : Env0 P w K mg (hidT st.heap H) callerA [] st H := by
    refine ⟨rfl, md, fun b o e => of_hidT e, Nat.le_of_eq (hidT_size _ _), trivial, ?_, hok, .of_eq hgn⟩
    intro b hb'
    cases (show b ∈ ([] : List Addr) from hb')
  have go := (F _ kin (nsOf hns)).run callerA [] st H ⟨[.ref a], []⟩ [.ref a] [.ref a] _ _ hr rfl e0 (hbind st (.ref a)) (.cons rfl .nil) hsp
  refine codeAny_mono go ?_
  intro r s' h
  match r, h with
  | .error _, h => exact False.elim h
  | .ok .next, h => exact False.elim h
  | .ok .brk, h => exact False.elim h
  | .ok .cont, h => exact False.elim h
  | .ok (.ret u), h =>
    obtain ⟨v, H', os, bare, un, hok', rr, q⟩ := h
    have q' : v = .bl true := q
    subst q'
    obtain rfl : u = Value.bool true := rr
    refine ⟨rfl, OldK.of_keep ?_, os, bare⟩
    intro b o e
    match q : H b with
    | none =>
      refine un.keep b o e q (fun z => ?_) (by simp)
      cases (show b ∈ ([] : List Addr) from z)
    | some u =>
      rcases hO b with z | ⟨ob, xs, z⟩
      · rw [q] at z
        cases z
      · obtain ⟨e1, _⟩ := hok b _ z
        obtain ⟨e2, _⟩ := hok' b _ (un.frzs b ob _ z)
        rw [e] at e1
        cases e1
        exact e2

theorem law_runs {P : Program} {w : World} {K : PySem.W.Frag} {mg mb : Str → Option Value} {k : Nat} {fa a : Addr} {fd : FuncData} {x : Str} {sp : Sp}
    {st : Shared} {vs : List Value} {ns : List Int}
    (KX : K.In st.heap) (hns : st.heap.Ns mainGlobals mg) (hb : st.heap.Ns builtinsNs mb) (hbb : ∀ y : Str, y ≠ "__name__" → mb y = bootBuiltins y)
    (hlim : st.heap.NoLimit) (hgn : st.gens = #[]) (ha : st.heap.get? a = some { cls := .type "list", data := .seq vs.toArray })
    (hi : IntsAre vs ns) (hl : ns.length ≤ sizeLine) (hr : Room k callerA)
    (F : ∀ base : Heap, K.In base → base.Ns mainGlobals mg → FnG P w K mg base k fa fd [x] sp)
    (hbind : ∀ (s : Shared) (u : Value), BindsTo s fd ⟨[u], []⟩ [(x, u)])
    (hsp : ∀ H : Hp, Only H → SqL K H a (ns.map V.int) → sp [.ref a] H (fun v _ => v = .bl true) fun _ _ _ => False) :
    codeAny (model P w) callerA (.call (.ref fa) ⟨[.ref a], []⟩) (lawEnd st) st := by
  have rv := vals_ints hi
  have n1 := hi.length
  match hk : K.lookup a with
  | some o =>
    have e := KX a o hk
    rw [ha] at e
    cases e
    have hO : Only fun _ => none := fun _ => .inl rfl
    have hS : SqL K (fun _ => none) a (ns.map V.int) :=
      .inr ⟨_, vs.toArray, _, hk, rfl, rfl, rfl, by rw [List.size_toArray, n1]; exact hl, by simpa using rv⟩
    refine law_from KX hns hb hbb hlim hgn ha hr F hbind (hsp _ hO hS) hO ?_ (fun b z => absurd rfl z) fun z => absurd rfl z
    intro b u z
    cases (show (none : Option HO) = some u from z)
  | none =>
    let H : Hp := fun b => if b = a then some (.frz { cls := .type "list", data := .seq vs.toArray } (.lst (ns.map V.int))) else none
    have at_a : H a = some (.frz { cls := .type "list", data := .seq vs.toArray } (.lst (ns.map V.int))) := if_pos rfl
    have off : ∀ b, b ≠ a → H b = none := fun b n => if_neg n
    have hO : Only H := fun b => by
      by_cases n : b = a
      · subst n
        exact .inr ⟨_, _, at_a⟩
      · exact .inl (off b n)
    refine law_from KX hns hb hbb hlim hgn ha hr F hbind (hsp H hO (.inl (.inr ⟨_, at_a⟩))) hO ?_ ?_ fun _ => hk
    · intro b u z
      by_cases n : b = a
      · subst n
        rw [at_a] at z
        cases z
        exact ⟨ha, by rw [List.length_map]; exact hl, vs, _, rv, ha⟩
      · rw [off b n] at z
        cases z
    · intro b z
      by_cases n : b = a
      · exact n
      · exact absurd (off b n) z

/-- the goal behind the head -/
theorem walkG {l : PySem.W.OpenLaw} {k : Nat} {q : Program} {loose : List Str} {XP : (Str → Option Value) → Heap → Prop} {YP : World → Heap → Prop}
    {d : DefRec} {K : Params → PySem.W.Frag} {x : Str} (sp : PySem.W.Frag → Sp) (hn : l.most = some 63) (hdf : d.params.defaults = []) (hr : Room k callerA)
    (hY : ∀ (w : World) (h : Heap), YP w h → (K w.params).In h)
    (F : ∀ (w : World) (mg : Str → Option Value) (fa : Addr) (h : Heap), (K w.params).In h → h.Ns mainGlobals mg → mg d.name = some (.ref fa) →
      ∃ fd : FuncData, (∀ (s : Shared) (u : Value), BindsTo s fd ⟨[u], []⟩ [(x, u)]) ∧
        ∀ base : Heap, (K w.params).In base → base.Ns mainGlobals mg → FnG l.prog w (K w.params) mg base k fa fd [x] (sp (K w.params)))
    (hsp : ∀ (K : PySem.W.Frag) (H : Hp) (a : Addr) (ns : List Int), ns.length ≤ 63 → SqL K H a (ns.map V.int) → sp K [.ref a] H (fun v _ => v = .bl true) fun _ _ _ => False) :
    PySem.W.WalkO q loose XP YP l.row.toRowW d [] (fun f vs => PySem.call f vs) := by
  refine Att.attach_call hn hdf ?_
  intro w s₀ st mg mb fa o pm cd doc a vs ns G Y ho hd hcd hmg hobj hints hlen hgn
  obtain ⟨fd, hb, hF⟩ := F w mg fa _ (hY w _ Y) G.T.g hmg
  exact law_runs (hY w _ Y) G.T.g G.T.b G.T.builtins G.T.nolimit hgn hobj hints (Nat.le_trans hlen (by decide)) hr hF hb
    fun H _ hS => hsp _ H a ns hlen hS
end My

set_option Elab.async false
set_option maxRecDepth 100000
/-! The law's bag of draws: what stands of it behind each draw. -/
namespace My
open PySem L2 PySem.Spec PyProof.Rows

/-- the bag at b has its numbers at l -/
def Cl (H : Hp) (b l : Addr) : Prop := ∃ z m k : Int, H b = some (.lst [.int z, .int m, .int k, .ref l])
/-- what was tracked is as it was, but the bag, which has its numbers where they were -/
structure Keep (b : Addr) (H H' : Hp) : Prop where
  st : ∀ a o, H a = some o → a ≠ b → H' a = some o
  cl : ∀ l, Cl H b l → Cl H' b l
instance {b : Addr} {H H' : Hp} : CoeFun (Keep b H H') (fun _ => ∀ a o, H a = some o → a ≠ b → H' a = some o) := ⟨Keep.st⟩
theorem Keep.refl {b : Addr} {H : Hp} : Keep b H H := ⟨fun _ _ h _ => h, fun _ h => h⟩
theorem Keep.trans {b : Addr} {H H1 H2 : Hp} (h : Keep b H H1) (g : Keep b H1 H2) : Keep b H H2 := ⟨fun a o e n => g.st a o (h.st a o e n) n, fun l c => g.cl l (h.cl l c)⟩
theorem Keep.of {b : Addr} {H H' : Hp} (h : Same H H') : Keep b H H' := ⟨fun a o e _ => h a o e, fun l ⟨z, m, k, e⟩ => ⟨z, m, k, h _ _ e⟩⟩
theorem Same.new {H : Hp} {p : Addr} {o : HO} (h : H p = none) : Same H (upd H p o) := fun a u e => by
  rw [upd_ne (ne_of_none e h)]
  exact e
theorem same_none {H H' : Hp} (s : Same H H') {p : Addr} (h : H' p = none) : H p = none := by
  match e : H p with
  | none => rfl
  | some o =>
    rw [s p o e] at h
    cases h
theorem Same.mut {H H' : Hp} {p : Addr} {o : HO} (h : H p = none) (s : Same H H') : Same H (upd H' p o) := fun a u e => by
  rw [upd_ne (ne_of_none e h)]
  exact s a u e
theorem Keep.new {b : Addr} {H H' : Hp} {p : Addr} {o : HO} (k : Keep b H H') (h : H' p = none) : Keep b H (upd H' p o) := k.trans (.of (Same.new h))

/-- the bag at b -/
structure BagAt (H : Hp) (b l : Addr) (z m : Int) (k : Nat) (cs : List Int) : Prop where
  ob : H b = some (.lst [.int z, .int m, .int (k : Int), .ref l])
  cl : H l = some (.lst (cs.map V.int))
  z0 : 0 ≤ z
  m0 : 0 ≤ m
  m1 : m < 2147483647
  c0 : ∀ c ∈ cs, 0 ≤ c
  len : cs.length ≤ 63
def Bag (H : Hp) (b : Addr) : Prop := ∃ l z m k cs, BagAt H b l z m k cs
theorem BagAt.ne {H : Hp} {b l : Addr} {z m : Int} {k : Nat} {cs : List Int} (B : BagAt H b l z m k cs) : l ≠ b := by
  intro e
  have h1 := B.ob
  rw [← e, B.cl] at h1
  have h2 := HO.lst.inj (Option.some.inj h1)
  have h3 : V.ref l ∈ cs.map V.int := by rw [h2]; simp
  obtain ⟨c, _, hc⟩ := List.mem_map.mp h3
  cases hc
theorem BagAt.same {H H' : Hp} {b l : Addr} {z m : Int} {k : Nat} {cs : List Int} (B : BagAt H b l z m k cs) (s : Same H H') : BagAt H' b l z m k cs :=
  ⟨s _ _ B.ob, s _ _ B.cl, B.z0, B.m0, B.m1, B.c0, B.len⟩
theorem Bag.same {H H' : Hp} {b : Addr} (B : Bag H b) (s : Same H H') : Bag H' b := by
  obtain ⟨l, z, m, k, cs, B⟩ := B
  exact ⟨l, z, m, k, cs, B.same s⟩
theorem Bag.some {H : Hp} {b : Addr} (B : Bag H b) : ∃ o, H b = some o := by
  obtain ⟨l, z, m, k, cs, B⟩ := B
  exact ⟨_, B.ob⟩
/-- the bag written -/
theorem BagAt.put {H : Hp} {b l : Addr} {z m : Int} {k : Nat} {cs : List Int} (B : BagAt H b l z m k cs) {z' m' : Int} {k' : Nat} (h0 : 0 ≤ z') (h1 : 0 ≤ m') (h2 : m' < 2147483647) :
    BagAt (upd H b (.lst [.int z', .int m', .int (k' : Int), .ref l])) b l z' m' k' cs :=
  ⟨upd_same, by rw [upd_ne B.ne]; exact B.cl, h0, h1, h2, B.c0, B.len⟩
theorem keep_upd {H : Hp} {b l : Addr} {z m : Int} {k : Nat} {cs : List Int} (B : BagAt H b l z m k cs) {z' m' k' : Int} : Keep b H (upd H b (.lst [.int z', .int m', .int k', .ref l])) := by
  refine ⟨fun a u e n => by rw [upd_ne n]; exact e, ?_⟩
  rintro l' ⟨y, n, i, e⟩
  rw [B.ob] at e
  have e1 := HO.lst.inj (Option.some.inj e)
  have e2 : l = l' := (by simpa using e1 : _ ∧ _ ∧ _ ∧ _).2.2.2
  subst e2
  exact ⟨_, _, _, upd_same⟩
theorem Keep.mut {b p : Addr} {H H' : Hp} {o : HO} (h : H p = none) (hb : p ≠ b) (k : Keep b H H') : Keep b H (upd H' p o) := by
  refine ⟨fun a u e n => by rw [upd_ne (ne_of_none e h)]; exact k.st a u e n, fun l c => ?_⟩
  obtain ⟨z, m, i, e⟩ := k.cl l c
  exact ⟨z, m, i, by rw [upd_ne hb.symm]; exact e⟩
/-- a list made beside the bag may be changed -/
theorem Bag.mutK {H H' : Hp} {b p : Addr} {o : HO} (B : Bag H b) (hp : H p = none) (k : Keep b H H') (B' : Bag H' b) : Bag (upd H' p o) b := by
  obtain ⟨l, z, m, n, cs, B⟩ := B
  obtain ⟨l', z', m', n', cs', B'⟩ := B'
  obtain ⟨y, i, j, e⟩ := k.cl l ⟨_, _, _, B.ob⟩
  rw [B'.ob] at e
  have e1 := HO.lst.inj (Option.some.inj e)
  have e2 : l' = l := (by simpa using e1 : _ ∧ _ ∧ _ ∧ _).2.2.2
  subst e2
  have n1 : b ≠ p := ne_of_none B.ob hp
  have n2 : l' ≠ p := ne_of_none B.cl hp
  exact ⟨l', z', m', n', cs', ⟨by rw [upd_ne n1]; exact B'.ob, by rw [upd_ne n2]; exact B'.cl, B'.z0, B'.m0, B'.m1, B'.c0, B'.len⟩⟩
theorem Bag.ne {H : Hp} {b p : Addr} (B : Bag H b) (hp : H p = none) : p ≠ b := by
  obtain ⟨o, e⟩ := B.some
  exact (ne_of_none e hp).symm
def spBag (K : PySem.W.Frag) : Sp := fun vs H Q _ => ∃ (a : Addr) (ns : List Int), vs = [.ref a] ∧ SqL K H a (ns.map V.int) ∧ ns.length ≤ 63 ∧
  ∀ (b : Addr) (H' : Hp), H b = none → Bag H' b → Same H H' → Q (.ref b) H'
/-- not too great for a divisor -/
def Small (n : Int) : Prop := n.natAbs < 2 ^ 9000
def spTake : Sp := fun vs H Q _ => ∃ (b : Addr) (n : Int), vs = [.ref b, .int n] ∧ Bag H b ∧ 0 < n ∧ Small n ∧
  ∀ (r : Int) (H' : Hp), 0 ≤ r → r < n → Bag H' b → Keep b H H' → Q (.int r) H'
def spOne : Sp := fun vs H Q _ => ∃ (b l : Addr) (xs : List V), vs = [.ref b, .ref l] ∧ Bag H b ∧ H l = some (.lst xs) ∧ l ≠ b ∧ 0 < xs.length ∧ xs.length ≤ 100000 ∧
  ∀ (v : V) (H' : Hp), v ∈ xs → Bag H' b → Keep b H H' → Q v H'
def spAlike (K : PySem.W.Frag) : Sp := fun vs H Q _ => ∃ (x y : V) (d : PyData), vs = [x, y] ∧ Dp K H x d ∧ Dp K H y d ∧ Fine 60 16000000 d ∧ Q (.bl true) H

theorem shaped_of {k n : Nat} {d : PyData} (h : Fine k n d) (hk : k ≤ 64) : SeqAt.shaped d = true := by
  unfold SeqAt.shaped
  rw [h.lay, decide_eq_true (Nat.le_trans h.dep hk)] <;> rfl
theorem dec_is {x : V} {i : Int} {b : Bool} (h : decide (x = V.int i) = b) : decide (x = V.int i) = b := h
theorem int_of_dec {i j : Int} (h : decide (V.int i = V.int j) = true) : i = j := by
  have h1 := of_decide_eq_true h
  exact V.int.inj h1
theorem fmod_pos {a n : Int} (h : 0 < n) : 0 ≤ a.fmod n ∧ a.fmod n < n := by
  rw [Int.fmod_eq_emod_of_nonneg a (Int.le_of_lt h)]
  exact ⟨Int.emod_nonneg a (by omega), Int.emod_lt_of_pos a h⟩
end My

set_option Elab.async false
set_option maxRecDepth 100000
/-! Fractions as rational numbers; their sizes; Euclid's steps. -/
namespace My
/-- the divisor with the sign of b -/
def dv (t b : Int) : Int := if b < 0 then -((Nat.gcd t.natAbs b.natAbs : Nat) : Int) else ((Nat.gcd t.natAbs b.natAbs : Nat) : Int)
theorem gcd_pos' {t b : Int} (hb : b ≠ 0) : 0 < Nat.gcd t.natAbs b.natAbs := Nat.gcd_pos_of_pos_right _ (by omega)
theorem dv_ne {t b : Int} (hb : b ≠ 0) : dv t b ≠ 0 := by
  have := gcd_pos' (t := t) hb
  unfold dv
  split <;> omega
theorem dv_abs {t b : Int} : (dv t b).natAbs = Nat.gcd t.natAbs b.natAbs := by
  unfold dv
  split <;> omega
theorem dv_le {t b : Int} (hb : b ≠ 0) : (dv t b).natAbs ≤ b.natAbs := by
  rw [dv_abs]
  exact Nat.le_of_dvd (by omega) (Nat.gcd_dvd_right _ _)
theorem divInt_fd {t b : Int} (hb : b ≠ 0) : t.fdiv (dv t b) = (Rat.divInt t b).num ∧ b.fdiv (dv t b) = ((Rat.divInt t b).den : Int) := by
  have hg := gcd_pos' (t := t) hb
  match b, hb with
  | Int.ofNat d, hb =>
    have hd : d ≠ 0 := fun e => hb (by subst e; rfl)
    have e1 : Rat.divInt t (Int.ofNat d) = Rat.normalize t d hd := by
      show mkRat t d = _
      unfold mkRat
      rw [dif_neg hd]
    have e2 : dv t (Int.ofNat d) = ((t.natAbs.gcd d : Nat) : Int) := by
      unfold dv
      rw [if_neg (by simp)]
      rfl
    rw [e1, Rat.normalize_eq, e2]
    have h0 : (0 : Int) ≤ ((t.natAbs.gcd d : Nat) : Int) := Int.natCast_nonneg _
    constructor
    · show t.fdiv _ = t / _
      rw [Int.fdiv_eq_ediv_of_nonneg _ h0]
    · show (Int.ofNat d).fdiv _ = ((d / _ : Nat) : Int)
      rw [Int.fdiv_eq_ediv_of_nonneg _ h0]
      rfl
  | Int.negSucc d, hb =>
    have e1 : Rat.divInt t (Int.negSucc d) = Rat.normalize (-t) d.succ (Nat.succ_ne_zero d) := rfl
    have e2 : dv t (Int.negSucc d) = -((t.natAbs.gcd (d + 1) : Nat) : Int) := by
      unfold dv
      rw [if_pos (Int.negSucc_lt_zero d)]
      rfl
    rw [e1, Rat.normalize_eq, e2]
    have e3 : (-t).natAbs = t.natAbs := Int.natAbs_neg t
    have hp : (0 : Int) < ((t.natAbs.gcd (d + 1) : Nat) : Int) := by
      have : 0 < t.natAbs.gcd (d + 1) := hg
      omega
    constructor
    · show t.fdiv (-((t.natAbs.gcd (d + 1) : Nat) : Int)) = (-t) / (((-t).natAbs.gcd (d + 1) : Nat) : Int)
      rw [e3, ← Int.fdiv_eq_ediv_of_nonneg _ (Int.le_of_lt hp)]
      have := Int.neg_fdiv_neg (-t) ((t.natAbs.gcd (d + 1) : Nat) : Int)
      rw [Int.neg_neg] at this
      exact this
    · show (Int.negSucc d).fdiv (-((t.natAbs.gcd (d + 1) : Nat) : Int)) = (((d + 1) / ((-t).natAbs.gcd (d + 1)) : Nat) : Int)
      have h3 : Int.negSucc d = -((d + 1 : Nat) : Int) := rfl
      rw [e3, h3, Int.neg_fdiv_neg, Int.fdiv_eq_ediv_of_nonneg _ (Int.le_of_lt hp)]
      rfl
theorem fdiv_le {x g : Int} (hg : g ≠ 0) (h : g ∣ x) : (x.fdiv g).natAbs ≤ x.natAbs := by
  obtain ⟨c, rfl⟩ := h
  rw [Int.mul_fdiv_cancel_left _ hg, Int.natAbs_mul]
  exact Nat.le_mul_of_pos_left _ (by omega)
theorem num_le {t b : Int} (hb : b ≠ 0) : (Rat.divInt t b).num.natAbs ≤ t.natAbs := by
  rw [← (divInt_fd (t := t) hb).1]
  refine fdiv_le (dv_ne hb) ?_
  rw [← Int.natAbs_dvd_natAbs, dv_abs]
  exact Nat.gcd_dvd_left _ _
theorem den_le {t b : Int} (hb : b ≠ 0) : (Rat.divInt t b).den ≤ b.natAbs := by
  have h := (divInt_fd (t := t) hb).2
  have h2 : (b.fdiv (dv t b)).natAbs ≤ b.natAbs := by
    refine fdiv_le (dv_ne hb) ?_
    rw [← Int.natAbs_dvd_natAbs, dv_abs]
    exact Nat.gcd_dvd_right _ _
  rw [h] at h2
  simpa using h2
theorem den0 (q : Rat) : (q.den : Int) ≠ 0 := by
  have := q.den_pos
  omega
theorem q_add (p q : Rat) : Rat.divInt (p.num * (q.den : Int) + q.num * (p.den : Int)) ((p.den : Int) * (q.den : Int)) = p + q := by
  rw [← Rat.divInt_add_divInt _ _ (den0 p) (den0 q), Rat.num_divInt_den, Rat.num_divInt_den]
theorem q_sub (p q : Rat) : Rat.divInt (p.num * (q.den : Int) - q.num * (p.den : Int)) ((p.den : Int) * (q.den : Int)) = p - q := by
  have h : p - q = p + -q := by grind
  have hn : (-q).num = -q.num := rfl
  have hd : (-q).den = q.den := rfl
  rw [h, ← q_add p (-q), hn, hd]
  congr 1
  rw [Int.neg_mul]
  omega
theorem q_mul (p q : Rat) : Rat.divInt (p.num * q.num) ((p.den : Int) * (q.den : Int)) = p * q := by
  rw [← Rat.divInt_mul_divInt, Rat.num_divInt_den, Rat.num_divInt_den]
theorem q_div (p q : Rat) : Rat.divInt (p.num * (q.den : Int)) ((p.den : Int) * q.num) = p / q := by
  rw [← Rat.divInt_mul_divInt, Rat.num_divInt_den, Rat.div_def, Rat.inv_def]
theorem q_num0 {q : Rat} : q.num ≠ 0 ↔ q ≠ 0 := by
  constructor
  · intro h e
    subst e
    exact h rfl
  · intro h e
    exact h (Rat.num_eq_zero.mp e)
/-- not greater than n bits above and below -/
structure Bq (k : Nat) (q : Rat) : Prop where
  n : q.num.natAbs < 2 ^ k
  d : q.den < 2 ^ k
theorem Bq.up {n m : Nat} {q : Rat} (h : Bq n q) (l : n ≤ m) : Bq m q :=
  ⟨Nat.lt_of_lt_of_le h.n (Nat.pow_le_pow_right (by decide) l), Nat.lt_of_lt_of_le h.d (Nat.pow_le_pow_right (by decide) l)⟩
theorem bq_divInt {n : Nat} {t b : Int} (hb : b ≠ 0) (h1 : t.natAbs < 2 ^ n) (h2 : b.natAbs < 2 ^ n) : Bq n (Rat.divInt t b) :=
  ⟨Nat.lt_of_le_of_lt (num_le hb) h1, Nat.lt_of_le_of_lt (den_le hb) h2⟩
theorem mul_lt {a b : Int} {n m : Nat} (h1 : a.natAbs < 2 ^ n) (h2 : b.natAbs < 2 ^ m) : (a * b).natAbs < 2 ^ (n + m) := by
  rw [Int.natAbs_mul, Nat.pow_add]
  exact Nat.mul_lt_mul'' h1 h2
theorem add_lt {a b : Int} {n : Nat} (h1 : a.natAbs < 2 ^ n) (h2 : b.natAbs < 2 ^ n) : (a + b).natAbs < 2 ^ (n + 1) := by
  have : 2 ^ (n + 1) = 2 ^ n + 2 ^ n := by rw [Nat.pow_succ]; omega
  rw [this]
  omega
theorem sub_lt {a b : Int} {n : Nat} (h1 : a.natAbs < 2 ^ n) (h2 : b.natAbs < 2 ^ n) : (a - b).natAbs < 2 ^ (n + 1) := by
  have : 2 ^ (n + 1) = 2 ^ n + 2 ^ n := by rw [Nat.pow_succ]; omega
  rw [this]
  omega
theorem den_abs (q : Rat) : ((q.den : Int)).natAbs = q.den := Int.natAbs_natCast _
theorem Bq.add {n m : Nat} {p q : Rat} (hp : Bq n p) (hq : Bq m q) : Bq (n + m + 1) (p + q) := by
  rw [← q_add]
  have hd : ((p.den : Int) * (q.den : Int)).natAbs < 2 ^ (n + m) := mul_lt (by rw [den_abs]; exact hp.d) (by rw [den_abs]; exact hq.d)
  refine bq_divInt (Int.mul_ne_zero (den0 p) (den0 q)) (add_lt ?_ ?_) (Nat.lt_of_lt_of_le hd (Nat.pow_le_pow_right (by decide) (by omega)))
  · exact mul_lt hp.n (by rw [den_abs]; exact hq.d)
  · rw [Nat.add_comm n m]
    exact mul_lt hq.n (by rw [den_abs]; exact hp.d)
theorem Bq.neg {n : Nat} {q : Rat} (hq : Bq n q) : Bq n (-q) := ⟨by show (-q.num).natAbs < _; rw [Int.natAbs_neg]; exact hq.n, hq.d⟩
theorem Bq.sub {n m : Nat} {p q : Rat} (hp : Bq n p) (hq : Bq m q) : Bq (n + m + 1) (p - q) := by
  have h : p - q = p + -q := by grind
  rw [h]
  exact hp.add hq.neg
theorem Bq.mul {n m : Nat} {p q : Rat} (hp : Bq n p) (hq : Bq m q) : Bq (n + m) (p * q) := by
  rw [← q_mul]
  exact bq_divInt (Int.mul_ne_zero (den0 p) (den0 q)) (mul_lt hp.n hq.n) (mul_lt (by rw [den_abs]; exact hp.d) (by rw [den_abs]; exact hq.d))
theorem Bq.div {n m : Nat} {p q : Rat} (hp : Bq n p) (hq : Bq m q) (h0 : q ≠ 0) : Bq (n + m) (p / q) := by
  rw [← q_div]
  exact bq_divInt (Int.mul_ne_zero (den0 p) (q_num0.mpr h0)) (mul_lt hp.n (by rw [den_abs]; exact hq.d)) (mul_lt (by rw [den_abs]; exact hp.d) hq.n)
/-! ### the steps of Euclid's way -/
theorem half_step {h l : Nat} (hl : 0 < l) (h1 : l ≤ h) : l * (h % l) * 2 < h * l + 1 := by
  have h2 : h % l < l := Nat.mod_lt _ hl
  have h3 : l * (h / l) + h % l = h := Nat.div_add_mod h l
  have h4 : 1 ≤ h / l := (Nat.le_div_iff_mul_le hl).mpr (by omega)
  have h5 : l ≤ l * (h / l) := Nat.le_mul_of_pos_right _ h4
  have h6 : h % l * 2 ≤ h := by omega
  have h7 : l * (h % l * 2) ≤ l * h := Nat.mul_le_mul_left _ h6
  rw [Nat.mul_assoc, Nat.mul_comm h l]
  omega
/-- behind i turns: what is left of the two is small -/
def Left (N i h l : Nat) : Prop := h * l * 2 ^ (i - 1) < 2 ^ N ∧ (1 ≤ i → l ≤ h)
theorem Left.start {N h l : Nat} (hh : h * l < 2 ^ N) : Left N 0 h l := ⟨by simpa using hh, fun z => absurd z (by decide)⟩
theorem Left.step {N i h l : Nat} (L : Left N i h l) (hl : 0 < l) : Left N (i + 1) l (h % l) := by
  obtain ⟨h1, h2⟩ := L
  have h3 : h % l < l := Nat.mod_lt _ hl
  refine ⟨?_, fun _ => Nat.le_of_lt h3⟩
  match i, h1, h2 with
  | 0, h1, _ =>
    have h4 : h % l ≤ h := Nat.mod_le _ _
    have h5 : l * (h % l) ≤ h * l := by rw [Nat.mul_comm h l]; exact Nat.mul_le_mul_left _ h4
    simp at h1 ⊢
    omega
  | i + 1, h1, h2 =>
    have h4 := half_step hl (h2 (by omega))
    show l * (h % l) * 2 ^ (i + 1) < 2 ^ N
    have h6 : h * l * 2 ^ i < 2 ^ N := h1
    rw [Nat.pow_succ, Nat.mul_comm (2 ^ i) 2, ← Nat.mul_assoc]
    exact Nat.lt_of_le_of_lt (Nat.mul_le_mul_right _ (by omega)) h6
theorem Left.done {N i h l : Nat} (L : Left N i h l) (hi : N + 1 ≤ i) : l = 0 := by
  obtain ⟨h1, h2⟩ := L
  have h3 := h2 (by omega)
  match l, h1, h3 with
  | 0, _, _ => rfl
  | l + 1, h1, h3 =>
    exfalso
    have h4 : 1 ≤ h * (l + 1) := Nat.mul_pos (by omega) (by omega)
    have h5 : 2 ^ N ≤ 2 ^ (i - 1) := Nat.pow_le_pow_right (by decide) (by omega)
    have h6 : 2 ^ (i - 1) ≤ h * (l + 1) * 2 ^ (i - 1) := Nat.le_mul_of_pos_left _ h4
    omega
end My

set_option Elab.async false
set_option maxRecDepth 100000
/-! Numbers by their figures, floors by any divisor. -/
namespace My
open PySem L2 PySem.Spec PyProof.Rows
/-- // by any divisor but nought -/
def rDivZ : R2 := fun x y H Q => ∃ i j k, x = .int i ∧ y = .int j ∧ j ≠ 0 ∧ j.natAbs < 2 ^ 9000 ∧ i.fdiv j = k ∧ Q (.int k) H
theorem op_fdivZ {X : Cx} : OpR X (binaryOp .FloorDiv) rDivZ := by
  intro pins st σ H x y v u Q I rx ry h
  obtain ⟨i, j, k, rfl, rfl, hj, hz, rfl, q⟩ := h
  obtain ⟨t, rfl⟩ := rx
  obtain ⟨t', rfl⟩ := ry
  exact floordiv_int hj ⟨.int _, H, I.tok _, ⟨_, rfl⟩, q⟩ (.inl (PyProof.noPylong_of_log2 (PySem.Flt.log2_lt_of (by decide) hz)))
/-- one sign, so many times -/
theorem rep_sign (c : Nat) : ∀ k : Nat, (List.replicate k (#[c] : Array Nat)).foldl (· ++ ·) #[] = (List.replicate k c).toArray := by
  have go : ∀ (k : Nat) (acc : Array Nat), (List.replicate k (#[c] : Array Nat)).foldl (· ++ ·) acc = acc ++ (List.replicate k c).toArray := by
    intro k
    induction k with
    | zero => intro acc; simp
    | succ k ih =>
      intro acc
      rw [List.replicate_succ, List.foldl_cons, ih]
      apply Array.ext'
      simp [List.replicate_succ]
  intro k
  rw [go]
  simp
def rRepS : R2 := fun x y H Q => ∃ c k : Nat, x = .str ⟨#[c]⟩ ∧ y = .int (k : Int) ∧ k ≤ 100000 ∧ Q (.str ⟨(List.replicate k c).toArray⟩) H
theorem op_repS {X : Cx} : OpR X (binaryOp .Mult) rRepS := by
  intro pins st σ H x y v u Q I rx ry h
  obtain ⟨c, k, rfl, rfl, hk, q⟩ := h
  obtain ⟨t, rfl⟩ := rx
  obtain ⟨t', rfl⟩ := ry
  have e1 : (⟨#[c]⟩ : Str).length = 1 := rfl
  refine PySem.P.mul_str ?_ ?_ ?_ ?_
  · rw [decide_eq_false (by omega), decide_eq_false (by omega)]
    rfl
  · intro h1 _
    rw [e1]
    have : (1 : Int) ≤ (2 ^ 63 - 1) / (k : Int) := by
      refine (Int.le_ediv_iff_mul_le (by omega)).mpr ?_
      omega
    omega
  · intro _ _
    rw [e1]
    unfold Builtin.Str.tooLong
    rw [sizeLine_eq]
    exact decide_eq_false (by omega)
  · have e2 : ∀ tk tk', EP X pins σ Q (.str ⟨(List.replicate k c).toArray⟩ tk) { st with toks := tk' } := fun tk tk' => ⟨.str _, H, I.tok _, ⟨_, rfl⟩, q⟩
    by_cases h1 : (k : Int) < 1
    · rw [if_pos h1]
      have : k = 0 := by omega
      subst this
      exact ⟨by decide, e2 _ _⟩
    · rw [if_neg h1]
      by_cases h2 : ((k : Int) == 1 || (⟨#[c]⟩ : Str).length == 0) = true
      · rw [if_pos h2]
        have h3 : ((k : Int) == 1 || false) = true := h2
        have : k = 1 := by
          rw [Bool.or_false] at h3
          have := eq_of_beq h3
          omega
        subst this
        exact ⟨.str _, H, I, ⟨_, rfl⟩, q⟩
      · rw [if_neg h2]
        have e3 : ((k : Int)).toNat = k := Int.toNat_natCast k
        rw [e3]
        have e4 : (⟨(List.replicate k (⟨#[c]⟩ : Str).cps).foldl (· ++ ·) #[]⟩ : Str) = ⟨(List.replicate k c).toArray⟩ := congrArg Str.mk (rep_sign c k)
        rw [e4]
        exact ⟨by
          show ((List.replicate k c).toArray).size ≤ sizeLine
          rw [List.size_toArray, List.length_replicate, sizeLine_eq]
          omega, e2 _ _⟩
/-- a one and so many noughts -/
def pw (k : Nat) : List Nat := 49 :: List.replicate k 48
theorem pw_val (k : Nat) : NumText.digitsVal (pw k) = 10 ^ k := by
  have go : ∀ (k acc : Nat), (List.replicate k 48).foldl (fun a c => a * 10 + (c - 48)) acc = acc * 10 ^ k := by
    intro k
    induction k with
    | zero => intro acc; simp
    | succ k ih =>
      intro acc
      rw [List.replicate_succ, List.foldl_cons, ih, Nat.pow_succ]
      show (acc * 10 + (48 - 48)) * 10 ^ k = acc * (10 ^ k * 10)
      rw [Nat.sub_self, Nat.add_zero, Nat.mul_assoc, Nat.mul_comm 10]
  show (List.replicate k 48).foldl (fun a c => a * 10 + (c - 48)) (0 * 10 + (49 - 48)) = 10 ^ k
  rw [go]
  simp
theorem pw_int {k : Nat} (h : k ≤ 4000) : intText? (SX.S (pw k)) = some ((10 ^ k : Nat) : Int) := by
  rw [SX.int_S (a := pw k) ?_ (List.cons_ne_nil _ _) ?_, pw_val]
  · show (decide _ && decide _ && (List.replicate k 48).all _) = true
    rw [Bool.and_eq_true]
    exact ⟨rfl, List.all_eq_true.mpr fun x hx => by rw [List.eq_of_mem_replicate hx]; rfl⟩
  · show (List.replicate k 48).length + 1 ≤ 4300
    rw [List.length_replicate]
    omega
theorem pw_cat (k : Nat) : (Str.ofString "1" ++ (⟨(List.replicate k 48).toArray⟩ : Str)) = SX.S (pw k) := by
  have : (Str.ofString "1") = SX.S [49] := by decide
  rw [this]
  exact SX.S_cat [49] (List.replicate k 48)
theorem pw_len (k : Nat) : (SX.S (pw k)).length = k + 1 := by
  rw [SX.S_len]
  show (List.replicate k 48).length + 1 = k + 1
  rw [List.length_replicate]
theorem small64 {n : Int} (h : n.natAbs < 2 ^ 64) : Small n := Nat.lt_of_lt_of_le h (Nat.pow_le_pow_right (by decide) (by decide))
theorem small_of {n : Int} {k : Nat} (h : n.natAbs < 2 ^ k) (hk : k ≤ 9000) : Small n := Nat.lt_of_lt_of_le h (Nat.pow_le_pow_right (by decide) hk)
theorem mulok_of {i j : Int} {a b : Nat} (ha : i.natAbs < 2 ^ a) (hb : j.natAbs < 2 ^ b) (h0 : 0 < a) (h1 : 0 < b) (h : a + b ≤ 1000000) : MulOk i j := .inr (wide_mul ha hb h0 h1 h)
/-- ten to the k in bits -/
theorem ten_bits (k : Nat) : 10 ^ k ≤ 2 ^ (4 * k) := by
  rw [Nat.pow_mul]
  exact Nat.pow_le_pow_left (by decide) k
theorem bits_of {n k : Nat} (h : n < 10 ^ k) : n < 2 ^ (4 * k) := Nat.lt_of_lt_of_le h (ten_bits k)
/-- the rational number q as a tuple -/
def FracAt (H : Hp) (x : V) (q : Rat) : Prop := ∃ a, x = .ref a ∧ H a = some (.tup [.int q.num, .int (q.den : Int)])
theorem FracAt.same {H H' : Hp} {x : V} {q : Rat} (f : FracAt H x q) (s : Same H H') : FracAt H' x q := by
  obtain ⟨a, e, h⟩ := f
  exact ⟨a, e, s _ _ h⟩
theorem FracAt.dp {K : PySem.W.Frag} {H : Hp} {x : V} {q : Rat} (f : FracAt H x q) : Dp K H x (.tuple [.int q.num, .int (q.den : Int)]) := by
  obtain ⟨a, rfl, h⟩ := f
  exact .tup (SqT.of h) (.cons (.int _) (.cons (.int _) .nil))
def spFigures : Sp := fun vs H Q _ => ∃ (b : Addr) (m : Nat), vs = [.ref b, .int (m : Int)] ∧ Bag H b ∧ 0 < m ∧ m ≤ 600 ∧
  ∀ (r : Nat) (H' : Hp), r < 10 ^ (m + 3) → Bag H' b → Keep b H H' → Q (.int (r : Int)) H'
def spSigned : Sp := fun vs H Q _ => ∃ (b : Addr) (m : Nat), vs = [.ref b, .int (m : Int)] ∧ Bag H b ∧ 0 < m ∧ m ≤ 600 ∧
  ∀ (r : Int) (H' : Hp), r.natAbs < 10 ^ (m + 3) → Bag H' b → Keep b H H' → Q (.int r) H'
def spLDivisor : Sp := fun vs H Q _ => ∃ a b : Int, vs = [.int a, .int b] ∧ a.natAbs < 2 ^ 5000 ∧ b.natAbs < 2 ^ 5000 ∧ Q (.int ((Nat.gcd a.natAbs b.natAbs : Nat) : Int)) H
def spLowest : Sp := fun vs H Q _ => ∃ t b : Int, vs = [.int t, .int b] ∧ b ≠ 0 ∧ t.natAbs < 2 ^ 5000 ∧ b.natAbs < 2 ^ 5000 ∧
  ∀ p H', H p = none → H' p = some (.tup [.int (Rat.divInt t b).num, .int ((Rat.divInt t b).den : Int)]) → Same H H' → Q (.ref p) H'
def spFrac : Sp := fun vs H Q _ => ∃ (b : Addr) (m : Nat), vs = [.ref b, .int (m : Int)] ∧ Bag H b ∧ 0 < m ∧ m ≤ 600 ∧
  ∀ (p : Addr) (q : Rat) (H' : Hp), H p = none → H' p = some (.tup [.int q.num, .int (q.den : Int)]) → Bq (4 * (m + 3) + 1) q → Bag H' b → Keep b H H' → Q (.ref p) H'
theorem way_tab : ∀ w : Nat, w < 3 → ∃ n : Nat, ([V.int 4, .int 13, .int 1000] : List V)[w]? = some (.int (n : Int)) ∧ 0 < n ∧ n ≤ 1000 := by
  intro w hw
  match w, hw with
  | 0, _ => exact ⟨4, rfl, by decide, by decide⟩
  | 1, _ => exact ⟨13, rfl, by decide, by decide⟩
  | 2, _ => exact ⟨1000, rfl, by decide, by decide⟩
theorem keep_none {b : Addr} {H H' : Hp} (k : Keep b H H') {a : Addr} (h : H' a = none) (hb : a ≠ b) : H a = none := by
  match e : H a with
  | none => rfl
  | some o =>
    rw [k a o e hb] at h
    cases h
end My

set_option Elab.async false
set_option maxRecDepth 100000
/-! Anything: its type, its text; things that stay. -/
namespace My
open PySem L2 PySem.Spec PyProof.Rows

/-! ### isinstance of anything, an error too -/
inductive TyZ (K : PySem.W.Frag) (H : Hp) : V → Value → Prop
  | tx {x : V} {t : Value} (h : TyX K H x t) : TyZ K H x t
  | ex {a D : Addr} (h : H a = some (ExO (.ref D) a)) (c : ExcC K D) : TyZ K H (.ref a) (.ref D)
def rIsiZ (K : PySem.W.Frag) : List V → Hp → VK → Prop := fun xs H Q =>
  ∃ (x c : V) (t u : Value) (b : Bool), xs = [x, c] ∧ ClsV c u ∧ TyZ K H x t ∧ PySem.W.kitOne K t u = some b ∧ Q (.bl b) H
theorem call_isiZ {X : Cx} : CallR X (.builtin "isinstance") (rIsiZ X.K) := by
  intro pins st σ H xs us Q I r h
  obtain ⟨x, c, t, u, b, rfl, k, ty, e, q⟩ := h
  cases ty with
  | tx h => exact call_isi pins st σ H [x, c] us Q I r ⟨x, c, t, u, b, rfl, k, h, e, q⟩
  | @ex a D h C =>
    obtain ⟨u1, u2, rfl, r1, r2⟩ := vals2 r
    have e2 := k.eq r2
    subst e2
    cases r1
    obtain ⟨⟨oe, vs, ho, hz, hd, _⟩, _, _⟩ := I.hok a _ h
    have J : PySem.W.InstAt st.heap a oe D none := by
      obtain ⟨oc, od, oda, osl⟩ := oe
      obtain ⟨h1, h2⟩ := hz
      dsimp only at h1 h2 hd
      subst h1 h2 hd
      exact ⟨ho, rfl, rfl, trivial⟩
    exact PySem.W.kia_one (PySem.W.handS_kitx_exc C.hg C.hk C.hs C.hd C.ha C.hn C.ht C.hm) I.kIn J e (fun z => nomatch z) fun tk => ⟨.bl b, H, I.kept (t' := tk) fun _ _ z => z, rfl, q⟩

/-! ### repr of a dict -/
def keyD : Key → PyData
  | .inl i => .int i
  | .inr x => .str x
mutual
def noList : PyData → Bool
  | .none | .bool _ | .int _ | .str _ => true
  | .list _ => false
  | .tuple xs => noListAll xs
  | .dict _ => false
def noListAll : List PyData → Bool
  | [] => true
  | x :: xs => noList x && noListAll xs
end
mutual
theorem reads_noList {h : Heap} : ∀ (d : PyData) (v : Value) (as : List Addr), Reads h v d as → noList d = true → as = []
  | .none, _, _, r, _ => by cases r; rfl
  | .bool _, _, _, r, _ => by cases r; rfl
  | .int _, _, _, r, _ => by cases r; rfl
  | .str _, _, _, r, _ => by cases r; rfl
  | .list _, _, _, _, h => by cases h
  | .dict _, _, _, _, h => by cases h
  | .tuple ds, _, _, r, h => by
    cases r with
    | tuple _ _ _ r => exact readsAll_noList ds _ _ r h
theorem readsAll_noList {h : Heap} : ∀ (ds : List PyData) (v : List Value) (as : List Addr), ReadsAll h v ds as → noListAll ds = true → as = []
  | [], _, _, r, _ => by cases r; rfl
  | d :: ds, _, _, r, h => by
    have h' : (noList d && noListAll ds) = true := h
    rw [Bool.and_eq_true] at h'
    cases r with
    | cons r rs => rw [reads_noList d _ _ r h'.1, readsAll_noList ds _ _ rs h'.2] <;> rfl
end
theorem kv_keys {P : Program} {w : World} {h : Heap} : ∀ {kvs : List (Key × V)} {vs : List (Key × Value)} {es : List DictEntry}, KV kvs vs → Pairs (mixKind P w) es vs → ReadsAll h (es.map (·.key)) (kvs.map fun p => keyD p.1) []
  | _, _, _, .nil, .nil => .nil
  | (k, v) :: kvs, _, _, .cons hk t, .cons (e := e) h1 h2 h3 => by
    have e1 : keyIs k e.key = true := by
      have h1' := h1
      rw [← hk.1] at h1'
      exact h1'
    have r : Reads h e.key (keyD k) [] := by
      rcases keyIs_shape e1 with ⟨i, tk, rfl, ev⟩ | ⟨x, tk, rfl, ev⟩
      · rw [ev]; exact .int i tk
      · rw [ev]; exact .str x tk
    exact ReadsAll.cons (as := []) (bs := []) r (kv_keys t h3)
theorem kv_vals {P : Program} {w : World} : ∀ {kvs : List (Key × V)} {vs : List (Key × Value)} {es : List DictEntry}, KV kvs vs → Pairs (mixKind P w) es vs → Vals (kvs.map (·.2)) (es.map (·.val))
  | _, _, _, .nil, .nil => .nil
  | (k, v) :: kvs, _, _, .cons hk t, .cons (e := e) h1 h2 h3 => by
    have r : L2.RelV v e.val := by
      rw [h2]
      exact hk.2
    exact Paired.cons r (kv_vals t h3)
/-- a dict's data: keys ints and texts, values without lists -/
structure DkD (K : PySem.W.Frag) (H : Hp) (a : Addr) (kvs : List (Key × V)) (ds : List PyData) : Prop where
  at_ : H a = some (.dK kvs)
  vals : DpAll K H (kvs.map (·.2)) ds
  nl : noListAll ds = true
theorem zip_fst : ∀ {kvs : List (Key × V)} {ds : List PyData}, kvs.length = ds.length → ((kvs.map fun p => keyD p.1).zip ds).map (·.1) = kvs.map fun p => keyD p.1
  | [], [], _ => rfl
  | _ :: kvs, _ :: ds, h => by
    rw [List.map_cons, List.zip_cons_cons, List.map_cons, zip_fst (by simpa using h)]
theorem zip_snd : ∀ {kvs : List (Key × V)} {ds : List PyData}, kvs.length = ds.length → ((kvs.map fun p => keyD p.1).zip ds).map (·.2) = ds
  | [], [], _ => rfl
  | _ :: kvs, d :: ds, h => by
    rw [List.map_cons, List.zip_cons_cons, List.map_cons, zip_snd (by simpa using h)]
theorem dpAll_len {K : PySem.W.Frag} {H : Hp} : ∀ {vs : List V} {ds : List PyData}, DpAll K H vs ds → vs.length = ds.length
  | _, _, .nil => rfl
  | _, _, .cons _ t => by rw [List.length_cons, List.length_cons, dpAll_len t]
def dictD (kvs : List (Key × V)) (ds : List PyData) : PyData := .dict ((kvs.map fun p => keyD p.1).zip ds)
theorem DkD.reads {X : Cx} {pins : List (Addr × Obj)} {σ : L2.St} {H : Hp} {st : Shared} {a : Addr} {kvs : List (Key × V)} {ds : List PyData} (D : DkD X.K H a kvs ds) (I : Inv X pins σ H st) :
    ∃ as, Reads st.heap (.ref a) (dictD kvs ds) as ∧ sysModules ∉ as := by
  obtain ⟨hz, hne, vs, kv, o, es, ep, ho, hx, hdt, hk, hp, hnd⟩ := I.hok a _ D.at_
  have hl : kvs.length = ds.length := by
    have := dpAll_len D.vals
    rwa [List.length_map] at this
  obtain ⟨bs, rv⟩ := Dp.readsAll I ds _ _ D.vals (kv_vals kv hp)
  have hb := readsAll_noList _ _ _ rv D.nl
  subst hb
  refine ⟨a :: [] ++ [], .dict ho hx.1 hdt (by rw [zip_fst hl]; exact kv_keys kv hp) (by rw [zip_snd hl]; exact rv), ?_⟩
  intro hm
  have : sysModules = a := by simpa using hm
  subst this
  exact absurd hne (by simp)
def rReprD (K : PySem.W.Frag) : List V → Hp → VK → Prop := fun xs H Q =>
  ∃ a kvs ds, xs = [.ref a] ∧ DkD K H a kvs ds ∧ (dictD kvs ds).showable = true ∧ (dictD kvs ds).depth ≤ 60 ∧ (dictD kvs ds).shown.length ≤ sizeLine ∧ Q (.str (dictD kvs ds).shown) H
/-- data, or a dict of data -/
def rReprZ (K : PySem.W.Frag) : List V → Hp → VK → Prop := fun xs H Q => rRepr K xs H Q ∨ rReprD K xs H Q
theorem call_reprZ {X : Cx} (hg : X.A.guards = some []) (hu : X.A.units + 64 < cLine) : CallR X (.builtin "repr") (rReprZ X.K) := by
  intro pins st σ H xs us Q I rv h
  rcases h with h | ⟨a, kvs, ds, rfl, D, hs, hd, hz, q⟩
  · exact call_repr hg hu pins st σ H xs us Q I rv h
  · obtain ⟨u, rfl, ru⟩ := vals1 rv
    cases ru
    obtain ⟨as, r, hsm⟩ := D.reads I
    exact repr_of_reads' r hs (fun _ => hsm) hg (by omega) (fun _ _ e => e) (fun h' t tk hk => ⟨.str _, H, I.kept hk, ⟨t, rfl⟩, q⟩) hz

/-! ### things that stay as they are, at addresses that are none of N -/
mutual
inductive Dx (H : Hp) (N : Addr → Prop) : V → PyData → Prop
  | non : Dx H N .non .none
  | bl (c : Bool) : Dx H N (.bl c) (.bool c)
  | int (i : Int) : Dx H N (.int i) (.int i)
  | str (x : Str) : Dx H N (.str x) (.str x)
  | lst {a : Addr} {xs : List V} {ds : List PyData} : H a = some (.lst xs) → ¬ N a → DxAll H N xs ds → Dx H N (.ref a) (.list ds)
  | tup {a : Addr} {xs : List V} {ds : List PyData} : H a = some (.tup xs) → ¬ N a → DxAll H N xs ds → Dx H N (.ref a) (.tuple ds)
inductive DxAll (H : Hp) (N : Addr → Prop) : List V → List PyData → Prop
  | nil : DxAll H N [] []
  | cons {v : V} {vs : List V} {d : PyData} {ds : List PyData} : Dx H N v d → DxAll H N vs ds → DxAll H N (v :: vs) (d :: ds)
end
mutual
theorem Dx.dp {K : PySem.W.Frag} {H : Hp} {N : Addr → Prop} : ∀ {v : V} {d : PyData}, Dx H N v d → Dp K H v d
  | _, _, .non => .non
  | _, _, .bl c => .bl c
  | _, _, .int i => .int i
  | _, _, .str x => .str x
  | _, _, .lst h _ t => .lst (SqL.of h) t.dp
  | _, _, .tup h _ t => .tup (SqT.of h) t.dp
theorem DxAll.dp {K : PySem.W.Frag} {H : Hp} {N : Addr → Prop} : ∀ {v : List V} {d : List PyData}, DxAll H N v d → DpAll K H v d
  | _, _, .nil => .nil
  | _, _, .cons h t => .cons h.dp t.dp
end
/-- what is not of N stands in H' as in H -/
def Off (N : Addr → Prop) (H H' : Hp) : Prop := ∀ a o, H a = some o → ¬ N a → H' a = some o
mutual
theorem Dx.off {H H' : Hp} {N M : Addr → Prop} (k : Off N H H') (m : ∀ a, M a → N a) : ∀ {v : V} {d : PyData}, Dx H N v d → Dx H' M v d
  | _, _, .non => .non
  | _, _, .bl c => .bl c
  | _, _, .int i => .int i
  | _, _, .str x => .str x
  | _, _, .lst h n t => .lst (k _ _ h n) (fun z => n (m _ z)) (DxAll.off k m t)
  | _, _, .tup h n t => .tup (k _ _ h n) (fun z => n (m _ z)) (DxAll.off k m t)
theorem DxAll.off {H H' : Hp} {N M : Addr → Prop} (k : Off N H H') (m : ∀ a, M a → N a) : ∀ {v : List V} {d : List PyData}, DxAll H N v d → DxAll H' M v d
  | _, _, .nil => .nil
  | _, _, .cons h t => .cons (Dx.off k m h) (DxAll.off k m t)
end
theorem Off.same {N : Addr → Prop} {H H' : Hp} (s : Same H H') : Off N H H' := fun a o e _ => s a o e
theorem Off.refl {N : Addr → Prop} {H : Hp} : Off N H H := fun _ _ e _ => e
theorem Off.keep {N : Addr → Prop} {b : Addr} {H H' : Hp} (hb : N b) (k : Keep b H H') : Off N H H' := fun a o e n => k.st a o e (by rintro rfl; exact n hb)
theorem Off.upd {N : Addr → Prop} {p : Addr} {H : Hp} {o : HO} (hp : N p) : Off N H (upd H p o) := fun a u e n => by
  rw [upd_ne (by rintro rfl; exact n hp)]
  exact e
theorem Off.trans {N : Addr → Prop} {H H1 H2 : Hp} (h : Off N H H1) (g : Off N H1 H2) : Off N H H2 := fun a o e n => g a o (h a o e n) n
theorem Dx.same {H H' : Hp} {N : Addr → Prop} {v : V} {d : PyData} (s : Same H H') (h : Dx H N v d) : Dx H' N v d := h.off (.same s) fun _ z => z
/-- one of the odd things -/
inductive Odd (H : Hp) (N : Addr → Prop) (v : V) : Prop
  | dat {d : PyData} (h : Dx H N v d) (f : Fine 60 16000000 d) : Odd H N v
  | dic {a : Addr} {kvs : List (Key × V)} (e : v = .ref a) (n : ¬ N a) (h : H a = some (.dK kvs)) (hk : kvs = [] ∨ kvs = [(.inl 0, .int 1)]) : Odd H N v
theorem Odd.off {H H' : Hp} {N M : Addr → Prop} {v : V} (o : Odd H N v) (k : Off N H H') (m : ∀ a, M a → N a) : Odd H' M v := by
  cases o with
  | dat h f => exact .dat (h.off k m) f
  | dic e n h hk => exact .dic e (fun z => n (m _ z)) (k _ _ h n) hk
theorem Odd.at_ {H H' : Hp} {N : Addr → Prop} {v : V} (o : Odd H N v) (k : Off N H H') : Odd H' N v := o.off k fun _ z => z
theorem Odd.int {H : Hp} {N : Addr → Prop} {i : Int} (h : i.natAbs < 2 ^ 1900) : Odd H N (.int i) := .dat (.int i) ((Fine.int (by
  by_cases h0 : i.natAbs = 0
  · rw [h0]
    decide
  · exact Nat.lt_of_lt_of_le ((Nat.log2_lt h0).mpr h) (by decide))).up (by decide) (by decide))
/-- the names of the types of these -/
def kinds : List String := ["NoneType", "bool", "int", "str", "list", "tuple", "dict"]
theorem Odd.ty {K : PySem.W.Frag} {H : Hp} {N : Addr → Prop} {v : V} (o : Odd H N v) : ∃ t, t ∈ kinds ∧ (∀ H', Off N H H' → TyX K H' v (.type t)) ∧ (t = "int" ↔ ∃ i, v = .int i) := by
  cases o with
  | dic e n h hk =>
    subst e
    exact ⟨"dict", by decide, fun H' k => .base (.dK (k _ _ h n)), by simp⟩
  | dat h f =>
    cases h with
    | non => exact ⟨"NoneType", by decide, fun _ _ => .base .non, by simp⟩
    | bl c => exact ⟨"bool", by decide, fun _ _ => .base (.bl c), by simp⟩
    | int i => exact ⟨"int", by decide, fun _ _ => .base (.int i), by simp⟩
    | str x => exact ⟨"str", by decide, fun _ _ => .base (.str x), by simp⟩
    | lst h n t => exact ⟨"list", by decide, fun H' k => .base (.lst (k _ _ h n)), by simp⟩
    | tup h n t => exact ⟨"tuple", by decide, fun H' k => .base (.tup (k _ _ h n)), by simp⟩
theorem odd_repr {K : PySem.W.Frag} {H : Hp} {N : Addr → Prop} {v : V} (o : Odd H N v) : ∃ x : Str, ∀ (H' : Hp) (Q : VK), Off N H H' → Q (.str x) H' → rReprZ K [v] H' Q := by
  cases o with
  | @dat d h f => exact ⟨d.shown, fun H' Q k q => .inl ⟨v, d, rfl, (h.off k fun _ z => z).dp, f, q⟩⟩
  | @dic a kvs e n h hk =>
    subst e
    rcases hk with rfl | rfl
    · exact ⟨(dictD [] []).shown, fun H' Q k q => .inr ⟨a, [], [], rfl, ⟨k _ _ h n, .nil, rfl⟩, rfl, by decide, by decide +kernel, q⟩⟩
    · exact ⟨(dictD [(.inl 0, .int 1)] [.int 1]).shown, fun H' Q k q => .inr ⟨a, [(.inl 0, .int 1)], [.int 1], rfl, ⟨k _ _ h n, .cons (.int 1) .nil, rfl⟩, by decide +kernel, by decide, by decide +kernel, q⟩⟩
theorem kit_ref {K : PySem.W.Frag} {C : Addr} {T : String} {b : Bool} (h : PySem.W.subIn K (.ref C) (.type T) = some b) (hm : PySem.W.kitMeta T = true) : PySem.W.kitOne K (.ref C) (.type T) = some b := by
  unfold PySem.W.kitOne
  rw [if_neg (by intro z; exact nomatch (beq_iff_eq.mp z))]
  show (if PySem.W.kitMeta T = true then _ else _) = _
  rw [if_pos hm]
  exact h
/-- an own error class without __init__ of its own, over ValueError -/
structure ExW (K : PySem.W.Frag) (mg : Str → Option Value) (x : Str) where
  C : Addr
  g : mg x = some (.ref C)
  k : PySem.W.keepIn K (.ref C) = true
  q : PySem.W.excIn K C [.type "ValueError", .type "Exception", .type "BaseException", .type "object"] "ValueError.__new__" = true
  c : ExcC K C
  t : PySem.W.typeIn K (.ref C) = some (.type "type")
  ki : PySem.W.kitOne K (.ref C) (.type "int") = some false
  kb : PySem.W.kitOne K (.ref C) (.type "bool") = some false
def spWholeZ (K : PySem.W.Frag) : Sp := fun vs H Q _ => ∃ (x : V) (t : Value) (bi bb : Bool), vs = [x] ∧ TyZ K H x t ∧ PySem.W.kitOne K t (.type "int") = some bi ∧ PySem.W.kitOne K t (.type "bool") = some bb ∧ Q (.bl (bi && !bb)) H
theorem kinds_whole : ∀ t ∈ kinds, kitB t "int" = some (t == "int" || t == "bool") ∧ kitB t "bool" = some (t == "bool") := by decide +kernel
/-- is_whole of x tells c -/
def WholeZ (K : PySem.W.Frag) (H : Hp) (x : V) (c : Bool) : Prop := ∃ (t : Value) (bi bb : Bool), TyZ K H x t ∧ PySem.W.kitOne K t (.type "int") = some bi ∧ PySem.W.kitOne K t (.type "bool") = some bb ∧ (bi && !bb) = c
theorem WholeZ.int {K : PySem.W.Frag} {H : Hp} (i : Int) : WholeZ K H (.int i) true := ⟨.type "int", true, false, .tx (.base (.int i)), kit_ty (by decide +kernel), kit_ty (by decide +kernel), rfl⟩
theorem WholeZ.err {K : PySem.W.Frag} {mg : Str → Option Value} {x : Str} {H : Hp} {e : Addr} (E : ExW K mg x) (h : H e = some (ExO (.ref E.C) e)) : WholeZ K H (.ref e) false := ⟨.ref E.C, false, false, .ex h E.c, E.ki, E.kb, rfl⟩
/-- an odd thing is a whole number, or it is none -/
theorem odd_cases {K : PySem.W.Frag} {H : Hp} {N : Addr → Prop} {v : V} (o : Odd H N v) : (∃ i : Int, v = .int i ∧ i.natAbs < 2 ^ 1920) ∨ ((∀ i, v ≠ .int i) ∧ ∀ H', Off N H H' → WholeZ K H' v false) := by
  obtain ⟨t, ht, hk, hi⟩ := o.ty (K := K)
  by_cases e : t = "int"
  · left
    obtain ⟨i, rfl⟩ := hi.mp e
    refine ⟨i, rfl, ?_⟩
    cases o with
    | dic e' => cases e'
    | dat h f =>
      cases h
      have f2 := f.sh
      have f3 : i.natAbs.log2 < 1920 := by simpa [PyData.showable] using f2
      by_cases h0 : i.natAbs = 0
      · rw [h0]
        exact Nat.pow_pos (by decide)
      · exact (Nat.log2_lt h0).mp f3
  · right
    refine ⟨fun i e' => e (hi.mpr ⟨i, e'⟩), fun H' k => ?_⟩
    obtain ⟨h1, h2⟩ := kinds_whole t ht
    refine ⟨.type t, _, _, .tx (hk H' k), kit_ty h1, kit_ty h2, ?_⟩
    have : (t == "int") = false := by simpa using e
    rw [this]
    cases (t == "bool") <;> rfl
theorem int_whole {K : PySem.W.Frag} {H : Hp} {i : Int} {Q : VK} {E : XK} (q : Q (.bl true) H) : spWholeZ K [.int i] H Q E :=
  ⟨.int i, .type "int", true, false, rfl, .tx (.base (.int i)), kit_ty (by decide +kernel), kit_ty (by decide +kernel), q⟩
end My

set_option Elab.async false
set_option maxRecDepth 100000
/-! Errors: made, raised, caught, asked for their class. -/
namespace My
open PySem L2 PySem.Spec PyProof.Rows
/-- X(): a new error as a value -/
theorem pe_exc0 {X : Cx} {C : Addr} {bmB : List Value} {B newId initId : String} {x : Str} {p pos : Pos} (F : ExcBaseFacts B newId initId bmB) (q : PySem.W.excIn X.K C bmB newId = true)
    (gC : X.mg x = some (.ref C)) (kC : PySem.W.keepIn X.K (.ref C) = true) (hg : Gl X x) (hdb : (x == ("__debug__" : Str)) = false := by decide) :
    PE X (.Call (.Name x p) [] [] pos) (fun _ H Q => ∀ a, H a = none → Q (.ref a) (upd H a (ExO (.ref C) a))) := by
  constructor
  intro pins st σ H Q I h
  refine wpAny_Call_Name_kw (ld_glob I hg gC ?_ hdb)
  refine PySem.W.callWith_K0 I.kIn kC ?_
  obtain ⟨bm, N, nm, qn, bs, hdct, sn, sub, ab, col, dd, k0, k1, k2, k3, k5, mN, hC, hN, hni, T⟩ := exc_obj I.kIn q
  refine wpAny_call_exc_subT F T hC hN hni ?_ (Nat.zero_le _)
  intro h' a hm
  have hn : H a = none := I.hok.gone hm.new
  obtain ⟨t, ht, _, _⟩ := hm.there
  exact ⟨.ref a, _, I.laidN hm.keeps hm.new hn (exO_ok ht ⟨rfl, rfl⟩ rfl rfl rfl (show 4 < 6 by decide)), rfl, h a hn⟩
/-- isinstance(e, c) in the suite that holds e -/
def rIsS (K : PySem.W.Frag) (cls : Value) (d : Option Addr) (a : Addr) : List V → Hp → VK → Prop := fun xs H Q =>
  ∃ (D : Addr) (c : V) (cv : Value) (b : Bool), cls = .ref D ∧ d = none ∧ ExcC K D ∧ xs = [.ref a, c] ∧ (∀ u, RelV c u → u = cv) ∧ PySem.W.kitOne K (.ref D) cv = some b ∧ Q (.bl b) H
theorem call_isS {X : Cx} {a : Addr} {oe : Obj} {cls : Value} {d : Option Addr} {pn : List (Addr × Obj)} (hz : Zc cls d oe) (hf : ∃ vs, oe.data = .fields vs) :
    CallR (X.suite a ((a, oe) :: pn)) (.builtin "isinstance") (rIsS X.K cls d a) := by
  intro pins st σ H xs us Q I r h
  obtain ⟨D, c, cv, b, rfl, rfl, C, e, hc, hk, q⟩ := h
  exact call_isE C hz hf pins st σ H xs us Q I r ⟨c, cv, b, e, hc, hk, q⟩
theorem kit_self {K : PySem.W.Frag} {t : Value} : PySem.W.kitOne K t t = some true := by
  unfold PySem.W.kitOne
  rw [if_pos (by simp)]
theorem ref_only {C : Addr} : ∀ u, L2.RelV (.ref C) u → u = .ref C := fun _ h => h
/-- the class D is caught by the name of C -/
theorem exm_by {K : PySem.W.Frag} {C D : Addr} {b : Bool} (c : ExcC K C) (t : PySem.W.typeIn K (.ref C) = some (.type "type")) (h : PySem.W.subIn K (.ref D) (.ref C) = some b) : PySem.W.exmOne K (.ref D) (.ref C) = some b :=
  PySem.W.exm_ref c.hs c.hd t h
end My

set_option Elab.async false
set_option maxRecDepth 100000
/-! Seals of lists of whole numbers, and their mending. -/
namespace My
open PySem L2 PySem.Spec PyProof.Rows
def zs (xs : List Int) : List V := xs.map V.int
def zsD (xs : List Int) : List PyData := xs.map PyData.int
theorem zs_len (xs : List Int) : (zs xs).length = xs.length := List.length_map ..
theorem zs_get {xs : List Int} {i : Nat} {v : V} (h : (zs xs)[i]? = some v) : ∃ x, xs[i]? = some x ∧ v = .int x := by
  unfold zs at h
  rw [List.getElem?_map] at h
  obtain ⟨r, hr, rfl⟩ := Option.map_eq_some_iff.mp h
  exact ⟨r, hr, rfl⟩
theorem zs_at {xs : List Int} {i : Nat} {x : Int} (h : xs[i]? = some x) : (zs xs)[i]? = some (.int x) := by
  unfold zs
  rw [List.getElem?_map, h]
  rfl
theorem zs_app (xs ys : List Int) : zs (xs ++ ys) = zs xs ++ zs ys := List.map_append
theorem dp_int {K : PySem.W.Frag} {H : Hp} : ∀ xs : List Int, DpAll K H (zs xs) (zsD xs)
  | [] => .nil
  | _ :: xs => .cons (.int _) (dp_int xs)
/-- every number below n bits -/
def Bits (n : Nat) (xs : List Int) : Prop := ∀ x ∈ xs, x.natAbs < 2 ^ n
theorem Bits.up {n m : Nat} {xs : List Int} (h : Bits n xs) (l : n ≤ m) : Bits m xs := fun x hx => Nat.lt_of_lt_of_le (h x hx) (Nat.pow_le_pow_right (by decide) l)
theorem Bits.app {n : Nat} {xs ys : List Int} (h : Bits n xs) (g : Bits n ys) : Bits n (xs ++ ys) := fun x hx => (List.mem_append.mp hx).elim (h x) (g x)
theorem Bits.one {n : Nat} {x : Int} (h : x.natAbs < 2 ^ n) : Bits n [x] := fun y hy => by rw [List.mem_singleton.mp hy]; exact h
theorem Bits.set {n i : Nat} {xs : List Int} {x : Int} (h : Bits n xs) (hx : x.natAbs < 2 ^ n) : Bits n (xs.set i x) := fun y hy => by
  rcases List.mem_or_eq_of_mem_set hy with h1 | h1
  · exact h y h1
  · rw [h1]
    exact hx
theorem fine_zs {xs : List Int} (h : Bits 1900 xs) (hl : xs.length ≤ 400) : Fine 1 800000 (.list (zsD xs)) := by
  have a : FineL 0 ((zsD xs).length * (1921 + 2)) (zsD xs) := FineL.all fun d hd => by
    obtain ⟨x, hx, rfl⟩ := List.mem_map.mp hd
    refine Fine.int ?_
    by_cases h0 : x.natAbs = 0
    · rw [h0]
      decide
    · exact Nat.lt_of_lt_of_le ((Nat.log2_lt h0).mpr (h x hx)) (by decide)
  refine (Fine.list a).up (by decide) ?_
  have : (zsD xs).length = xs.length := List.length_map ..
  rw [this]
  omega
/-- the sum of the first n numbers, each so often as k says -/
def ws (k : Nat → Int) (xs : List Int) : Nat → Int
  | 0 => 0
  | n + 1 => ws k xs n + xs.getD n 0 * k n
def k1 : Nat → Int := fun _ => 1
def k2 : Nat → Int := fun n => (n : Int) + 1
def k3 : Nat → Int := fun n => ((n : Int) + 1) * ((n : Int) + 1)
/-- the seal of xs -/
def sealOf (xs : List Int) : List Int := [(xs.length : Int), ws k1 xs xs.length, ws k2 xs xs.length, ws k3 xs xs.length]
theorem getD_at {xs : List Int} {i : Nat} {x : Int} (h : xs[i]? = some x) : xs.getD i 0 = x := by rw [List.getD_eq_getElem?_getD, h] <;> rfl
theorem ws_set {k : Nat → Int} {xs : List Int} {i : Nat} {v : Int} (hi : i < xs.length) : ∀ n, ws k (xs.set i v) n = ws k xs n + if i < n then (v - xs.getD i 0) * k i else 0
  | 0 => by simp [ws]
  | n + 1 => by
    show ws k (xs.set i v) n + (xs.set i v).getD n 0 * k n = ws k xs n + xs.getD n 0 * k n + _
    rw [ws_set hi n]
    by_cases h : n = i
    · subst h
      have e : (xs.set n v).getD n 0 = v := getD_at (by simp [hi])
      rw [e, if_neg (Nat.lt_irrefl _), if_pos (Nat.lt_succ_self _), Int.sub_mul]
      omega
    · have e : (xs.set i v).getD n 0 = xs.getD n 0 := by
        rw [List.getD_eq_getElem?_getD, List.getD_eq_getElem?_getD, List.getElem?_set_ne (Ne.symm h)]
      rw [e]
      by_cases h2 : i < n
      · rw [if_pos h2, if_pos (by omega)]
        omega
      · rw [if_neg h2, if_neg (by omega)]
        omega
theorem ws_sum (k : Nat → Int) (xs : List Int) : ∀ n, ((List.range n).map fun i => xs.getD i 0 * k i).sum = ws k xs n
  | 0 => rfl
  | n + 1 => by
    rw [List.range_succ, List.map_append, List.sum_append, ws_sum k xs n]
    simp [ws]
theorem sum_ws (xs : List Int) : xs.sum = ws k1 xs xs.length := by
  rw [← ws_sum]
  congr 1
  refine List.ext_getElem? fun i => ?_
  rw [List.getElem?_map]
  by_cases h : i < xs.length
  · rw [List.getElem?_range h, List.getElem?_eq_getElem h]
    show some xs[i] = some (xs.getD i 0 * 1)
    rw [getD_at (List.getElem?_eq_getElem h), Int.mul_one]
  · rw [List.getElem?_eq_none (by omega), List.getElem?_eq_none (by simpa using h)]
    rfl
theorem ws_bits {k : Nat → Int} {xs : List Int} {n m j : Nat} (h : Bits n xs) (hk : ∀ i, i < m → (k i).natAbs < 2 ^ j) : ∀ i, i ≤ m → i ≤ xs.length → (ws k xs i).natAbs ≤ i * (2 ^ n * 2 ^ j)
  | 0, _, _ => Nat.zero_le _
  | i + 1, him, hil => by
    have ih := ws_bits h hk i (by omega) (by omega)
    have hl : i < xs.length := hil
    have e : xs.getD i 0 = xs[i] := getD_at (List.getElem?_eq_getElem hl)
    have h1 : (xs[i]).natAbs < 2 ^ n := h _ (List.getElem_mem hl)
    have h2 := hk i (by omega)
    show (ws k xs i + xs.getD i 0 * k i).natAbs ≤ _
    rw [e]
    have h3 : (xs[i] * k i).natAbs ≤ 2 ^ n * 2 ^ j := by
      rw [Int.natAbs_mul]
      exact Nat.mul_le_mul (Nat.le_of_lt h1) (Nat.le_of_lt h2)
    have h4 := Int.natAbs_add_le (ws k xs i) (xs[i] * k i)
    rw [Nat.succ_mul]
    omega
theorem ws_lt {k : Nat → Int} {xs : List Int} {n j : Nat} (h : Bits n xs) (hl : xs.length ≤ 511) (hk : ∀ i, i < 511 → (k i).natAbs < 2 ^ j) {i : Nat} (hi : i ≤ xs.length) : (ws k xs i).natAbs < 2 ^ (n + j + 9) := by
  have h1 := ws_bits h hk i (by omega) hi
  have h2 : 2 ^ (n + j + 9) = 512 * (2 ^ n * 2 ^ j) := by
    rw [Nat.pow_add, Nat.pow_add, Nat.mul_comm]
  have h3 : 0 < 2 ^ n * 2 ^ j := Nat.mul_pos (Nat.pow_pos (by decide)) (Nat.pow_pos (by decide))
  have h4 : i * (2 ^ n * 2 ^ j) ≤ 511 * (2 ^ n * 2 ^ j) := Nat.mul_le_mul_right _ (by omega)
  rw [h2]
  omega
theorem k1_lt (i : Nat) : (k1 i).natAbs < 2 ^ 1 := show (1 : Int).natAbs < 2 ^ 1 by decide
theorem k2_lt {i : Nat} (h : i < 511) : (k2 i).natAbs < 2 ^ 9 := by
  show ((i : Int) + 1).natAbs < 2 ^ 9
  omega
theorem k3_lt {i : Nat} (h : i < 511) : (k3 i).natAbs < 2 ^ 18 := by
  show (((i : Int) + 1) * ((i : Int) + 1)).natAbs < 2 ^ 18
  rw [Int.natAbs_mul]
  have : ((i : Int) + 1).natAbs ≤ 511 := by omega
  exact Nat.lt_of_le_of_lt (Nat.mul_le_mul this this) (by decide)
theorem seal_bits {n : Nat} {xs : List Int} (h : Bits n xs) (hl : xs.length ≤ 511) : Bits (n + 27) (sealOf xs) := by
  intro x hx
  have up : ∀ {y : Int} {j : Nat}, j ≤ n + 27 → y.natAbs < 2 ^ j → y.natAbs < 2 ^ (n + 27) := fun hj hy => Nat.lt_of_lt_of_le hy (Nat.pow_le_pow_right (by decide) hj)
  rcases List.mem_cons.mp hx with rfl | hx
  · exact up (j := 9) (by omega) (by omega)
  rcases List.mem_cons.mp hx with rfl | hx
  · exact up (j := n + 1 + 9) (by omega) (ws_lt h hl (fun i _ => k1_lt i) (Nat.le_refl _))
  rcases List.mem_cons.mp hx with rfl | hx
  · exact up (j := n + 9 + 9) (by omega) (ws_lt h hl (fun i hi => k2_lt hi) (Nat.le_refl _))
  · rw [List.mem_singleton.mp hx]
    exact up (j := n + 18 + 9) (by omega) (ws_lt h hl (fun i hi => k3_lt hi) (Nat.le_refl _))
/-- xs with the number at i so changed that its sum is A -/
def fixAt (xs : List Int) (A : Int) (i : Nat) : List Int := xs.set i (xs.getD i 0 + (A - ws k1 xs xs.length))
theorem fix_seal {xs : List Int} {A : Int} {i : Nat} (hi : i < xs.length) :
    sealOf (fixAt xs A i) = [(xs.length : Int), A, ws k2 xs xs.length + (A - ws k1 xs xs.length) * k2 i, ws k3 xs xs.length + (A - ws k1 xs xs.length) * k3 i] := by
  unfold sealOf fixAt
  rw [List.length_set, ws_set hi, ws_set hi, ws_set hi, if_pos hi, if_pos hi, if_pos hi]
  have e : xs.getD i 0 + (A - ws k1 xs xs.length) - xs.getD i 0 = A - ws k1 xs xs.length := by omega
  have e1 : ws k1 xs xs.length + (A - ws k1 xs xs.length) * k1 i = A := by
    show ws k1 xs xs.length + (A - ws k1 xs xs.length) * 1 = A
    omega
  rw [e, e1]
/-- what mending xs by the seal n, A, B, C comes to -/
inductive Mend (xs sl : List Int) : Option (List Int × Int) → Prop
  | right (h : sealOf xs = sl) : Mend xs sl (some (xs, 0))
  | one {A : Int} {i : Nat} (h : sealOf xs ≠ sl) (hA : sl[1]? = some A) (hi : i < xs.length) (hf : sealOf (fixAt xs A i) = sl) : Mend xs sl (some (fixAt xs A i, (i : Int) + 1))
  | none (h : sealOf xs ≠ sl) (hf : ∀ A i, sl[1]? = some A → i < xs.length → sealOf (fixAt xs A i) ≠ sl) : Mend xs sl none
/-- the place of a mended number -/
theorem fix_place {xs : List Int} {n A B C : Int} {i : Nat} (hne : sealOf xs ≠ [n, A, B, C]) (hi : i < xs.length) (hf : sealOf (fixAt xs A i) = [n, A, B, C]) :
    n = (xs.length : Int) ∧ A - ws k1 xs xs.length ≠ 0 ∧ B - ws k2 xs xs.length = (A - ws k1 xs xs.length) * ((i : Int) + 1) := by
  rw [fix_seal hi] at hf
  have e := hf
  simp only [List.cons.injEq, and_true] at e
  obtain ⟨e1, _, e3, e4⟩ := e
  refine ⟨e1.symm, fun z => hne ?_, ?_⟩
  · rw [z] at e3 e4
    have eA : ws k1 xs xs.length = A := by omega
    unfold sealOf
    rw [eA, e1]
    have e3' : ws k2 xs xs.length = B := by omega
    have e4' : ws k3 xs xs.length = C := by omega
    rw [e3', e4']
  · have : (A - ws k1 xs xs.length) * k2 i = (A - ws k1 xs xs.length) * ((i : Int) + 1) := rfl
    omega
theorem fix_one {xs : List Int} {n A B C : Int} {i j : Nat} (hne : sealOf xs ≠ [n, A, B, C]) (hi : i < xs.length) (hj : j < xs.length) (hf : sealOf (fixAt xs A i) = [n, A, B, C]) (hg : sealOf (fixAt xs A j) = [n, A, B, C]) : i = j := by
  obtain ⟨_, h0, h1⟩ := fix_place hne hi hf
  obtain ⟨_, _, h2⟩ := fix_place hne hj hg
  rw [h1] at h2
  have := Int.eq_of_mul_eq_mul_left h0 h2
  omega
theorem Mend.inj {xs : List Int} {n A B C : Int} {r s : Option (List Int × Int)} (h : Mend xs [n, A, B, C] r) (g : Mend xs [n, A, B, C] s) : r = s := by
  cases h with
  | right h =>
    cases g with
    | right => rfl
    | one g => exact absurd h g
    | none g => exact absurd h g
  | @one A1 i h hA hi hf =>
    cases hA
    cases g with
    | right g => exact absurd g h
    | @one A2 j g hA2 hj hg =>
      cases hA2
      rw [fix_one h hi hj hf hg]
    | none g hg => exact absurd hf (hg _ _ rfl hi)
  | none h hf =>
    cases g with
    | right g => exact absurd g h
    | one g hA hi hg => exact absurd hg (hf _ _ hA hi)
    | none => rfl
theorem Mend.of {xs : List Int} {n A B C : Int} : ∃ r, Mend xs [n, A, B, C] r := by
  by_cases h : sealOf xs = [n, A, B, C]
  · exact ⟨_, .right h⟩
  · by_cases g : ∃ i, i < xs.length ∧ sealOf (fixAt xs A i) = [n, A, B, C]
    · obtain ⟨i, hi, hf⟩ := g
      exact ⟨_, .one h rfl hi hf⟩
    · refine ⟨_, .none h fun A' i hA hi hf => ?_⟩
      cases hA
      exact g ⟨i, hi, hf⟩
theorem Mend.bits {xs : List Int} {n A B C : Int} {r : List Int × Int} {m : Nat} (h : Mend xs [n, A, B, C] (some r)) (hb : Bits m xs) (hl : xs.length ≤ 511) (hA : A.natAbs < 2 ^ (m + 30)) : r.1.length = xs.length ∧ Bits (m + 40) r.1 ∧ 0 ≤ r.2 ∧ r.2 ≤ 511 := by
  cases h with
  | right => exact ⟨rfl, hb.up (by omega), Int.le_refl 0, show (0 : Int) ≤ 511 by decide⟩
  | one h e hi hf =>
    cases e
    refine ⟨List.length_set .., ?_, by show (0 : Int) ≤ _ + 1; omega, by show _ + 1 ≤ (511 : Int); omega⟩
    refine Bits.set (hb.up (by omega)) ?_
    have l1 := ws_lt hb hl (fun i _ => k1_lt i) (Nat.le_refl _)
    rename_i i
    have e1 : xs.getD i 0 = xs[i] := getD_at (List.getElem?_eq_getElem hi)
    have l2 : (xs[i]).natAbs < 2 ^ m := hb _ (List.getElem_mem hi)
    rw [e1]
    have u : ∀ {y : Int} {j : Nat}, j ≤ m + 30 → y.natAbs < 2 ^ j → y.natAbs < 2 ^ (m + 30) := fun hj hy => Nat.lt_of_lt_of_le hy (Nat.pow_le_pow_right (by decide) hj)
    have l3 := sub_lt hA (u (j := m + 1 + 9) (by omega) l1)
    have l4 := add_lt (Nat.lt_of_lt_of_le (u (j := m) (by omega) l2) (Nat.pow_le_pow_right (by decide) (by omega : m + 30 ≤ m + 30 + 1))) l3
    exact Nat.lt_of_lt_of_le l4 (Nat.pow_le_pow_right (by decide) (by omega))
theorem fine_ztup {xs : List Int} (h : Bits 1900 xs) (hl : xs.length ≤ 400) : Fine 1 800001 (.tuple (zsD xs)) := by
  have a : FineL 0 ((zsD xs).length * (1921 + 2)) (zsD xs) := FineL.all fun d hd => by
    obtain ⟨x, hx, rfl⟩ := List.mem_map.mp hd
    refine Fine.int ?_
    by_cases h0 : x.natAbs = 0
    · rw [h0]
      decide
    · exact Nat.lt_of_lt_of_le ((Nat.log2_lt h0).mpr (h x hx)) (by decide)
  refine (Fine.tuple a).up (by decide) ?_
  have : (zsD xs).length = xs.length := List.length_map ..
  rw [this]
  omega
/-- the way of the program: no place, or one that makes it not right -/
theorem mend_no {xs : List Int} {n A B C : Int} (h : sealOf xs ≠ [n, A, B, C]) (hn : ∀ i, i < xs.length → n = (xs.length : Int) → A - ws k1 xs xs.length ≠ 0 → (B - ws k2 xs xs.length).fdiv (A - ws k1 xs xs.length) = (i : Int) + 1 → sealOf (fixAt xs A i) ≠ [n, A, B, C]) : Mend xs [n, A, B, C] none := by
  refine .none h fun A' i hA hi hf => ?_
  cases hA
  obtain ⟨h1, h2, h3⟩ := fix_place h hi hf
  exact hn i hi h1 h2 (by rw [h3]; exact Int.mul_fdiv_cancel_left _ h2) hf
theorem cut_to {xs : List Int} {i : Nat} (hi : i ≤ xs.length) : cutV (zs xs) none (some (i : Int)) = zs (xs.take i) := by
  unfold cutV zs
  rw [HT.sIx_nat, HT.sIx_none, List.length_map, List.drop_zero, Nat.sub_zero, Nat.min_eq_left hi, List.map_take]
theorem cut_from {xs : List Int} {i : Nat} (hi : i ≤ xs.length) : cutV (zs xs) (some (i : Int)) none = zs (xs.drop i) := by
  unfold cutV zs
  rw [HT.sIx_nat, HT.sIx_none, List.length_map, Nat.min_eq_left hi, List.map_drop, List.take_of_length_le (by rw [List.length_drop, List.length_map]; exact Nat.le_refl _)]
theorem cut_rest (xs : List Int) (i : Nat) : cutV (zs xs) (some (i : Int)) none = zs (xs.drop i) := by
  by_cases h : i ≤ xs.length
  · exact cut_from h
  · unfold cutV zs
    rw [HT.sIx_nat, HT.sIx_none, List.length_map, Nat.min_eq_right (by omega), List.drop_of_length_le (by rw [List.length_map]; exact Nat.le_refl _), List.drop_of_length_le (by omega), List.take_nil, List.map_nil]
theorem cut_set {xs : List Int} {i : Nat} {v : Int} (hi : i < xs.length) : cutV (zs xs) none (some (i : Int)) ++ [V.int v] ++ cutV (zs xs) (some ((i + 1 : Nat) : Int)) none = zs (xs.set i v) := by
  rw [cut_to (Nat.le_of_lt hi), cut_from hi, List.set_eq_take_append_cons_drop, if_pos hi]
  unfold zs
  rw [List.map_append, List.map_cons, List.append_assoc]
  rfl
/-! ### tuples of numbers, alike or not -/
theorem eqv_zs : ∀ xs ys : List Int, PyData.eqvAll (zsD xs) (zsD ys) = decide (xs = ys)
  | [], [] => rfl
  | [], _ :: _ => rfl
  | _ :: _, [] => rfl
  | x :: xs, y :: ys => by
    show (PyData.eqv (.int x) (.int y) && PyData.eqvAll (zsD xs) (zsD ys)) = _
    rw [eqv_zs xs ys]
    show (_ && decide (xs = ys)) = _
    by_cases h : x = y
    · subst h
      have : PyData.eqv (.int x) (.int x) = true := by simp [PyData.eqv]
      rw [this]
      simp
    · have : PyData.eqv (.int x) (.int y) = false := by simp [PyData.eqv, h]
      rw [this]
      simp [h]
theorem bits_add {n : Nat} {x y : Int} (hx : x.natAbs < 2 ^ n) (hy : y.natAbs < 2 ^ n) : (x + y).natAbs < 2 ^ (n + 1) := add_lt hx hy
theorem zs_set {xs : List Int} {i : Nat} {v : Int} : (zs xs).set i (.int v) = zs (xs.set i v) := by
  unfold zs
  rw [List.map_set]
/-- back to xs -/
theorem fix_back {xs : List Int} {i : Nat} {u : Int} (hi : i < xs.length) : fixAt (xs.set i (xs.getD i 0 + u)) (ws k1 xs xs.length) i = xs := by
  unfold fixAt
  have e1 : (xs.set i (xs.getD i 0 + u)).getD i 0 = xs.getD i 0 + u := getD_at (by simp [hi])
  rw [List.length_set, ws_set hi, if_pos hi, e1, List.set_set]
  have e2 : xs.getD i 0 + u + (ws k1 xs xs.length - (ws k1 xs xs.length + (xs.getD i 0 + u - xs.getD i 0) * k1 i)) = xs[i] := by
    rw [getD_at (List.getElem?_eq_getElem hi)]
    show xs[i] + u + (ws k1 xs xs.length - (ws k1 xs xs.length + (xs[i] + u - xs[i]) * 1)) = xs[i]
    omega
  rw [e2, List.set_getElem_self]
theorem fix_other {xs : List Int} {i : Nat} {u : Int} (hi : i < xs.length) (hu : u ≠ 0) : sealOf (xs.set i (xs.getD i 0 + u)) ≠ sealOf xs := by
  intro h
  unfold sealOf at h
  simp only [List.cons.injEq, and_true] at h
  have h2 := h.2.1
  rw [List.length_set, ws_set hi, if_pos hi] at h2
  have : (xs.getD i 0 + u - xs.getD i 0) * k1 i = u := by
    show (xs.getD i 0 + u - xs.getD i 0) * 1 = u
    omega
  rw [this] at h2
  omega
end My

set_option Elab.async false
set_option maxRecDepth 100000
/-! The law's own draws, over its text. -/
namespace My
open PySem L2 PySem.Spec PyProof.Rows
def top (i : Nat) : Stmt := PySem.Challenge.pw_wholepoll_k26_seals_mended.main.body.getD i (.Pass ⟨0, 0, 0, 0⟩)
/-- the built-in names are the built-in things -/
structure Txt (mg : Str → Option Value) : Prop where
  abs : mg "abs" = none
  int : mg "int" = none
  len : mg "len" = none
  list : mg "list" = none
  range : mg "range" = none
  repr : mg "repr" = none
  sum : mg "sum" = none
  enumerate : mg "enumerate" = none
  isinstance : mg "isinstance" = none
  bool : mg "bool" = none
  str : mg "str" = none
  tuple : mg "tuple" = none
  sorted : mg "sorted" = none
  set : mg "set" = none
  zip : mg "zip" = none
abbrev sLBag : Stmt := top 7
abbrev scLBagN : List Str := ["_law_script", "_law_cell"]
theorem scLBag : FnScope ["_law_script", "_law_cell"] ["_law_script"] (defScope sLBag) :=
  ⟨rfl, rfl, rfl, by decide +kernel, rfl, by decide +kernel, by decide +kernel⟩
abbrev sLTake : Stmt := top 8
abbrev scLTakeN : List Str := ["_law_bag_here", "_law_many", "_law_cell", "_law_mixed_here", "_law_drawn", "_law_early", "_law_second"]
theorem scLTake : FnScope ["_law_bag_here", "_law_many", "_law_cell", "_law_mixed_here", "_law_drawn", "_law_early", "_law_second"] ["_law_bag_here", "_law_many"] (defScope sLTake) :=
  ⟨rfl, rfl, rfl, by decide +kernel, rfl, by decide +kernel, by decide +kernel⟩
abbrev sLOne : Stmt := top 10
abbrev scLOneN : List Str := ["_law_bag_here", "_law_some"]
theorem scLOne : FnScope ["_law_bag_here", "_law_some"] ["_law_bag_here", "_law_some"] (defScope sLOne) :=
  ⟨rfl, rfl, rfl, by decide +kernel, rfl, by decide +kernel, by decide +kernel⟩
theorem head_cell {cs : List Int} (h : ∀ c ∈ cs, 0 ≤ c) (lo : Option Int) : ∃ c : Int, 0 ≤ c ∧ (cutV (cs.map V.int) lo none ++ [V.int 0])[0]? = some (.int c) := by
  match e : cutV (cs.map V.int) lo none with
  | [] => exact ⟨0, Int.le_refl 0, rfl⟩
  | v :: vs =>
    have hv : v ∈ cs.map V.int := by
      have : v ∈ cutV (cs.map V.int) lo none := by rw [e]; exact List.mem_cons_self ..
      unfold cutV at this
      exact List.mem_of_mem_drop (List.mem_of_mem_take this)
    obtain ⟨c, hc, rfl⟩ := List.mem_map.mp hv
    exact ⟨c, h c hc, rfl⟩
section
variable {P : Program} {w : World} {K : PySem.W.Frag} {mg : Str → Option Value} {base : Heap}
theorem ok_take {f : Addr} {fd : FuncData} (F : Fun K "_law_take" "_law_take" sLTake f fd) (T : Txt mg) :
    FnOk P w K mg base CX0 1 f fd ["_law_bag_here", "_law_many"] spTake := by
  refine F.ok scLTake (fun vs H Q E h => ?_) (fun cdv A outer s H vs Q E hr h => ?_)
  · obtain ⟨b, n, rfl, _⟩ := h
    rfl
  · obtain ⟨b, n, rfl, ⟨l, z, m, k, cs, B⟩, hn0, hn9, go⟩ := h
    refine ⟨_, (C8.pss_cut (ps_if (pt_cmpR op_eq (pe_ix ix_list (pv 0) pe_int (fun _ _ => rfl)) pe_int (nomark _))
      (pss_cons (ps_set (i := 2) scLTake.nd rfl (.inl rfl) (pe_ix ix_list (pe_op op_cat (pe_slice sl_list (pe_ix ix_list (pv 0) pe_int (fun _ _ => rfl)) (po_some (pe_ix ix_list (pv 0) pe_int (fun _ _ => rfl))) po_none) (pe_lst (pa_cons pe_int pa_nil))) pe_int (fun _ _ => rfl)))
      (pss_cons (ps_augS (pv 0) pe_int My.get_list pe_int ip_add set_list)
      (pss_cons (ps_asg (pe_op op_mul (pv 2) (pe_callTy call_int1 (by rfl) T.int (by decide +kernel) (pa_cons (pe_cmpR op_ge (pv 2) (pe_op op_pow pe_int pe_int) (nomark _)) pa_nil))) (pg_sub (pv 0) pe_int set_list))
      (pss_cons (ps_set (i := 3) scLTake.nd rfl (.inl rfl) (pe_op op_add (pe_op op_add (pe_op op_mul (pe_ix ix_list (pv 0) pe_int (fun _ _ => rfl)) pe_int) (pe_op op_modN (pe_callTy call_int1 (by rfl) T.int (by decide +kernel) (pa_cons (pv 2) pa_nil)) pe_int)) (pe_op op_mul pe_int (pe_ix ix_list (pv 0) pe_int (fun _ _ => rfl)))))
      (pss_one (ps_asg (pe_op op_modN (pe_callTy call_int1 (by rfl) T.int (by decide +kernel) (pa_cons (pv 3) pa_nil)) pe_int) (pg_sub (pv 0) pe_int set_list)))))))
      pss_nil)
    (pss_cons (ps_if (pt_cmpR op_gt (pe_ix ix_list (pv 0) pe_int (fun _ _ => rfl)) pe_int (nomark _))
      (pss_cons (ps_asg (pe_tup (pa_cons (pe_op op_modN (pe_callTy call_int1 (by rfl) T.int (by decide +kernel) (pa_cons (pe_ix ix_list (pv 0) pe_int (fun _ _ => rfl)) pa_nil)) (pv 1)) (pa_cons (pe_op op_fdivW (pe_callTy call_int1 (by rfl) T.int (by decide +kernel) (pa_cons (pe_ix ix_list (pv 0) pe_int (fun _ _ => rfl)) pa_nil)) (pv 1)) pa_nil))) (pg_tup (by rfl) (pgs_cons (pg_name (i := 4) scLTake.nd rfl (.inl rfl)) (pgs_cons (pg_sub (pv 0) pe_int set_list) pgs_nil))))
      (pss_one (ps_ret (pv 4))))
      pss_nil)
    (pss_cons (ps_set (i := 5) scLTake.nd rfl (.inl rfl) (pe_op op_modN (pe_callTy call_int1 (by rfl) T.int (by decide +kernel) (pa_cons (pe_op op_mul (pe_op op_add (pe_ix ix_list (pv 0) pe_int (fun _ _ => rfl)) pe_int) pe_int) pa_nil)) pe_int))
    (pss_cons (ps_set (i := 6) scLTake.nd rfl (.inl rfl) (pe_op op_modN (pe_callTy call_int1 (by rfl) T.int (by decide +kernel) (pa_cons (pe_op op_mul (pe_op op_modN (pe_callTy call_int1 (by rfl) T.int (by decide +kernel) (pa_cons (pe_op op_mul (pv 5) (pv 5)) pa_nil)) pe_int) pe_int) pa_nil)) pe_int))
    (pss_one (ps_ret (pe_op op_modN (pe_callTy call_int1 (by rfl) T.int (by decide +kernel) (pa_cons (pe_op op_fdivW (pv 6) pe_int) pa_nil)) (pv 1)))))))), ?_⟩
    refine ⟨fun σ' H' => ∃ (c m3 : Option V) (z' m' : Int) (k' : Nat), σ' = [some (.ref b), some (.int n), c, m3, none, none, none] ∧ BagAt H' b l z' m' k' cs ∧ Keep b H H', ?_, ?_⟩
    · refine ⟨_, rfl, b, _, 0, _, rfl, rfl, SqL.of B.ob, atI_nat (j := 0) rfl, rfl, _, rfl, ite2 (fun e => ?_) (fun e => ?_)⟩
      · obtain ⟨c, hc0, hc⟩ := head_cell B.c0 (some (k : Int))
        refine ⟨_, rfl, b, _, 3, _, rfl, rfl, SqL.of B.ob, atI_nat (j := 3) rfl, _, rfl, b, _, 2, _, rfl, rfl, SqL.of B.ob, atI_nat (j := 2) rfl, _, rfl, l, _, rfl, SqL.of B.cl, fun p hp => ?_⟩
        refine ⟨by show 1 ≤ sizeLine; decide, fun q hq => ?_⟩
        have np : p ≠ q := ne_of_none upd_same hq
        refine ⟨p, q, _, _, rfl, rfl, by rw [upd_ne np]; exact upd_same, upd_same, ?_, fun r hr' => ?_⟩
        · have h1 := cutV_length (cs.map V.int) (some (k : Int)) none
          have h2 := B.len
          rw [List.length_map] at h1
          show _ + 1 ≤ sizeLine
          rw [sizeLine_eq]
          omega
        have s1 : Same H (upd (upd (upd H p (.lst (cutV (cs.map V.int) (some (k : Int)) none))) q (.lst [V.int 0])) r (.lst (cutV (cs.map V.int) (some (k : Int)) none ++ [V.int 0]))) :=
          ((Same.new hp).trans (Same.new hq)).trans (Same.new hr')
        have B1 := B.same s1
        refine ⟨r, _, 0, _, rfl, rfl, SqL.of upd_same, atI_nat (j := 0) hc, ?_⟩
        refine ⟨_, rfl, b, _, 2, _, rfl, rfl, SqL.of B1.ob, rfl, _, _, rfl, rfl, b, _, 2, 2, rfl, rfl, B1.ob, rfl, ?_⟩
        have B2 := B1.put (k' := k + 1) B.z0 B.m0 B.m1
        refine ⟨_, rfl, _, rfl, _, _, rfl, rfl, ⟨by decide, by decide, by decide⟩, _, _, rfl, rfl, .inr ⟨_, rfl, _, _, rfl, rfl, .inr ⟨by split <;> decide, by split <;> decide⟩, _, rfl, b, _, 0, 0, rfl, rfl, B2.ob, rfl, ?_⟩⟩
        have h0 : 0 ≤ c * (if decide ((10 : Int) ^ (18 : Int).toNat ≤ c) = true then 1 else 0) := Int.mul_nonneg hc0 (by split <;> decide)
        have B3 := B2.put (k' := k + 1) h0 B.m0 B.m1
        rw [upd_upd] at B3
        refine ⟨_, rfl, b, _, 1, _, rfl, rfl, SqL.of upd_same, atI_nat (j := 1) rfl, _, _, rfl, rfl, .inr ⟨by decide, by decide⟩, _, rfl, .inl ⟨_, rfl, _, _, rfl, rfl, (show (2147483647 : Int) ≠ 0 by decide), _, _, rfl, rfl, _, rfl, b, _, 2, _, rfl, rfl, SqL.of upd_same, atI_nat (j := 2) rfl,
          _, _, rfl, rfl, .inl ⟨by decide, by decide⟩, _, _, rfl, rfl, ?_⟩⟩
        refine ⟨_, rfl, .inl ⟨_, rfl, _, _, rfl, rfl, (show (2147483647 : Int) ≠ 0 by decide), _, rfl, b, _, 1, 1, rfl, rfl, upd_same, rfl, ?_⟩⟩
        have hm := fmod_pos (a := m * 48271 + c.fmod 2147483647 + 7919 * ((k + 1 : Nat) : Int)) (n := 2147483647) (by decide)
        have B4 := B3.put (k' := k + 1) h0 hm.1 hm.2
        rw [upd_upd] at B4
        refine ⟨_, _, c * (if decide ((10 : Int) ^ (18 : Int).toNat ≤ c) = true then 1 else 0), (m * 48271 + c.fmod 2147483647 + 7919 * ((k + 1 : Nat) : Int)).fmod 2147483647, k + 1, rfl, ?_, ?_⟩
        · rw [upd_upd, upd_upd]
          exact B4
        · rw [upd_upd, upd_upd]
          exact (Keep.of s1).trans (keep_upd B1)
      · exact ⟨_, _, z, m, k, rfl, B, .refl⟩
    · rintro σ' H' ⟨c, m3, z', m', k', rfl, B', kp⟩
      refine ⟨_, rfl, b, _, 0, _, rfl, rfl, SqL.of B'.ob, atI_nat (j := 0) rfl, _, _, rfl, rfl, _, rfl, ite2 (fun e => ?_) (fun e => ?_)⟩
      · have hz : 0 < z' := of_decide_eq_true e
        refine ⟨_, rfl, b, _, 0, _, rfl, rfl, SqL.of B'.ob, atI_nat (j := 0) rfl, .inl ⟨_, rfl, _, rfl, _, _, rfl, rfl, Int.ne_of_gt hn0, _, rfl, b, _, 0, _, rfl, rfl, SqL.of B'.ob, atI_nat (j := 0) rfl, .inl ⟨_, rfl, _, rfl, _, _, rfl, rfl, wide_div hn0 hn9 (by decide) (by decide), by show 2 ≤ sizeLine; decide, fun t ht => ?_⟩⟩⟩
        have B1 := B'.same (Same.new (o := HO.tup [V.int (z'.fmod n), V.int (z' / n)]) ht)
        refine ⟨t, _, rfl, SqT.of upd_same, rfl, _, _, rfl, _, _, rfl, _, rfl, b, _, 0, 0, rfl, rfl, B1.ob, rfl, rfl, _, rfl, ?_⟩
        have hm := fmod_pos (a := z') hn0
        have hq : 0 ≤ z' / n := Int.ediv_nonneg (Int.le_of_lt hz) (Int.le_of_lt hn0)
        exact go _ _ hm.1 hm.2 ⟨_, _, _, _, _, B1.put (k' := k') hq B1.m0 B1.m1⟩ ((kp.new ht).trans (keep_upd B1))
      · refine ⟨_, rfl, b, _, 1, _, rfl, rfl, SqL.of B'.ob, atI_nat (j := 1) rfl, _, _, rfl, rfl, _, _, rfl, rfl, .inr ⟨by decide, by decide⟩, .inl ⟨_, rfl, _, _, rfl, rfl, (show (1000000007 : Int) ≠ 0 by decide), ?_⟩⟩
        have h1 := fmod_pos (a := (m' + 1) * 39373) (n := 1000000007) (by decide)
        refine ⟨_, rfl, _, rfl, _, _, rfl, rfl, .inl ⟨Int.lt_of_lt_of_le (by decide) h1.1, Int.lt_of_lt_of_le h1.2 (by decide)⟩, .inl ⟨_, rfl, _, _, rfl, rfl, (show (998244353 : Int) ≠ 0 by decide), _, _, rfl, rfl, .inr ⟨by decide, by decide⟩, .inl ⟨_, rfl, _, _, rfl, rfl, (show (998244353 : Int) ≠ 0 by decide), ?_⟩⟩⟩
        refine ⟨_, rfl, _, _, rfl, rfl, wide_div (b := 3) (by decide) (by decide) (by decide) (by decide), .inl ⟨_, rfl, _, rfl, _, _, rfl, rfl, Int.ne_of_gt hn0, ?_⟩⟩
        have hm := fmod_pos (a := ((((m' + 1) * 39373).fmod 1000000007 * ((m' + 1) * 39373).fmod 1000000007).fmod 998244353 * 30011).fmod 998244353 / 7) hn0
        exact go _ _ hm.1 hm.2 ⟨_, _, _, _, _, B'⟩ kp
theorem ok_bag {f : Addr} {fd : FuncData} (F : Fun K "_law_bag" "_law_bag" sLBag f fd) (T : Txt mg) :
    FnOk P w K mg base CX0 1 f fd ["_law_script"] (spBag K) := by
  refine F.ok scLBag (fun vs H Q E h => ?_) (fun cdv A outer s H vs Q E hr h => ?_)
  · obtain ⟨a, ns, rfl, _⟩ := h
    rfl
  · obtain ⟨a, ns, rfl, hS, hl, go⟩ := h
    refine ⟨_, (pss_one (ps_ret (pe_lst (pa_cons pe_int (pa_cons pe_int (pa_cons pe_int (pa_cons (pe_lc rfl scLBag.nd (pi_list (pe_slice sl_list (pv 0) po_none (po_some pe_int))) (blkOk_by (N := scLBagN) (sc := defScope sLBag) (own := [("_law_cell", 1)]) (by decide +kernel)) (fun _ _ _ _ _ => pg_name (i := 1) scLBag.nd rfl (.inl rfl)) (fun _ _ _ _ _ => pts_nil) (fun _ _ _ _ _ => (pe_callB call_abs (by rfl) T.abs (by decide +kernel) (pa_cons (pv 1) pa_nil)))) pa_nil))))))), ?_⟩
    refine ⟨_, rfl, _, rfl, a, _, rfl, hS, fun p hp => ⟨p, rfl, ⟨_, SqL.of upd_same⟩, fun D hD => ?_⟩⟩
    have cut_map : ∃ cs : List Int, cutV (ns.map V.int) none (some 63) = cs.map V.int ∧ cs.length ≤ 63 := by
      refine ⟨(ns.drop (HT.sIx (ns.map V.int).length 0 none)).take (HT.sIx (ns.map V.int).length (ns.map V.int).length (some 63) - HT.sIx (ns.map V.int).length 0 none), ?_, ?_⟩
      · unfold cutV
        rw [List.map_take, List.map_drop]
      · rw [List.length_take, List.length_drop]
        omega
    obtain ⟨cs, ec, hcl⟩ := cut_map
    have hpD : p ≠ D := ne_of_none upd_same hD
    refine lc_list (K := K) (a := p) (xs := cutV (ns.map V.int) none (some 63)) (fun i H' => ∃ acc : List Int, H' D = some (.lst (acc.map V.int)) ∧ acc.length = i ∧ (∀ c ∈ acc, 0 ≤ c) ∧ (∀ a o, H a = some o → H' a = some o) ∧ H' p = some (.lst (cutV (ns.map V.int) none (some 63))))
      ⟨[], upd_same, rfl, fun c hc => absurd hc (by simp), fun a o e => by rw [upd_ne (ne_of_none (Same.new hp a o e) hD)]; exact Same.new hp a o e, by rw [upd_ne hpD]; exact upd_same⟩
      (fun i H' _ ⟨_, _, _, _, _, h5⟩ => SqL.of h5) ?_ ?_
    · rintro i x H' hi ⟨acc, h1, h2, h3, h4, h5⟩
      have hil : i < cs.length := by
        have := (List.getElem?_eq_some_iff.mp hi).1
        rw [ec, List.length_map] at this
        exact this
      obtain ⟨c, rfl⟩ : ∃ c, x = V.int c := by
        rw [ec, List.getElem?_map] at hi
        obtain ⟨c, _, hc⟩ := Option.map_eq_some_iff.mp hi
        exact ⟨c, hc.symm⟩
      refine ⟨rfl, _, rfl, _, rfl, acc.map V.int, h1, ?_, acc ++ [if c < 0 then -c else c], ?_, ?_, ?_, ?_, ?_⟩
      · rw [List.length_map, sizeLine_eq]
        omega
      · rw [List.map_append]
        exact upd_same
      · rw [List.length_append, h2]
        rfl
      · intro e he
        rcases List.mem_append.mp he with h | h
        · exact h3 e h
        · have : e = (if c < 0 then -c else c) := by simpa using h
          subst this
          split <;> omega
      · intro a o e
        rw [upd_ne (ne_of_none (Same.new hp a o e) hD)]
        exact h4 a o e
      · rw [upd_ne hpD]
        exact h5
    · rintro H' ⟨acc, h1, h2, h3, h4, h5⟩
      refine ⟨by show 4 ≤ sizeLine; decide, fun b hb => ?_⟩
      have hDb : D ≠ b := ne_of_none h1 hb
      have hHb : H b = none := by
        match e : H b with
        | none => rfl
        | some o =>
          rw [h4 b o e] at hb
          cases hb
      refine go b _ hHb ⟨D, 0, 1234567891, 0, acc, upd_same, by rw [upd_ne hDb]; exact h1, Int.le_refl 0, by decide, by decide, h3, ?_⟩ fun a o e => ?_
      · rw [h2, ec, List.length_map]
        exact hcl
      · rw [upd_ne (ne_of_none e hHb)]
        exact h4 a o e
theorem ok_one {f : Addr} {fd : FuncData} (F : Fun K "_law_one" "_law_one" sLOne f fd) (T : Txt mg) (DLTake : Df K mg "_law_take" sLTake ["_law_bag_here", "_law_many"]) :
    FnOk P w K mg base CX0 2 f fd ["_law_bag_here", "_law_some"] spOne := by
  have GLTake : FnOk P w K mg base CX0 1 DLTake.f DLTake.fd ["_law_bag_here", "_law_many"] spTake := ok_take DLTake.F T
  refine F.ok scLOne (fun vs H Q E h => ?_) (fun cdv A outer s H vs Q E hr h => ?_)
  · obtain ⟨b, l, xs, rfl, _⟩ := h
    rfl
  · obtain ⟨b, l, xs, rfl, B, hl, nlb, h0, h1, go⟩ := h
    refine ⟨_, (pss_one (ps_ret (pe_ix ix_list (pv 1) (pe_call GLTake (hr.mono (by decide)) rfl DLTake.mg DLTake.kp DLTake.b .nil pass0 (pa_cons (pv 0) (pa_cons (pe_callB call_len (by rfl) T.len PySem.boot_len (pa_cons (pv 1) pa_nil)) pa_nil))) (fun _ _ => rfl)))), ?_⟩
    refine ⟨_, rfl, _, rfl, _, rfl, _, _, rfl, .inl ⟨_, SqL.of hl, rfl⟩, b, (xs.length : Int), rfl, B, by omega, ?_, fun r H' r0 r1 B' kp => ?_⟩
    · show ((xs.length : Int)).natAbs < 2 ^ 9000
      rw [Int.natAbs_natCast]
      exact Nat.lt_of_le_of_lt h1 (Nat.lt_of_lt_of_le (by decide : 100000 < 2 ^ 20) (Nat.pow_le_pow_right (by decide) (by decide)))
    · obtain ⟨j, rfl⟩ : ∃ j : Nat, r = (j : Int) := ⟨r.toNat, by omega⟩
      have hj : j < xs.length := by omega
      exact ⟨l, xs, _, _, rfl, rfl, SqL.of (kp l _ hl nlb), atI_nat (List.getElem?_eq_getElem hj), go _ _ (List.getElem_mem hj) B' kp⟩
end
end My

/-! Drawn figures. -/
namespace My
open PySem L2 PySem.Spec PyProof.Rows
abbrev sLFigures : Stmt := top 12
abbrev scLFiguresN : List Str := ["_law_bag_here", "_law_most", "_law_way", "_law_wide"]
theorem scLFigures : FnScope ["_law_bag_here", "_law_most", "_law_way", "_law_wide"] ["_law_bag_here", "_law_most"] (defScope sLFigures) :=
  ⟨rfl, rfl, rfl, by decide +kernel, rfl, by decide +kernel, by decide +kernel⟩
abbrev sLSigned : Stmt := top 13
abbrev scLSignedN : List Str := ["_law_bag_here", "_law_most"]
theorem scLSigned : FnScope ["_law_bag_here", "_law_most"] ["_law_bag_here", "_law_most"] (defScope sLSigned) :=
  ⟨rfl, rfl, rfl, by decide +kernel, rfl, by decide +kernel, by decide +kernel⟩
section
variable {P : Program} {w : World} {K : PySem.W.Frag} {mg : Str → Option Value} {base : Heap}
theorem ok_figures {f : Addr} {fd : FuncData} (F : Fun K "_law_figures" "_law_figures" sLFigures f fd) (T : Txt mg) (DLTake : Df K mg "_law_take" sLTake ["_law_bag_here", "_law_many"]) :
    FnOk P w K mg base CX0 2 f fd ["_law_bag_here", "_law_most"] spFigures := by
  have GLTake := ok_take (P := P) (w := w) (base := base) DLTake.F T
  refine F.ok scLFigures (fun vs H Q E h => ?_) (fun cdv A outer s H vs Q E hr h => ?_)
  · obtain ⟨b, m, rfl, _⟩ := h
    rfl
  · obtain ⟨b, m, rfl, B, h0, h6, go⟩ := h
    have p3 : 1000 ≤ 10 ^ (m + 3) := by
      have : 10 ^ 3 ≤ 10 ^ (m + 3) := Nat.pow_le_pow_right (by decide) (by omega)
      exact this
    refine ⟨_, (pss_cons (ps_set (i := 2) scLFigures.nd rfl (.inl rfl) (pe_call GLTake (hr.mono (by decide)) rfl DLTake.mg DLTake.kp DLTake.b .nil pass0 (pa_cons (pv 0) (pa_cons pe_int pa_nil))))
    (pss_cons (ps_if (pt_cmpR My.op_ltC (pv 2) pe_int (nomark _))
      (pss_one (ps_ret (pe_call GLTake (hr.mono (by decide)) rfl DLTake.mg DLTake.kp DLTake.b .nil pass0 (pa_cons (pv 0) (pa_cons (pe_ix ix_list (pe_lst (pa_cons pe_int (pa_cons pe_int (pa_cons pe_int pa_nil)))) (pv 2) (fun _ _ => rfl)) pa_nil)))))
      pss_nil)
    (pss_cons (ps_set (i := 3) scLFigures.nd rfl (.inl rfl) (pe_callTy call_int_str (by rfl) T.int (by decide +kernel) (pa_cons (pe_op op_add_str pe_str (pe_op My.op_repS pe_str (pe_call GLTake (hr.mono (by decide)) rfl DLTake.mg DLTake.kp DLTake.b .nil pass0 (pa_cons (pv 0) (pa_cons (pv 1) pa_nil))))) pa_nil)))
    (pss_cons (ps_if (pt_cmpR My.op_eqC (pv 2) pe_int (nomark _))
      (pss_one (ps_ret (pe_call GLTake (hr.mono (by decide)) rfl DLTake.mg DLTake.kp DLTake.b .nil pass0 (pa_cons (pv 0) (pa_cons (pe_op My.op_mulC pe_int (pv 3)) pa_nil)))))
      pss_nil)
    (pss_one (ps_ret (pe_op My.op_subC (pe_op My.op_addC (pv 3) (pe_call GLTake (hr.mono (by decide)) rfl DLTake.mg DLTake.kp DLTake.b .nil pass0 (pa_cons (pv 0) (pa_cons pe_int pa_nil)))) (pe_call GLTake (hr.mono (by decide)) rfl DLTake.mg DLTake.kp DLTake.b .nil pass0 (pa_cons (pv 0) (pa_cons pe_int pa_nil)))))))))), ?_⟩
    refine ⟨_, rfl, b, 5, rfl, B, by decide, small64 (by decide), fun r1 H1 r10 r15 B1 k1 => ?_⟩
    obtain ⟨w1, rfl⟩ : ∃ w1 : Nat, r1 = (w1 : Int) := ⟨r1.toNat, by omega⟩
    refine ⟨_, rfl, _, _, _, rfl, rfl, rfl, _, rfl, ite2 (fun e => ?_) (fun e => ?_)⟩
    · have hw : w1 < 3 := by
        have := of_decide_eq_true e
        omega
      obtain ⟨n, hn, n0, n1⟩ := way_tab w1 hw
      refine ⟨_, rfl, by show 3 ≤ sizeLine; decide, fun l hl => ⟨_, rfl, l, _, _, _, rfl, rfl, SqL.of upd_same, atI_nat hn, b, n, rfl, B1.same (Same.new hl), by omega, small64 (by omega), fun r H2 r0 rn B2 k2 => ?_⟩⟩
      have := go r.toNat H2 (by omega) B2 ((k1.new hl).trans k2)
      rwa [Int.toNat_of_nonneg r0] at this
    · refine ⟨_, rfl, _, rfl, b, (m : Int), rfl, B1, by omega, small64 (by omega), fun r H2 r0 rn B2 k2 => ?_⟩
      obtain ⟨k, rfl⟩ : ∃ k : Nat, r = (k : Int) := ⟨r.toNat, by omega⟩
      have hk : k < m := by omega
      refine ⟨48, k, by decide, rfl, by omega, _, _, rfl, rfl, ?_, ?_⟩
      · show 1 + ((List.replicate k 48).toArray).size ≤ sizeLine
        rw [List.size_toArray, List.length_replicate, sizeLine_eq]
        omega
      rw [pw_cat k]
      have hten : 10 ^ k * 10 ≤ 10 ^ m := by
        rw [← Nat.pow_succ]
        exact Nat.pow_le_pow_right (by decide) (by omega)
      have hm3 : 10 ^ (m + 3) = 10 ^ m * 1000 := by rw [Nat.pow_add]
      have hk1 : 1 ≤ 10 ^ k := Nat.pow_pos (by decide)
      have hsm : 10 * 10 ^ k < 2 ^ (4 * 601) := by
        have h1 : 10 ^ m ≤ 10 ^ 600 := Nat.pow_le_pow_right (by decide) h6
        have h2 : (10 : Nat) ^ 600 < 10 ^ 601 := Nat.pow_lt_pow_right (by decide) (by decide)
        exact bits_of (Nat.lt_of_le_of_lt (by omega) h2)
      refine ⟨_, _, rfl, pw_int (k := k) (by omega), by rw [pw_len]; omega, ?_⟩
      refine ⟨_, rfl, _, rfl, rfl, _, rfl, ite2 (fun e => ?_) (fun e => ?_)⟩
      · refine ⟨_, rfl, _, rfl, _, _, ((10 * 10 ^ k : Nat) : Int), rfl, rfl, .inl (.inl ⟨by decide, by decide⟩), by rw [Int.natCast_mul]; rfl, b, _, rfl, B2, by omega, small_of (k := 4 * 601) (by rw [Int.natAbs_natCast]; exact hsm) (by decide), fun r H3 r0 rn B3 k3 => ?_⟩
        have := go r.toNat H3 (by omega) B3 ((k1.trans k2).trans k3)
        rwa [Int.toNat_of_nonneg r0] at this
      · refine ⟨_, rfl, _, rfl, b, 100, rfl, B2, by decide, small64 (by decide), fun r H3 r0 rn B3 k3 => ?_⟩
        refine ⟨_, _, _, rfl, rfl, rfl, _, rfl, b, 2, rfl, B3, by decide, small64 (by decide), fun r' H4 r0' rn' B4 k4 => ?_⟩
        have := go (10 ^ k + r.toNat - r'.toNat) H4 (by omega) B4 (((k1.trans k2).trans k3).trans k4)
        refine ⟨_, _, ((10 ^ k + r.toNat - r'.toNat : Nat) : Int), rfl, rfl, ?_, this⟩
        show ((10 ^ k : Nat) : Int) + r - r' = _
        generalize 10 ^ k = g at hk1 ⊢
        omega
theorem ok_signed {f : Addr} {fd : FuncData} (F : Fun K "_law_signed" "_law_signed" sLSigned f fd) (T : Txt mg) (DLTake : Df K mg "_law_take" sLTake ["_law_bag_here", "_law_many"]) (DLFigures : Df K mg "_law_figures" sLFigures ["_law_bag_here", "_law_most"]) :
    FnOk P w K mg base CX0 3 f fd ["_law_bag_here", "_law_most"] spSigned := by
  have GLTake := ok_take (P := P) (w := w) (base := base) DLTake.F T
  have GLFigures := ok_figures (P := P) (w := w) (base := base) DLFigures.F T DLTake
  refine F.ok scLSigned (fun vs H Q E h => ?_) (fun cdv A outer s H vs Q E hr h => ?_)
  · obtain ⟨b, m, rfl, _⟩ := h
    rfl
  · obtain ⟨b, m, rfl, B, h0, h6, go⟩ := h
    refine ⟨_, (pss_one (ps_ret (pe_op My.op_mulC (pe_ix ix_list (pe_lst (pa_cons pe_int (pa_cons (pe_un un_neg pe_int) pa_nil))) (pe_call GLTake (hr.mono (by decide)) rfl DLTake.mg DLTake.kp DLTake.b .nil pass0 (pa_cons (pv 0) (pa_cons pe_int pa_nil))) (fun _ _ => rfl)) (pe_call GLFigures (hr.mono (by decide)) rfl DLFigures.mg DLFigures.kp DLFigures.b .nil pass0 (pa_cons (pv 0) (pa_cons (pv 1) pa_nil)))))), ?_⟩
    refine ⟨_, rfl, by show 2 ≤ sizeLine; decide, fun l hl => ⟨_, rfl, b, 2, rfl, B.same (Same.new hl), by decide, small64 (by decide), fun r1 H1 r10 r12 B1 k1 => ?_⟩⟩
    obtain ⟨ob, eb⟩ := B.some
    have nl : l ≠ b := (ne_of_none eb hl).symm
    have hl1 := k1 l _ upd_same nl
    obtain ⟨sg, hs, hsg⟩ : ∃ sg : Int, atI ([V.int 1, .int (-1)] : List V) r1 = some (.int sg) ∧ (sg = 1 ∨ sg = -1) := by
      by_cases e : r1 = 0
      · subst e
        exact ⟨1, rfl, .inl rfl⟩
      · have : r1 = 1 := by omega
        subst this
        exact ⟨-1, rfl, .inr rfl⟩
    refine ⟨l, _, r1, _, rfl, rfl, SqL.of hl1, hs, _, rfl, _, rfl, b, m, rfl, B1, h0, h6, fun r H2 hr2 B2 k2 => ?_⟩
    refine ⟨_, _, sg * (r : Int), rfl, rfl, .inl (.inl ?_), rfl, go _ H2 ?_ B2 ((((Keep.refl).new hl).trans k1).trans k2)⟩
    · rcases hsg with rfl | rfl <;> exact ⟨by decide, by decide⟩
    · rcases hsg with rfl | rfl <;> omega
end
end My

/-! Two things alike, in their texts too. -/
namespace My
open PySem L2 PySem.Spec PyProof.Rows
abbrev sLAlike : Stmt := top 9
abbrev scLAlikeN : List Str := ["_law_found", "_law_due_here"]
theorem scLAlike : FnScope ["_law_found", "_law_due_here"] ["_law_found", "_law_due_here"] (defScope sLAlike) :=
  ⟨rfl, rfl, rfl, by decide +kernel, rfl, by decide +kernel, by decide +kernel⟩
section
variable {P : Program} {w : World} {K : PySem.W.Frag} {mg : Str → Option Value} {base : Heap}
theorem ok_alike {f : Addr} {fd : FuncData} (F : Fun K "_law_alike" "_law_alike" sLAlike f fd) (T : Txt mg) :
    FnG P w K mg base 1 f fd ["_law_found", "_law_due_here"] (spAlike K) := by
  refine okG F scLAlike (fun vs H Q E h => ?_) (fun cdv A outer s H vs Q E hr hg h => ?_)
  · obtain ⟨x, y, d, rfl, _⟩ := h
    rfl
  · obtain ⟨x, y, d, rfl, hx, hy, hf, go⟩ := h
    refine ⟨_, (pss_one (ps_ret (pe_and (pe_cmpR (op_eqD hr.units) (pv 0) (pv 1) (nomark _)) (pe_one (pe_cmpR op_eq (pe_callB (My.call_repr hg hr.units) (by rfl) T.repr (by decide +kernel) (pa_cons (pv 0) pa_nil)) (pe_callB (My.call_repr hg hr.units) (by rfl) T.repr (by decide +kernel) (pa_cons (pv 1) pa_nil)) (nomark _)))))), ?_⟩
    have sd := shaped_of hf (by decide)
    refine ⟨_, rfl, _, rfl, d, d, hx, hy, sd, sd, _, rfl, ?_⟩
    rw [SeqAt.eqv_refl d hf.lay]
    refine iteT ⟨_, rfl, _, d, rfl, hx, hf, _, rfl, _, d, rfl, hy, hf, rfl, ?_⟩
    rw [decide_eq_true rfl]
    exact go
end
end My

/-! Seals. -/
namespace My
open PySem L2 PySem.Spec PyProof.Rows
abbrev sSealOf : Stmt := top 4
abbrev scSealOfN : List Str := ["codes", "added", "by_place", "by_square", "at", "code", "place"]
theorem scSealOf : FnScope ["codes", "added", "by_place", "by_square", "at", "code", "place"] ["codes"] (defScope sSealOf) :=
  ⟨rfl, rfl, rfl, by decide +kernel, rfl, by decide +kernel, by decide +kernel⟩
abbrev sMended : Stmt := top 5
abbrev scMendedN : List Str := ["codes", "seal", "found", "lacks", "place", "right"]
theorem scMended : FnScope ["codes", "seal", "found", "lacks", "place", "right"] ["codes", "seal"] (defScope sMended) :=
  ⟨rfl, rfl, rfl, by decide +kernel, rfl, by decide +kernel, by decide +kernel⟩
abbrev sLSeal : Stmt := top 14
abbrev scLSealN : List Str := ["_law_codes", "_law_places", "_law_ones", "_law_twos", "_law_place", "_law_code"]
theorem scLSeal : FnScope ["_law_codes", "_law_places", "_law_ones", "_law_twos", "_law_place", "_law_code"] ["_law_codes"] (defScope sLSeal) :=
  ⟨rfl, rfl, rfl, by decide +kernel, rfl, by decide +kernel, by decide +kernel⟩
abbrev sLTold : Stmt := top 15
abbrev scLToldN : List Str := ["_law_codes", "_law_seal_here", "e"]
theorem scLTold : FnScope ["_law_codes", "_law_seal_here", "e"] ["_law_codes", "_law_seal_here"] (defScope sLTold) :=
  ⟨rfl, rfl, rfl, by decide +kernel, rfl, by decide +kernel, by decide +kernel⟩
abbrev sLDue : Stmt := top 16
abbrev scLDueN : List Str := ["_law_codes", "_law_seal_here", "_law_at", "_law_code", "_law_row"]
theorem scLDue : FnScope ["_law_codes", "_law_seal_here", "_law_at", "_law_code", "_law_row"] ["_law_codes", "_law_seal_here"] (defScope sLDue) :=
  ⟨rfl, rfl, rfl, by decide +kernel, rfl, by decide +kernel, by decide +kernel⟩
abbrev sLMixed : Stmt := top 11
abbrev scLMixedN : List Str := ["_law_bag_here", "_law_things", "_law_found", "_law_thing"]
theorem scLMixed : FnScope ["_law_bag_here", "_law_things", "_law_found", "_law_thing"] ["_law_bag_here", "_law_things"] (defScope sLMixed) :=
  ⟨rfl, rfl, rfl, by decide +kernel, rfl, by decide +kernel, by decide +kernel⟩
def spSeal : Sp := fun vs H Q _ => ∃ (a : Addr) (xs : List Int), vs = [.ref a] ∧ H a = some (.lst (zs xs)) ∧ xs.length ≤ 400 ∧ Bits 600 xs ∧
  ∀ p H', H p = none → H' p = some (.tup (zs (sealOf xs))) → Same H H' → Q (.ref p) H'
/-- codes and a seal -/
def Given (H : Hp) (x y : V) (xs : List Int) (n A B C : Int) : Prop := ∃ a t : Addr, x = .ref a ∧ y = .ref t ∧ H a = some (.lst (zs xs)) ∧ H t = some (.tup (zs [n, A, B, C])) ∧ xs.length ≤ 400 ∧ Bits 500 xs ∧ Bits 530 [n, A, B, C]
def spMended (C0 : Addr) : Sp := fun vs H Q E => ∃ (x y : V) (xs : List Int) (n A B C : Int), vs = [x, y] ∧ Given H x y xs n A B C ∧
  ((∃ ys at_, Mend xs [n, A, B, C] (some (ys, at_)) ∧ ∀ p l H', H p = none → H l = none → H' p = some (.tup [.ref l, .int at_]) → H' l = some (.lst (zs ys)) → Same H H' → Q (.ref p) H') ∨
  (Mend xs [n, A, B, C] none ∧ ∀ H', Same H H' → E (.ref C0) none H'))
def spTold : Sp := fun vs H Q _ => ∃ (x y : V) (xs : List Int) (n A B C : Int), vs = [x, y] ∧ Given H x y xs n A B C ∧
  ((∃ ys at_, Mend xs [n, A, B, C] (some (ys, at_)) ∧ ∀ q p l H', H q = none → H p = none → H l = none → H' q = some (.lst [.str "told", .ref p]) → H' p = some (.tup [.ref l, .int at_]) → H' l = some (.lst (zs ys)) → Same H H' → Q (.ref q) H') ∨
  (Mend xs [n, A, B, C] none ∧ ∀ q H', H q = none → H' q = some (.lst [.str "refused", .bl true]) → Same H H' → Q (.ref q) H'))
def spDue : Sp := fun vs H Q _ => ∃ (x y : V) (xs : List Int) (n A B C : Int), vs = [x, y] ∧ Given H x y xs n A B C ∧
  ((∃ ys at_, Mend xs [n, A, B, C] (some (ys, at_)) ∧ ∀ q p l H', H q = none → H p = none → H' q = some (.lst [.str "told", .ref p]) → H' p = some (.tup [.ref l, .int at_]) → H' l = some (.lst (zs ys)) → Same H H' → Q (.ref q) H') ∨
  (Mend xs [n, A, B, C] none ∧ ∀ q H', H q = none → H' q = some (.lst [.str "refused", .bl true]) → Same H H' → Q (.ref q) H'))
def spMixed : Sp := fun vs H Q _ => ∃ (b a : Addr) (xs : List Int), vs = [.ref b, .ref a] ∧ Bag H b ∧ H a = some (.lst (zs xs)) ∧ a ≠ b ∧ xs.length ≤ 400 ∧
  ∀ (p : Addr) (ys : List Int) (H' : Hp), H p = none → H' p = some (.lst (zs ys)) → ys.Perm xs → Bag H' b → Keep b H H' → Q (.ref p) H'
section
variable {P : Program} {w : World} {K : PySem.W.Frag} {mg : Str → Option Value} {base : Heap}
theorem ok_seal_of {f : Addr} {fd : FuncData} (F : Fun K "seal_of" "seal_of" sSealOf f fd) (T : Txt mg) : FnOk P w K mg base CX0 1 f fd ["codes"] spSeal := by
  refine F.ok scSealOf (fun vs H Q E h => ?_) (fun cdv A outer s H vs Q E hr h => ?_)
  · obtain ⟨a, xs, rfl, _⟩ := h
    rfl
  · obtain ⟨a, xs, rfl, ha, hl, hb, go⟩ := h
    refine ⟨_, (pss_cons (ps_set (i := 1) scSealOf.nd rfl (.inl rfl) pe_int)
    (pss_cons (ps_set (i := 2) scSealOf.nd rfl (.inl rfl) pe_int)
    (pss_cons (ps_set (i := 3) scSealOf.nd rfl (.inl rfl) pe_int)
    (pss_cons (ps_for PassesOwn.never rfl (pi_enum (by rfl) T.enumerate (pa_cons (pv 0) pa_nil)) (pg_tup rfl (pgs_cons (pg_name (i := 4) scSealOf.nd rfl (.inl rfl)) (pgs_cons (pg_name (i := 5) scSealOf.nd rfl (.inl rfl)) pgs_nil)))
      (pss_cons (ps_set (i := 6) scSealOf.nd rfl (.inl rfl) (pe_op My.op_addC (pv 4) pe_int))
      (pss_cons (ps_set (i := 1) scSealOf.nd rfl (.inl rfl) (pe_op My.op_addC (pv 1) (pv 5)))
      (pss_cons (ps_set (i := 2) scSealOf.nd rfl (.inl rfl) (pe_op My.op_addC (pv 2) (pe_op My.op_mulC (pv 5) (pv 6))))
      (pss_one (ps_set (i := 3) scSealOf.nd rfl (.inl rfl) (pe_op My.op_addC (pv 3) (pe_op My.op_mulC (pe_op My.op_mulC (pv 5) (pv 6)) (pv 6)))))))))
    (pss_one (ps_ret (pe_tup (pa_cons (pe_callB call_len (by rfl) T.len PySem.boot_len (pa_cons (pv 0) pa_nil)) (pa_cons (pv 1) (pa_cons (pv 2) (pa_cons (pv 3) pa_nil))))))))))), ?_⟩
    refine ⟨_, rfl, a, _, rfl, SqL.of ha, ?_⟩
    refine for_it walk_enum (fun i σ H' => ∃ v4 v5 v6 : Option V, σ = [some (.ref a), some (.int (ws k1 xs i)), some (.int (ws k2 xs i)), some (.int (ws k3 xs i)), v4, v5, v6] ∧ Same H H')
      ⟨_, _, _, rfl, .refl _⟩ (fun i σ H' _ ⟨_, _, _, _, s1⟩ => SqL.of (s1 _ _ ha)) ?_ ?_
    · rintro i x σ H1 H2 hi ⟨v4, v5, v6, rfl, s1⟩ ⟨T, u, v, rfl, hT, rfl, e1, e2⟩
      cases e1
      obtain ⟨y, hy, rfl⟩ := zs_get e2
      have hil : i < xs.length := (List.getElem?_eq_some_iff.mp hy).1
      have tT := Same.new (o := .tup [.int ((i : Nat) : Int), .int y]) hT
      have ey : xs.getD i 0 = y := getD_at hy
      have hyb : y.natAbs < 2 ^ 600 := hb y (List.mem_of_getElem? hy)
      have hk2 := k2_lt (i := i) (by omega)
      have hm := mul_lt hyb hk2
      have w1 : ws k1 xs i + y = ws k1 xs (i + 1) := by
        show _ = ws k1 xs i + xs.getD i 0 * 1
        rw [ey, Int.mul_one]
      have w2 : ws k2 xs i + y * k2 i = ws k2 xs (i + 1) := by
        show _ = ws k2 xs i + xs.getD i 0 * k2 i
        rw [ey]
      have w3 : ws k3 xs i + y * k2 i * k2 i = ws k3 xs (i + 1) := by
        show _ = ws k3 xs i + xs.getD i 0 * k3 i
        rw [ey, Int.mul_assoc]
        rfl
      refine ⟨T, _, rfl, SqT.of upd_same, rfl, _, _, rfl, _, _, rfl, rfl, ?_⟩
      refine ⟨_, rfl, _, _, k2 i, rfl, rfl, rfl, ?_⟩
      refine ⟨_, rfl, _, rfl, _, _, _, rfl, rfl, w1, ?_⟩
      refine ⟨_, rfl, _, rfl, _, rfl, _, _, y * k2 i, rfl, rfl, mulok_of hyb hk2 (by decide) (by decide) (by decide), rfl, _, _, _, rfl, rfl, w2, ?_⟩
      refine ⟨_, rfl, _, rfl, _, rfl, _, _, y * k2 i, rfl, rfl, mulok_of hyb hk2 (by decide) (by decide) (by decide), rfl, _, rfl, _, _, y * k2 i * k2 i, rfl, rfl, mulok_of hm hk2 (by decide) (by decide) (by decide), rfl, _, _, _, rfl, rfl, w3, ?_⟩
      exact ⟨_, _, _, rfl, s1.trans tT⟩
    · rintro σ H1 ⟨v4, v5, v6, rfl, s1⟩
      rw [zs_len]
      refine ⟨_, rfl, _, _, rfl, .inl ⟨_, SqL.of (s1 _ _ ha), rfl⟩, _, rfl, _, rfl, _, rfl, by show 4 ≤ sizeLine; decide, fun p hp => ?_⟩
      rw [zs_len]
      exact go p _ (same_none s1 hp) upd_same (s1.trans (Same.new hp))
theorem ok_lseal {f : Addr} {fd : FuncData} (F : Fun K "_law_seal" "_law_seal" sLSeal f fd) (T : Txt mg) : FnOk P w K mg base CX0 1 f fd ["_law_codes"] spSeal := by
  refine F.ok scLSeal (fun vs H Q E h => ?_) (fun cdv A outer s H vs Q E hr h => ?_)
  · obtain ⟨a, xs, rfl, _⟩ := h
    rfl
  · obtain ⟨a, xs, rfl, ha, hl, hb, go⟩ := h
    refine ⟨_, (pss_cons (ps_set (i := 1) scLSeal.nd rfl (.inl rfl) (pe_listRg rfl (by rfl) T.list (prg_2 (by rfl) T.range pe_int (pe_op My.op_addC (pe_callB call_len (by rfl) T.len PySem.boot_len (pa_cons (pv 0) pa_nil)) pe_int))))
    (pss_cons (ps_par (i := 2) (j := 3) rfl scLSeal.nd rfl rfl (by decide) rfl rfl (pa_cons (pe_lst pa_nil) (pa_cons (pe_lst pa_nil) pa_nil)) (by rfl))
    (pss_cons (ps_for PassesOwn.never rfl (pi_zip (by rfl) T.zip (pa_cons (pv 1) (pa_cons (pv 0) pa_nil))) (pg_tup rfl (pgs_cons (pg_name (i := 4) scLSeal.nd rfl (.inl rfl)) (pgs_cons (pg_name (i := 5) scLSeal.nd rfl (.inl rfl)) pgs_nil)))
      (pss_cons (ps_expr (pe_bm PySem.F.plainAttrs_list PySem.F.slot_list_append PySem.F.type_list_append mt_append (pv 2) (pa_cons (pe_op My.op_mulC (pv 5) (pv 4)) pa_nil)))
      (pss_one (ps_expr (pe_bm PySem.F.plainAttrs_list PySem.F.slot_list_append PySem.F.type_list_append mt_append (pv 3) (pa_cons (pe_op My.op_mulC (pe_op My.op_mulC (pv 5) (pv 4)) (pv 4)) pa_nil))))))
    (pss_one (ps_ret (pe_tup (pa_cons (pe_callB call_len (by rfl) T.len PySem.boot_len (pa_cons (pv 0) pa_nil)) (pa_cons (pe_callB (cr_sum rfl) (by rfl) T.sum (by decide +kernel) (pa_cons (pv 0) pa_nil)) (pa_cons (pe_callB (cr_sum rfl) (by rfl) T.sum (by decide +kernel) (pa_cons (pv 2) pa_nil)) (pa_cons (pe_callB (cr_sum rfl) (by rfl) T.sum (by decide +kernel) (pa_cons (pv 3) pa_nil)) pa_nil)))))))))), ?_⟩
    refine ⟨_, rfl, _, _, rfl, .inl ⟨_, SqL.of ha, rfl⟩, _, _, ((xs.length + 1 : Nat) : Int), rfl, rfl, by rw [zs_len]; show (xs.length : Int) + 1 = _; omega, 1, _, rfl, rfl, RgOk.of_le (by decide) (by omega) (by decide) (by omega), fun R hR => ?_⟩
    have tR := Same.new (o := .lst (rgV 1 ((xs.length + 1 : Nat) : Int))) hR
    have eR : rgV 1 ((xs.length + 1 : Nat) : Int) = zs ((List.range xs.length).map k2) := by
      unfold rgV zs
      have : (((xs.length + 1 : Nat) : Int) - 1).toNat = xs.length := by omega
      rw [this, List.map_map]
      refine List.map_congr_left fun i _ => ?_
      show V.int (1 + (i : Int)) = V.int ((i : Int) + 1)
      rw [Int.add_comm]
    refine ⟨by show 0 ≤ sizeLine; decide, fun O hO => ?_⟩
    have tO := Same.new (o := .lst []) hO
    refine ⟨by show 0 ≤ sizeLine; decide, fun W hW => ⟨_, _, rfl, ?_⟩⟩
    have tW := Same.new (o := .lst []) hW
    have ha1 := tW _ _ (tO _ _ (tR _ _ ha))
    have hR1 := tW _ _ (tO _ _ (upd_same : upd H R (.lst (rgV 1 ((xs.length + 1 : Nat) : Int))) R = _))
    have hR1 := hR1.trans (congrArg (fun z => some (HO.lst z)) eR)
    have nOW : O ≠ W := ne_of_none upd_same hW
    have fO : H O = none := same_none tR hO
    have fW : H W = none := same_none tR (same_none tO hW)
    have nRO : R ≠ O := ne_of_none upd_same hO
    have nRW : R ≠ W := ne_of_none (tO _ _ upd_same) hW
    have fm : ∀ i k, (((List.range i).map k).map fun z : Int => V.int z) = zs ((List.range i).map k) := fun _ _ => rfl
    refine ⟨_, rfl, _, rfl, R, a, _, _, rfl, SqL.of hR1, SqL.of ha1, ?_⟩
    refine for_it (walk_zip (n := xs.length) (by rw [zs_len, zs_len, List.length_map, List.length_range]; omega)) (fun i σ H' => ∃ v4 v5 : Option V, σ = [some (.ref a), some (.ref R), some (.ref O), some (.ref W), v4, v5] ∧
        H' O = some (.lst (zs ((List.range i).map fun j => xs.getD j 0 * k2 j))) ∧ H' W = some (.lst (zs ((List.range i).map fun j => xs.getD j 0 * k3 j))) ∧ H' R = some (.lst (zs ((List.range xs.length).map k2))) ∧ Same H H')
      ⟨_, _, rfl, tW _ _ upd_same, upd_same, hR1, (tR.trans tO).trans tW⟩ (fun i σ H' _ ⟨_, _, _, _, _, h3, s1⟩ => ⟨SqL.of h3, SqL.of (s1 _ _ ha)⟩) ?_ ?_
    · rintro i x σ H1 H2 hi ⟨v4, v5, rfl, h1, h2, h3, s1⟩ ⟨T, u, v, rfl, hT, rfl, e1, e2⟩
      obtain ⟨y, hy, rfl⟩ := zs_get e2
      obtain ⟨k, hk, rfl⟩ := zs_get e1
      have ek : k = k2 i := by
        rw [List.getElem?_map, List.getElem?_range hi] at hk
        exact (Option.some.inj hk).symm
      subst ek
      have tT := Same.new (o := .tup [.int (k2 i), .int y]) hT
      have ey : xs.getD i 0 = y := getD_at hy
      have hyb : y.natAbs < 2 ^ 600 := hb y (List.mem_of_getElem? hy)
      have hk2 := k2_lt (i := i) (by omega)
      have hm := mul_lt hyb hk2
      refine ⟨T, _, rfl, SqT.of upd_same, rfl, _, _, rfl, _, _, rfl, rfl, ?_⟩
      refine ⟨_, rfl, .inl ⟨rfl, _, SqL.of (tT _ _ h1)⟩, _, rfl, _, rfl, _, _, y * k2 i, rfl, rfl, mulok_of hyb hk2 (by decide) (by decide) (by decide), rfl, O, _, _, rfl, rfl, tT _ _ h1, by rw [zs_len, List.length_map, List.length_range, sizeLine_eq]; omega, ?_⟩
      have hW2 : upd (upd H1 T (.tup [.int (k2 i), .int y])) O (.lst (zs ((List.range i).map fun j => xs.getD j 0 * k2 j) ++ [.int (y * k2 i)])) W = some (.lst (zs ((List.range i).map fun j => xs.getD j 0 * k3 j))) := by
        rw [upd_ne nOW.symm]
        exact tT _ _ h2
      refine ⟨_, rfl, .inl ⟨rfl, _, SqL.of hW2⟩, _, rfl, _, rfl, _, _, y * k2 i, rfl, rfl, mulok_of hyb hk2 (by decide) (by decide) (by decide), rfl, _, rfl, _, _, y * k2 i * k2 i, rfl, rfl, mulok_of hm hk2 (by decide) (by decide) (by decide), rfl, W, _, _, rfl, rfl, hW2, by rw [zs_len, List.length_map, List.length_range, sizeLine_eq]; omega, ?_⟩
      refine ⟨_, _, rfl, ?_, ?_, ?_, Same.mut fW (Same.mut fO (s1.trans tT))⟩
      · rw [upd_ne nOW, upd_same, List.range_succ, List.map_append, zs_app, ← ey]
        rfl
      · rw [upd_same, List.range_succ, List.map_append, zs_app, ← ey, Int.mul_assoc]
        rfl
      · rw [upd_ne nRW, upd_ne nRO]
        exact tT _ _ h3
    · rintro σ H1 ⟨v4, v5, rfl, h1, h2, h3, s1⟩
      refine ⟨_, rfl, _, _, rfl, .inl ⟨_, SqL.of (s1 _ _ ha), rfl⟩, _, rfl, a, xs, rfl, SqL.of (s1 _ _ ha), _, rfl, O, _, rfl, SqL.of h1, _, rfl, W, _, rfl, SqL.of h2, by show 4 ≤ sizeLine; decide, fun p hp => ?_⟩
      rw [zs_len, ws_sum, ws_sum, sum_ws]
      exact go p _ (same_none s1 hp) upd_same (s1.trans (Same.new hp))
theorem ok_mended {f : Addr} {fd : FuncData} (F : Fun K "mended" "mended" sMended f fd) (T : Txt mg) (ETorn : ExW K mg "Torn") (DSealOf : Df K mg "seal_of" sSealOf ["codes"]) : FnOk P w K mg base (L2.CX P w) 2 f fd ["codes", "seal"] (spMended ETorn.C) := by
  have GSealOf := ok_seal_of (P := P) (w := w) (base := base) DSealOf.F T
  refine F.okX scMended (fun vs H Q E h => ?_) (fun cdv A outer s H vs Q E hr h => ?_)
  · obtain ⟨x, y, xs, n, A, B, C, rfl, _⟩ := h
    rfl
  · obtain ⟨x, y, xs, n, A, B, C, rfl, ⟨a, t, rfl, rfl, ha, ht, hl, hb, hsb⟩, hyp⟩ := h
    refine ⟨_, (pss_cons (ps_set (i := 2) scMended.nd rfl (.inl rfl) (pe_call GSealOf (hr.mono (by decide)) rfl DSealOf.mg DSealOf.kp DSealOf.b .nil pass0 (pa_cons (pv 0) pa_nil)))
    (pss_cons (ps_if (pt_cmpR (My.op_eqDC hr.units) (pv 1) (pv 2) (nomark _))
      (pss_one (ps_ret (pe_tup (pa_cons (pe_callTy call_list_of (by rfl) T.list (by decide +kernel) (pa_cons (pv 0) pa_nil)) (pa_cons pe_int pa_nil)))))
      pss_nil)
    (pss_cons (ps_set (i := 3) scMended.nd rfl (.inl rfl) (pe_op My.op_subC (pe_ix ix_tup (pv 1) pe_int (fun _ _ => rfl)) (pe_ix ix_tup (pv 2) pe_int (fun _ _ => rfl))))
    (pss_cons (ps_if (PW.pt (pw_or (pt_cmpR My.op_neC (pe_ix ix_tup (pv 1) pe_int (fun _ _ => rfl)) (pe_ix ix_tup (pv 2) pe_int (fun _ _ => rfl)) (nomark _)) (pw_or1 (pt_cmpR My.op_eqC (pv 3) pe_int (nomark _)))))
      (pss_one (ps_raise rfl (takes_of rfl rfl rfl rfl) (pmk_own PySem.F.excBase_ValueError ETorn.q ETorn.g ETorn.k (raises_own ETorn.c.hs ETorn.t) (by exact rfl))))
      pss_nil)
    (pss_cons (ps_set (i := 4) scMended.nd rfl (.inl rfl) (pe_op My.op_fdivZ (pe_op My.op_subC (pe_ix ix_tup (pv 1) pe_int (fun _ _ => rfl)) (pe_ix ix_tup (pv 2) pe_int (fun _ _ => rfl))) (pv 3)))
    (pss_cons (ps_if (pt_not (pt_chain My.op_leC My.op_leC pe_int (pv 4) (pe_callB call_len (by rfl) T.len PySem.boot_len (pa_cons (pv 0) pa_nil))))
      (pss_one (ps_raise rfl (takes_of rfl rfl rfl rfl) (pmk_own PySem.F.excBase_ValueError ETorn.q ETorn.g ETorn.k (raises_own ETorn.c.hs ETorn.t) (by exact rfl))))
      pss_nil)
    (pss_cons (ps_set (i := 5) scMended.nd rfl (.inl rfl) (pe_callTy call_list_of (by rfl) T.list (by decide +kernel) (pa_cons (pv 0) pa_nil)))
    (pss_cons (ps_asg (pe_op My.op_addC (pe_ix ix_list (pv 5) (pe_op My.op_subC (pv 4) pe_int) (fun _ _ => rfl)) (pv 3)) (pg_sub (pv 5) (pe_op My.op_subC (pv 4) pe_int) set_list))
    (pss_cons (ps_if (pt_cmpR (My.op_neDC hr.units) (pe_call GSealOf (hr.mono (by decide)) rfl DSealOf.mg DSealOf.kp DSealOf.b .nil pass0 (pa_cons (pv 5) pa_nil)) (pv 1) (nomark _))
      (pss_one (ps_raise rfl (takes_of rfl rfl rfl rfl) (pmk_own PySem.F.excBase_ValueError ETorn.q ETorn.g ETorn.k (raises_own ETorn.c.hs ETorn.t) (by exact rfl))))
      pss_nil)
    (pss_one (ps_ret (pe_tup (pa_cons (pv 5) (pa_cons (pv 4) pa_nil)))))))))))))), ?_⟩
    have res : ∀ ys at_, Mend xs [n, A, B, C] (some (ys, at_)) → ∀ p l H', H p = none → H l = none → H' p = some (.tup [.ref l, .int at_]) → H' l = some (.lst (zs ys)) → Same H H' → Q (.ref p) H' := by
      intro ys at_ hm
      rcases hyp with ⟨ys', at', hm', go⟩ | ⟨hm', _⟩
      · cases hm.inj hm'
        exact go
      · cases hm.inj hm'
    have rej : Mend xs [n, A, B, C] none → ∀ H', Same H H' → E (.ref ETorn.C) none H' := by
      intro hm
      rcases hyp with ⟨ys', at', hm', _⟩ | ⟨_, go⟩
      · cases hm.inj hm'
      · exact go
    clear hyp
    have sb := seal_bits hb (by omega)
    have hA : A.natAbs < 2 ^ 530 := hsb A (by simp)
    have ha1 := ws_lt hb (by omega) (fun i _ => k1_lt i) (Nat.le_refl _)
    have shS : ∀ {ys : List Int} {m : Nat}, Bits m ys → m ≤ 1900 → ys.length ≤ 400 → SeqAt.shaped (.tuple (zsD ys)) = true := fun h hm hl => shaped_of (fine_ztup (h.up hm) hl) (by decide)
    have s4 := shS hsb (by decide) (by show 4 ≤ 400; decide)
    have s5 := shS sb (by decide) (by show 4 ≤ 400; decide)
    refine ⟨_, rfl, a, xs, rfl, ha, hl, hb.up (by decide), fun p H1 hp hp1 s1 => ?_⟩
    have ht1 := s1 _ _ ht
    refine ⟨_, rfl, _, rfl, .tuple (zsD [n, A, B, C]), .tuple (zsD (sealOf xs)), _, .tup (SqT.of ht1) (dp_int _), .tup (SqT.of hp1) (dp_int _), s4, s5, eqv_zs _ _, _, rfl, ite2 (fun e => ?_) (fun e => ?_)⟩
    · have h : sealOf xs = [n, A, B, C] := (of_decide_eq_true e).symm
      refine ⟨_, rfl, a, _, rfl, .inl (SqL.of (s1 _ _ ha)), fun l hl2 => ?_⟩
      have tl := Same.new (o := .lst (zs xs)) hl2
      refine ⟨by show 2 ≤ sizeLine; decide, fun p2 hp2 => ?_⟩
      have tp := Same.new (o := .tup [.ref l, .int 0]) hp2
      exact res _ _ (.right h) p2 l _ (same_none s1 (same_none tl hp2)) (same_none s1 hl2) upd_same (tp _ _ upd_same) ((s1.trans tl).trans tp)
    have h : sealOf xs ≠ [n, A, B, C] := fun z => e (decide_eq_true z.symm)
    refine ⟨_, rfl, t, _, 1, _, rfl, rfl, SqT.of ht1, atI_nat (j := 1) rfl, _, rfl, p, _, 1, _, rfl, rfl, SqT.of hp1, atI_nat (j := 1) rfl, _, _, A - ws k1 xs xs.length, rfl, rfl, rfl, ?_⟩
    refine ⟨_, rfl, t, _, 0, _, rfl, rfl, SqT.of ht1, atI_nat (j := 0) rfl, _, rfl, p, _, 0, _, rfl, rfl, SqT.of hp1, atI_nat (j := 0) rfl, _, rfl, rfl, _, rfl, ite2 (fun e1 => ?_) (fun e1 => ?_)⟩
    · refine rej (mend_no h fun i _ hn _ _ => ?_) H1 s1
      exfalso
      rw [hn] at e1
      simp at e1
    refine ⟨_, rfl, _, rfl, rfl, _, rfl, ite2 (fun e2 => ?_) (fun e2 => ?_)⟩
    · exact rej (mend_no h fun i _ _ hz _ => absurd (int_of_dec e2) hz) H1 s1
    have hz : A - ws k1 xs xs.length ≠ 0 := fun z => e2 (by rw [z]; exact decide_eq_true rfl)
    have hzs : (A - ws k1 xs xs.length).natAbs < 2 ^ 531 := sub_lt hA (Nat.lt_of_lt_of_le ha1 (Nat.pow_le_pow_right (by decide) (by decide)))
    obtain ⟨pl, hpl⟩ : ∃ pl, (B - ws k2 xs xs.length).fdiv (A - ws k1 xs xs.length) = pl := ⟨_, rfl⟩
    refine ⟨_, rfl, t, _, 2, _, rfl, rfl, SqT.of ht1, atI_nat (j := 2) rfl, _, rfl, p, _, 2, _, rfl, rfl, SqT.of hp1, atI_nat (j := 2) rfl, _, _, B - ws k2 xs xs.length, rfl, rfl, rfl, _, rfl, _, _, pl, rfl, rfl, hz, Nat.lt_of_lt_of_le hzs (Nat.pow_le_pow_right (by decide) (by decide)), hpl, ?_⟩
    refine ⟨_, rfl, _, _, decide (1 ≤ pl), rfl, rfl, rfl, _, rfl, ite2 (fun e3 => ?_) (fun e3 => ?_)⟩
    · refine ⟨_, rfl, _, _, rfl, .inl ⟨_, SqL.of (s1 _ _ ha), rfl⟩, _, _, decide (pl ≤ (xs.length : Int)), rfl, rfl, by rw [zs_len], _, rfl, ite2 (fun e4 => ?_) (fun e4 => ?_)⟩
      · refine rej (mend_no h fun i hi _ _ hp' => ?_) H1 s1
        exfalso
        rw [hpl] at hp'
        have : pl ≤ (xs.length : Int) := by omega
        rw [decide_eq_true this] at e4
        cases e4
      have p1 : 1 ≤ pl := of_decide_eq_true e3
      have p2 : pl ≤ (xs.length : Int) := by
        by_cases z : pl ≤ (xs.length : Int)
        · exact z
        · exact absurd (by rw [decide_eq_false z]; rfl) e4
      obtain ⟨i, hi, rfl⟩ : ∃ i : Nat, i < xs.length ∧ pl = (i : Int) + 1 := ⟨(pl - 1).toNat, by omega, by omega⟩
      have e5 : (i : Int) + 1 - 1 = (i : Int) := by omega
      have hx : xs[i]? = some xs[i] := List.getElem?_eq_getElem hi
      refine ⟨_, rfl, a, _, rfl, .inl (SqL.of (s1 _ _ ha)), fun l hl2 => ?_⟩
      have tl := Same.new (o := .lst (zs xs)) hl2
      refine ⟨_, rfl, _, rfl, _, _, (i : Int), rfl, rfl, e5, l, _, _, _, rfl, rfl, SqL.of upd_same, atI_nat (zs_at hx), _, rfl, _, _, xs[i] + (A - ws k1 xs xs.length), rfl, rfl, rfl, _, rfl, _, rfl, _, _, (i : Int), rfl, rfl, e5, l, _, _, i, rfl, rfl, upd_same, ixN_nat (by rw [zs_len]; exact hi), ?_⟩
      have ef : (zs xs).set i (.int (xs[i] + (A - ws k1 xs xs.length))) = zs (fixAt xs A i) := by
        unfold fixAt zs
        rw [List.map_set, getD_at hx]
      rw [ef, upd_upd]
      have tl2 := Same.new (o := .lst (zs (fixAt xs A i))) hl2
      have bf : Bits 540 (fixAt xs A i) := by
        refine Bits.set (hb.up (by decide)) ?_
        rw [getD_at hx]
        have l2 : (xs[i]).natAbs < 2 ^ 500 := hb _ (List.getElem_mem hi)
        exact Nat.lt_of_lt_of_le (add_lt (Nat.lt_of_lt_of_le l2 (Nat.pow_le_pow_right (by decide) (by decide : 500 ≤ 531))) hzs) (Nat.pow_le_pow_right (by decide) (by decide))
      have lf : (fixAt xs A i).length = xs.length := List.length_set ..
      have sb2 := seal_bits bf (by omega)
      refine ⟨_, rfl, l, _, rfl, upd_same, by omega, bf.up (by decide), fun p3 H3 hp3 hp33 s3 => ?_⟩
      have ht3 := s3 _ _ (tl2 _ _ ht1)
      refine ⟨_, rfl, .tuple (zsD (sealOf (fixAt xs A i))), .tuple (zsD [n, A, B, C]), _, .tup (SqT.of hp33) (dp_int _), .tup (SqT.of ht3) (dp_int _), shS sb2 (by decide) (by show 4 ≤ 400; decide), s4, eqv_zs _ _, _, rfl, ite2 (fun e6 => ?_) (fun e6 => ?_)⟩
      · refine rej (mend_no h fun j hj _ _ hp' hf => ?_) _ ((s1.trans tl2).trans s3)
        have : j = i := by
          rw [hpl] at hp'
          omega
        subst this
        rw [decide_eq_true hf] at e6
        cases e6
      · have hf : sealOf (fixAt xs A i) = [n, A, B, C] := by
          by_cases z : sealOf (fixAt xs A i) = [n, A, B, C]
          · exact z
          · exact absurd (by rw [decide_eq_false z]; rfl) e6
        refine ⟨_, rfl, _, rfl, by show 2 ≤ sizeLine; decide, fun p4 hp4 => ?_⟩
        have tp := Same.new (o := .tup [.ref l, .int ((i : Int) + 1)]) hp4
        have u := ((s1.trans tl2).trans s3).trans tp
        exact res _ _ (.one h rfl hi hf) p4 l _ (same_none ((s1.trans tl2).trans s3) hp4) (same_none s1 hl2) upd_same (tp _ _ (s3 _ _ upd_same)) u
    · refine ⟨_, rfl, iteT (rej (mend_no h fun i hi _ _ hp' => ?_) H1 s1)⟩
      exfalso
      rw [hpl] at hp'
      exact e3 (decide_eq_true (by omega))
theorem ok_told {f : Addr} {fd : FuncData} (F : Fun K "_law_told" "_law_told" sLTold f fd) (T : Txt mg) (EPollError : ExW K mg "PollError") (ETorn : ExW K mg "Torn") (XTP : PySem.W.subIn K (.ref ETorn.C) (.ref EPollError.C) = some true)
    (DSealOf : Df K mg "seal_of" sSealOf ["codes"]) (DMended : Df K mg "mended" sMended ["codes", "seal"]) : FnOk P w K mg base CX0 3 f fd ["_law_codes", "_law_seal_here"] spTold := by
  have GMended := ok_mended (P := P) (w := w) (base := base) DMended.F T ETorn DSealOf
  refine F.ok scLTold (fun vs H Q E h => ?_) (fun cdv A outer s H vs Q E hr h => ?_)
  · obtain ⟨x, y, xs, n, A, B, C, rfl, _⟩ := h
    rfl
  · obtain ⟨x, y, xs, n, A, B, C, rfl, G, hyp⟩ := h
    refine ⟨_, (pss_one (ps_try_as (i := 2) rfl rfl scLTold.nd rfl rfl ⟨rfl, by decide, .inl EPollError.g⟩ takes0 (fun W pn xe tk _ => (pss_one (ps_ret (pe_lst (pa_cons pe_str (pa_cons (pe_callS GMended (hr.mono (by decide)) rfl DMended.mg DMended.kp DMended.b (fun σ => passAt tk σ) (pa_cons (pv 0) (pa_cons (pv 1) pa_nil))) pa_nil)))))) (fun a oe cls d pn hz hf => (pss_one (ps_ret (pe_lst (pa_cons pe_str (pa_cons (pe_callB (My.call_isS hz hf) (by rfl) T.isinstance (by decide +kernel) (pa_cons (pv 2) (pa_cons (pe_glob (v := .ref ETorn.C) rfl ETorn.g rfl) pa_nil))) pa_nil)))))))), ?_⟩
    refine ⟨_, rfl, _, rfl, _, _, xs, n, A, B, C, rfl, G, ?_⟩
    rcases hyp with ⟨ys, at_, hm, go⟩ | ⟨hm, go⟩
    · refine .inl ⟨ys, at_, hm, fun p l H1 hp hl hp1 hl1 s1 => ?_⟩
      refine ⟨by show 2 ≤ sizeLine; decide, fun q hq => ?_⟩
      have tq := Same.new (o := .lst [.str "told", .ref p]) hq
      exact go q p l _ (same_none s1 hq) hp hl upd_same (tq _ _ hp1) (tq _ _ hl1) (s1.trans tq)
    · refine .inr ⟨hm, fun H1 s1 => ?_⟩
      refine ⟨true, exm_by EPollError.c EPollError.t XTP, fun _ a ha => ?_, fun z => nomatch z⟩
      refine ⟨_, rfl, ETorn.C, _, _, true, rfl, rfl, ETorn.c, rfl, ref_only, kit_self, by show 2 ≤ sizeLine; decide, fun q hq => ?_⟩
      exact go q _ (same_none s1 hq) upd_same (s1.trans (Same.new hq))
theorem ok_due {f : Addr} {fd : FuncData} (F : Fun K "_law_due" "_law_due" sLDue f fd) (T : Txt mg) (DLSeal : Df K mg "_law_seal" sLSeal ["_law_codes"]) : FnOk P w K mg base CX0 2 f fd ["_law_codes", "_law_seal_here"] spDue := by
  have GLSeal := ok_lseal (P := P) (w := w) (base := base) DLSeal.F T
  refine F.ok scLDue (fun vs H Q E h => ?_) (fun cdv A outer s H vs Q E hr h => ?_)
  · obtain ⟨x, y, xs, n, A, B, C, rfl, _⟩ := h
    rfl
  · obtain ⟨x, y, xs, n, A, B, C, rfl, ⟨a, t, rfl, rfl, ha, ht, hl, hb, hsb⟩, hyp⟩ := h
    refine ⟨_, (pss_cons (ps_if (pt_cmpR (My.op_eqDC hr.units) (pe_call GLSeal (hr.mono (by decide)) rfl DLSeal.mg DLSeal.kp DLSeal.b .nil pass0 (pa_cons (pv 0) pa_nil)) (pv 1) (nomark _))
      (pss_one (ps_ret (pe_lst (pa_cons pe_str (pa_cons (pe_tup (pa_cons (pv 0) (pa_cons pe_int pa_nil))) pa_nil)))))
      pss_nil)
    (pss_cons (ps_if (pt_cmpR My.op_neC (pe_callB call_len (by rfl) T.len PySem.boot_len (pa_cons (pv 0) pa_nil)) (pe_ix ix_tup (pv 1) pe_int (fun _ _ => rfl)) (nomark _))
      (pss_one (ps_ret (pe_lst (pa_cons pe_str (pa_cons pe_bl pa_nil)))))
      pss_nil)
    (pss_cons (ps_for PassesOwn.never rfl (pi_range1 (by rfl) T.range (pa_cons (pe_callB call_len (by rfl) T.len PySem.boot_len (pa_cons (pv 0) pa_nil)) pa_nil)) (pg_name (i := 2) scLDue.nd rfl (.inl rfl))
      (pss_cons (ps_set (i := 3) scLDue.nd rfl (.inl rfl) (pe_op My.op_subC (pe_op My.op_addC (pe_ix ix_list (pv 0) (pv 2) (fun _ _ => rfl)) (pe_ix ix_tup (pv 1) pe_int (fun _ _ => rfl))) (pe_callB (cr_sum rfl) (by rfl) T.sum (by decide +kernel) (pa_cons (pv 0) pa_nil))))
      (pss_cons (ps_set (i := 4) scLDue.nd rfl (.inl rfl) (pe_op op_cat (pe_op op_cat (pe_slice sl_list (pv 0) po_none (po_some (pv 2))) (pe_lst (pa_cons (pv 3) pa_nil))) (pe_slice sl_list (pv 0) (po_some (pe_op My.op_addC (pv 2) pe_int)) po_none)))
      (pss_one (ps_if (pt_cmpR (My.op_eqDC hr.units) (pe_call GLSeal (hr.mono (by decide)) rfl DLSeal.mg DLSeal.kp DLSeal.b .nil pass0 (pa_cons (pv 4) pa_nil)) (pv 1) (nomark _))
        (pss_one (ps_ret (pe_lst (pa_cons pe_str (pa_cons (pe_tup (pa_cons (pv 4) (pa_cons (pe_op My.op_addC (pv 2) pe_int) pa_nil))) pa_nil)))))
        pss_nil)))))
    (pss_one (ps_ret (pe_lst (pa_cons pe_str (pa_cons pe_bl pa_nil)))))))), ?_⟩
    have res : ∀ ys at_, Mend xs [n, A, B, C] (some (ys, at_)) → ∀ q p l H', H q = none → H p = none → H' q = some (.lst [.str "told", .ref p]) → H' p = some (.tup [.ref l, .int at_]) → H' l = some (.lst (zs ys)) → Same H H' → Q (.ref q) H' := by
      intro ys at_ hm
      rcases hyp with ⟨ys', at', hm', go⟩ | ⟨hm', _⟩
      · cases hm.inj hm'
        exact go
      · cases hm.inj hm'
    have rej : Mend xs [n, A, B, C] none → ∀ q H', H q = none → H' q = some (.lst [.str "refused", .bl true]) → Same H H' → Q (.ref q) H' := by
      intro hm
      rcases hyp with ⟨ys', at', hm', _⟩ | ⟨_, go⟩
      · cases hm.inj hm'
      · exact go
    clear hyp
    have sb := seal_bits hb (by omega)
    have hA : A.natAbs < 2 ^ 530 := hsb A (by simp)
    have ha1 := ws_lt hb (by omega) (fun i _ => k1_lt i) (Nat.le_refl _)
    have hzs : (A - ws k1 xs xs.length).natAbs < 2 ^ 531 := sub_lt hA (Nat.lt_of_lt_of_le ha1 (Nat.pow_le_pow_right (by decide) (by decide)))
    have shS : ∀ {ys : List Int} {m : Nat}, Bits m ys → m ≤ 1900 → ys.length ≤ 400 → SeqAt.shaped (.tuple (zsD ys)) = true := fun h hm hl => shaped_of (fine_ztup (h.up hm) hl) (by decide)
    have s4 := shS hsb (by decide) (by show 4 ≤ 400; decide)
    have s5 := shS sb (by decide) (by show 4 ≤ 400; decide)
    refine ⟨_, rfl, a, xs, rfl, ha, hl, hb.up (by decide), fun p H1 hp hp1 s1 => ?_⟩
    have ht1 := s1 _ _ ht
    refine ⟨_, rfl, .tuple (zsD (sealOf xs)), .tuple (zsD [n, A, B, C]), _, .tup (SqT.of hp1) (dp_int _), .tup (SqT.of ht1) (dp_int _), s5, s4, eqv_zs _ _, _, rfl, ite2 (fun e => ?_) (fun e => ?_)⟩
    · have h : sealOf xs = [n, A, B, C] := of_decide_eq_true e
      refine ⟨_, rfl, by show 2 ≤ sizeLine; decide, fun p2 hp2 => ⟨by show 2 ≤ sizeLine; decide, fun q hq => ?_⟩⟩
      have tp := Same.new (o := .tup [.ref a, .int 0]) hp2
      have tq := Same.new (o := .lst [.str "told", .ref p2]) hq
      exact res _ _ (.right h) q p2 a _ (same_none s1 (same_none tp hq)) (same_none s1 hp2) upd_same (tq _ _ upd_same) (tq _ _ (tp _ _ (s1 _ _ ha))) ((s1.trans tp).trans tq)
    have h : sealOf xs ≠ [n, A, B, C] := fun z => e (decide_eq_true z)
    have no : ∀ H2, Same H H2 → Mend xs [n, A, B, C] none → ([V.str "refused", .bl true].length ≤ sizeLine ∧ ∀ q, H2 q = none → Q (.ref q) (upd H2 q (.lst [.str "refused", .bl true]))) := fun H2 s2 hm =>
      ⟨by show 2 ≤ sizeLine; decide, fun q hq => rej hm q _ (same_none s2 hq) upd_same (s2.trans (Same.new hq))⟩
    refine ⟨_, rfl, _, _, rfl, .inl ⟨_, SqL.of (s1 _ _ ha), rfl⟩, _, rfl, t, _, 0, _, rfl, rfl, SqT.of ht1, atI_nat (j := 0) rfl, _, rfl, rfl, _, rfl, ite2 (fun e1 => ?_) (fun e1 => ?_)⟩
    · refine no H1 s1 (mend_no h fun i _ hn _ _ => ?_)
      exfalso
      rw [hn, zs_len] at e1
      simp at e1
    refine ⟨_, rfl, _, _, rfl, .inl ⟨_, SqL.of (s1 _ _ ha), rfl⟩, _, rfl, by rw [zs_len]; omega, by rw [zs_len]; omega, for_range (n := (zs xs).length) (fun i σ H' => ∃ v2 v3 v4 : Option V, σ = [some (.ref a), some (.ref t), v2, v3, v4] ∧ Same H H' ∧ ∀ j, j < i → sealOf (fixAt xs A j) ≠ [n, A, B, C])
      ⟨_, _, _, rfl, s1, fun j hj => absurd hj (by omega)⟩ ?_ ?_⟩
    · rintro i σ H2 hi ⟨v2, v3, v4, rfl, s2, hf⟩
      rw [zs_len] at hi
      have hx : xs[i]? = some xs[i] := List.getElem?_eq_getElem hi
      have ha2 := s2 _ _ ha
      have ht2 := s2 _ _ ht
      refine ⟨_, rfl, _, rfl, a, _, _, _, rfl, rfl, SqL.of ha2, by rw [Int.zero_add]; exact atI_nat (zs_at hx), _, rfl, t, _, 1, _, rfl, rfl, SqT.of ht2, atI_nat (j := 1) rfl, _, _, xs[i] + A, rfl, rfl, rfl, _, rfl, a, xs, rfl, SqL.of ha2, _, _, xs[i] + (A - ws k1 xs xs.length), rfl, rfl, by rw [sum_ws]; show xs[i] + A - _ = _; omega, ?_⟩
      refine ⟨_, rfl, _, rfl, _, rfl, a, _, rfl, SqL.of ha2, fun p1 hp1 => ?_⟩
      have t1 := Same.new (o := .lst (cutV (zs xs) none (some (0 + (i : Int))))) hp1
      refine ⟨_, rfl, by show 1 ≤ sizeLine; decide, fun p2 hp2 => ?_⟩
      have t2 := Same.new (o := .lst [.int (xs[i] + (A - ws k1 xs xs.length))]) hp2
      have c1 := cutV_length (zs xs) none (some (0 + (i : Int)))
      rw [zs_len] at c1
      refine ⟨p1, p2, _, _, rfl, rfl, t2 _ _ upd_same, upd_same, by show _ + 1 ≤ sizeLine; rw [sizeLine_eq]; omega, fun p3 hp3 => ?_⟩
      have t3 := Same.new (o := .lst (cutV (zs xs) none (some (0 + (i : Int))) ++ [.int (xs[i] + (A - ws k1 xs xs.length))])) hp3
      have ha3 := t3 _ _ (t2 _ _ (t1 _ _ ha2))
      refine ⟨_, rfl, _, rfl, _, _, ((i + 1 : Nat) : Int), rfl, rfl, by show 0 + (i : Int) + 1 = _; omega, _, rfl, a, _, rfl, SqL.of ha3, fun p4 hp4 => ?_⟩
      have t4 := Same.new (o := .lst (cutV (zs xs) (some ((i + 1 : Nat) : Int)) none)) hp4
      have c2 := cutV_length (zs xs) (some ((i + 1 : Nat) : Int)) none
      rw [zs_len] at c2
      refine ⟨p3, p4, _, _, rfl, rfl, t4 _ _ upd_same, upd_same, by rw [List.length_append, sizeLine_eq]; show _ + 1 + _ ≤ 16777216; omega, fun l hl2 => ?_⟩
      have ef : xs.set i (xs[i] + (A - ws k1 xs xs.length)) = fixAt xs A i := by
        unfold fixAt
        rw [getD_at hx]
      have el : cutV (zs xs) none (some (0 + (i : Int))) ++ [V.int (xs[i] + (A - ws k1 xs xs.length))] ++ cutV (zs xs) (some ((i + 1 : Nat) : Int)) none = zs (fixAt xs A i) := by
        rw [Int.zero_add, cut_set hi, ef]
      rw [el]
      have u4 := ((t1.trans t2).trans t3).trans t4
      have tl := Same.new (o := .lst (zs (fixAt xs A i))) hl2
      have lf : (fixAt xs A i).length = xs.length := List.length_set ..
      have bf : Bits 540 (fixAt xs A i) := by
        refine Bits.set (hb.up (by decide)) ?_
        rw [getD_at hx]
        have l2 : (xs[i]).natAbs < 2 ^ 500 := hb _ (List.getElem_mem hi)
        exact Nat.lt_of_lt_of_le (add_lt (Nat.lt_of_lt_of_le l2 (Nat.pow_le_pow_right (by decide) (by decide : 500 ≤ 531))) hzs) (Nat.pow_le_pow_right (by decide) (by decide))
      have sb2 := seal_bits bf (by omega)
      have u5 := (s2.trans u4).trans tl
      refine ⟨_, rfl, l, fixAt xs A i, rfl, upd_same, by omega, bf.up (by decide), fun p5 H5 hp5 hp55 s5 => ?_⟩
      have u6 := u5.trans s5
      refine ⟨_, rfl, .tuple (zsD (sealOf (fixAt xs A i))), .tuple (zsD [n, A, B, C]), _, .tup (SqT.of hp55) (dp_int _), .tup (SqT.of (u6 _ _ ht)) (dp_int _), shS sb2 (by decide) (by show 4 ≤ 400; decide), s4, eqv_zs _ _, _, rfl, ite2 (fun e6 => ?_) (fun e6 => ?_)⟩
      · have hf2 : sealOf (fixAt xs A i) = [n, A, B, C] := of_decide_eq_true e6
        refine ⟨_, rfl, _, rfl, _, _, (i : Int) + 1, rfl, rfl, by show 0 + (i : Int) + 1 = _; omega, by show 2 ≤ sizeLine; decide, fun p6 hp6 => ⟨by show 2 ≤ sizeLine; decide, fun q hq => ?_⟩⟩
        have t6 := Same.new (o := .tup [.ref l, .int ((i : Int) + 1)]) hp6
        have t7 := Same.new (o := .lst [.str "told", .ref p6]) hq
        exact res _ _ (.one h rfl hi hf2) q p6 l _ (same_none u6 (same_none t6 hq)) (same_none u6 hp6) upd_same (t7 _ _ upd_same) (t7 _ _ (t6 _ _ (s5 _ _ upd_same))) ((u6.trans t6).trans t7)
      · refine ⟨_, _, _, rfl, u6, fun j hj => ?_⟩
        by_cases hji : j = i
        · subst hji
          exact fun z => e6 (decide_eq_true z)
        · exact hf j (by omega)
    · rintro σ H2 ⟨v2, v3, v4, rfl, s2, hf⟩
      rw [zs_len] at hf
      exact no H2 s2 (mend_no h fun i hi _ _ _ => hf i hi)
theorem ok_mixed {f : Addr} {fd : FuncData} (F : Fun K "_law_mixed" "_law_mixed" sLMixed f fd) (T : Txt mg) (DLTake : Df K mg "_law_take" sLTake ["_law_bag_here", "_law_many"]) : FnOk P w K mg base CX0 2 f fd ["_law_bag_here", "_law_things"] spMixed := by
  have GLTake := ok_take (P := P) (w := w) (base := base) DLTake.F T
  refine F.ok scLMixed (fun vs H Q E h => ?_) (fun cdv A outer s H vs Q E hr h => ?_)
  · obtain ⟨b, a, xs, rfl, _⟩ := h
    rfl
  · obtain ⟨b, a, xs, rfl, B, ha, nab, hl, go⟩ := h
    refine ⟨_, (pss_cons (ps_set (i := 2) scLMixed.nd rfl (.inl rfl) (pe_lst pa_nil))
    (pss_cons (ps_for PassesOwn.never rfl (pi_list (pv 1)) (pg_name (i := 3) scLMixed.nd rfl (.inl rfl))
      (pss_one (ps_expr (pe_bm PySem.F.plainAttrs_list PySem.F.slot_list_insert PySem.F.type_list_insert mt_insert (pv 2) (pa_cons (pe_call GLTake (hr.mono (by decide)) rfl DLTake.mg DLTake.kp DLTake.b .nil pass0 (pa_cons (pv 0) (pa_cons (pe_op My.op_addC (pe_callB call_len (by rfl) T.len PySem.boot_len (pa_cons (pv 2) pa_nil)) pe_int) pa_nil))) (pa_cons (pv 3) pa_nil))))))
    (pss_one (ps_ret (pv 2))))), ?_⟩
    refine ⟨by show 0 ≤ sizeLine; decide, fun R hR => ?_⟩
    have nRb := B.ne hR
    have tR := Same.new (o := .lst []) hR
    have nRa : R ≠ a := (ne_of_none ha hR).symm
    refine ⟨_, rfl, a, rfl, ⟨_, SqL.of (tR _ _ ha)⟩, for_list (K := K) (a := a) (xs := zs xs) (fun i σ H' => ∃ (v3 : Option V) (ys : List Int), σ = [some (.ref b), some (.ref a), some (.ref R), v3] ∧ H' R = some (.lst (zs ys)) ∧ ys.Perm (xs.take i) ∧ Bag H' b ∧ Keep b H H' ∧ H' a = some (.lst (zs xs)))
      ⟨_, [], rfl, upd_same, .refl _, B.same tR, (Keep.refl).new hR, tR _ _ ha⟩ (fun i σ H' _ ⟨_, _, _, _, _, _, _, e⟩ => SqL.of e) ?_ ?_⟩
    · rintro i x σ H1 hi ⟨v3, ys, rfl, h1, h2, B1, k1, a1⟩
      obtain ⟨z, hz, rfl⟩ := zs_get hi
      have hlen : ys.length = (xs.take i).length := h2.length_eq
      have hli : (xs.take i).length ≤ 400 := by
        rw [List.length_take]
        omega
      refine ⟨_, rfl, .inl ⟨rfl, _, SqL.of h1⟩, _, rfl, _, rfl, _, _, rfl, .inl ⟨_, SqL.of h1, rfl⟩, _, _, ((ys.length + 1 : Nat) : Int), rfl, rfl, by rw [zs_len]; show (ys.length : Int) + 1 = _; omega, b, _, rfl, B1, by omega, small64 (by omega), fun r H2 r0 rn B2 k2 => ?_⟩
      have h3 := k2 R _ h1 nRb
      have a2 := k2 a _ a1 nab
      refine ⟨_, rfl, R, _, r, _, rfl, rfl, h3, by rw [zs_len, sizeLine_eq]; omega, r0, by omega, ?_⟩
      refine ⟨_, ys.take r.toNat ++ [z] ++ ys.drop r.toNat, rfl, ?_, ?_, Bag.mutK B hR (k1.trans k2) B2, Keep.mut hR nRb (k1.trans k2), by rw [upd_ne nRa.symm]; exact a2⟩
      · rw [upd_same]
        unfold zs
        rw [List.map_append, List.map_append, List.map_take, List.map_drop]
        rfl
      · have et : xs.take (i + 1) = xs.take i ++ [z] := by
          rw [List.take_add_one, hz]
          rfl
        rw [et]
        have p1 : (ys.take r.toNat ++ [z] ++ ys.drop r.toNat).Perm (z :: ys) := by
          have e1 : ys.take r.toNat ++ ys.drop r.toNat = ys := List.take_append_drop _ _
          have p0 : (ys.take r.toNat ++ [z] ++ ys.drop r.toNat).Perm (z :: (ys.take r.toNat ++ ys.drop r.toNat)) := by
            rw [List.append_assoc]
            exact List.perm_middle
          rw [e1] at p0
          exact p0
        exact p1.trans ((List.Perm.cons z h2).trans (List.perm_append_singleton z _).symm)
    · rintro σ H1 ⟨v3, ys, rfl, h1, h2, B1, k1, a1⟩
      rw [zs_len, List.take_of_length_le (Nat.le_refl _)] at h2
      exact ⟨_, rfl, go R ys H1 hR h1 h2 B1 k1⟩
end
end My

/-! Bent rows. -/
namespace My
open PySem L2 PySem.Spec PyProof.Rows
abbrev sLBent : Stmt := top 17
abbrev scLBentN : List Str := ["_law_bag_here", "_law_codes", "_law_found", "_law_way", "_law_k"]
theorem scLBent : FnScope ["_law_bag_here", "_law_codes", "_law_found", "_law_way", "_law_k"] ["_law_bag_here", "_law_codes"] (defScope sLBent) :=
  ⟨rfl, rfl, rfl, by decide +kernel, rfl, by decide +kernel, by decide +kernel⟩
def spBent : Sp := fun vs H Q _ => ∃ (b a : Addr) (xs : List Int) (m : Nat), vs = [.ref b, .ref a] ∧ Bag H b ∧ H a = some (.lst (zs xs)) ∧ a ≠ b ∧ xs.length ≤ 300 ∧ 140 ≤ m ∧ m ≤ 1800 ∧ Bits m xs ∧
  ∀ (p : Addr) (ys : List Int) (H' : Hp), H p = none → H' p = some (.lst (zs ys)) → ys.length ≤ xs.length + 1 → Bits (m + 3) ys → Bag H' b → Keep b H H' → Q (.ref p) H'
def bent (w : Nat) : Nat := [0, 1, 2, 1, 0].getD w 0
theorem bent_tab : ∀ w : Nat, w < 5 → ([V.int 0, .int 1, .int 2, .int 1, .int 0] : List V)[w]? = some (.int ((bent w : Nat) : Int)) ∧ bent w ≤ 2 := by decide
section
variable {P : Program} {w : World} {K : PySem.W.Frag} {mg : Str → Option Value} {base : Heap}
theorem ok_bent {f : Addr} {fd : FuncData} (F : Fun K "_law_bent" "_law_bent" sLBent f fd) (T : Txt mg) (DLTake : Df K mg "_law_take" sLTake ["_law_bag_here", "_law_many"]) (DLOne : Df K mg "_law_one" sLOne ["_law_bag_here", "_law_some"])
    (DLMixed : Df K mg "_law_mixed" sLMixed ["_law_bag_here", "_law_things"]) (DLFigures : Df K mg "_law_figures" sLFigures ["_law_bag_here", "_law_most"]) (DLSigned : Df K mg "_law_signed" sLSigned ["_law_bag_here", "_law_most"]) :
    FnOk P w K mg base CX0 4 f fd ["_law_bag_here", "_law_codes"] spBent := by
  have GLTake := ok_take (P := P) (w := w) (base := base) DLTake.F T
  have GLOne := ok_one (P := P) (w := w) (base := base) DLOne.F T DLTake
  have GLMixed := ok_mixed (P := P) (w := w) (base := base) DLMixed.F T DLTake
  have GLSigned := ok_signed (P := P) (w := w) (base := base) DLSigned.F T DLTake DLFigures
  refine F.ok scLBent (fun vs H Q E h => ?_) (fun cdv A outer s H vs Q E hr h => ?_)
  · obtain ⟨b, a, xs, m, rfl, _⟩ := h
    rfl
  · obtain ⟨b, a, xs, m, rfl, B, ha, nab, hl, hm, hm2, hb, go⟩ := h
    refine ⟨_, (pss_cons (ps_par (i := 2) (j := 3) rfl scLBent.nd rfl rfl (by decide) rfl rfl (pa_cons (pe_callTy call_list_of (by rfl) T.list (by decide +kernel) (pa_cons (pv 1) pa_nil)) (pa_cons (pe_call GLTake (hr.mono (by decide)) rfl DLTake.mg DLTake.kp DLTake.b .nil pass0 (pa_cons (pv 0) (pa_cons pe_int pa_nil))) pa_nil)) (by rfl))
    (pss_cons (ps_for PassesOwn.never rfl (pi_range1 (by rfl) T.range (pa_cons (pe_op My.op_mulC (pe_ix ix_list (pe_lst (pa_cons pe_int (pa_cons pe_int (pa_cons pe_int (pa_cons pe_int (pa_cons pe_int pa_nil)))))) (pv 3) (fun _ _ => rfl)) (pe_callTy call_int1 (by rfl) T.int (by decide +kernel) (pa_cons (pe_cmpR (My.op_neDC hr.units) (pv 1) (pe_lst pa_nil) (nomark _)) pa_nil))) pa_nil)) (pg_name (i := 4) scLBent.nd rfl (.inl rfl))
      (pss_one (ps_augS (pv 2) (pe_call GLTake (hr.mono (by decide)) rfl DLTake.mg DLTake.kp DLTake.b .nil pass0 (pa_cons (pv 0) (pa_cons (pe_callB call_len (by rfl) T.len PySem.boot_len (pa_cons (pv 2) pa_nil)) pa_nil))) My.get_list (pe_call GLOne (hr.mono (by decide)) rfl DLOne.mg DLOne.kp DLOne.b .nil pass0 (pa_cons (pv 0) (pa_cons (pe_lst (pa_cons pe_int (pa_cons (pe_un un_neg pe_int) (pa_cons pe_int (pa_cons (pe_call GLSigned (hr.mono (by decide)) rfl DLSigned.mg DLSigned.kp DLSigned.b .nil pass0 (pa_cons (pv 0) (pa_cons pe_int pa_nil))) pa_nil))))) pa_nil))) ip_add set_list)))
    (C8.pss_cut (ps_if (PW.pt (pw_and (pt_cmpR My.op_eqC (pv 3) pe_int (nomark _)) (pw_and1 (pt_cmpR My.op_eqC (pe_call GLTake (hr.mono (by decide)) rfl DLTake.mg DLTake.kp DLTake.b .nil pass0 (pa_cons (pv 0) (pa_cons pe_int pa_nil))) pe_int (nomark _)))))
      (pss_one (ps_ret (pe_ifExp (pt_cmpR My.op_eqC (pe_call GLTake (hr.mono (by decide)) rfl DLTake.mg DLTake.kp DLTake.b .nil pass0 (pa_cons (pv 0) (pa_cons pe_int pa_nil))) pe_int (nomark _)) (pe_op op_cat (pv 2) (pe_lst (pa_cons (pe_call GLSigned (hr.mono (by decide)) rfl DLSigned.mg DLSigned.kp DLSigned.b .nil pass0 (pa_cons (pv 0) (pa_cons pe_int pa_nil))) pa_nil))) (pe_slice sl_list (pv 2) (po_some pe_int) po_none))))
      pss_nil)
    (pss_cons (ps_if (pt_cmpR My.op_eqC (pv 3) pe_int (nomark _))
      (pss_one (ps_ret (pe_call GLMixed (hr.mono (by decide)) rfl DLMixed.mg DLMixed.kp DLMixed.b .nil pass0 (pa_cons (pv 0) (pa_cons (pv 1) pa_nil)))))
      pss_nil)
    (pss_one (ps_ret (pv 2))))))), ?_⟩
    refine ⟨_, rfl, a, _, rfl, .inl (SqL.of ha), fun R hR => ?_⟩
    have tR := Same.new (o := .lst (zs xs)) hR
    have nRb := B.ne hR
    have nRa : R ≠ a := (ne_of_none ha hR).symm
    refine ⟨_, rfl, b, 5, rfl, B.same tR, by decide, small64 (by decide), fun r H1 r0 r5 B1 k1 => ⟨_, _, rfl, ?_⟩⟩
    obtain ⟨wy, rfl⟩ : ∃ wy : Nat, r = (wy : Int) := ⟨r.toNat, by omega⟩
    obtain ⟨tb, tb2⟩ := bent_tab wy (by omega)
    have k01 := ((Keep.refl (b := b)).new hR).trans k1
    have hR1 := k1 R _ upd_same nRb
    have ha1 := k1 a _ (tR _ _ ha) nab
    refine ⟨by show 5 ≤ sizeLine; decide, fun l hl1 => ?_⟩
    have tl := Same.new (o := .lst [.int 0, .int 1, .int 2, .int 1, .int 0]) hl1
    refine ⟨_, rfl, l, _, _, _, rfl, rfl, SqL.of upd_same, atI_nat tb, _, rfl, by show 0 ≤ sizeLine; decide, fun l0 hl0 => ?_⟩
    have tl0 := Same.new (o := .lst []) hl0
    have u2 := tl.trans tl0
    have shx : SeqAt.shaped (.list (zsD xs)) = true := shaped_of (fine_zs (hb.up (by omega)) (by omega)) (by decide)
    refine ⟨.list (zsD xs), .list [], decide (xs = []), .lst (SqL.of (u2 _ _ ha1)) (dp_int _), .lst (SqL.of upd_same) .nil, shx, by decide, eqv_zs xs [], .inr ⟨_, rfl, ?_⟩⟩
    have ecnt : ((bent wy : Nat) : Int) * (if (!decide (xs = [])) = true then 1 else 0) = ((bent wy * (if xs = [] then 0 else 1) : Nat) : Int) := by
      by_cases h : xs = []
      · rw [if_pos h, decide_eq_true h]
        simp
      · rw [if_neg h, decide_eq_false h]
        simp
    have cle : bent wy * (if xs = [] then 0 else 1) ≤ 2 := by
      split
      · omega
      · omega
    have cpos : 0 < bent wy * (if xs = [] then 0 else 1) → 0 < xs.length := by
      intro h
      by_cases h1 : xs = []
      · rw [if_pos h1, Nat.mul_zero] at h
        omega
      · exact List.length_pos_iff.mpr h1
    generalize bent wy * (if xs = [] then 0 else 1) = cnt at ecnt cle cpos
    refine ⟨_, _, (cnt : Int), rfl, rfl, .inl (.inr ⟨by split <;> decide, by split <;> decide⟩), ecnt, ?_⟩
    have k03 := k01.trans (.of u2)
    refine ⟨_, rfl, by omega, by omega, for_range (n := cnt) (fun i σ H' => ∃ (v4 : Option V) (ys : List Int), σ = [some (.ref b), some (.ref a), some (.ref R), some (.int (wy : Int)), v4] ∧ H' R = some (.lst (zs ys)) ∧ ys.length = xs.length ∧ Bits (m + i) ys ∧ Bag H' b ∧ Keep b H H' ∧ H' a = some (.lst (zs xs)))
      ⟨_, xs, rfl, u2 _ _ hR1, rfl, hb, B1.same u2, k03, u2 _ _ ha1⟩ ?_ ?_⟩
    · rintro i σ H2 hi ⟨v4, ys, rfl, h1, h2, h3, B2, k2, a2⟩
      have hpos := cpos (by omega)
      refine ⟨_, rfl, _, rfl, _, rfl, _, _, rfl, .inl ⟨_, SqL.of h1, rfl⟩, b, _, rfl, B2, by rw [zs_len]; omega, small64 (by rw [zs_len]; omega), fun r H3 r0 rn B3 k3 => ?_⟩
      rw [zs_len] at rn
      obtain ⟨j, rfl⟩ : ∃ j : Nat, r = (j : Int) := ⟨r.toNat, by omega⟩
      have hj : j < ys.length := by omega
      have hy : ys[j]? = some ys[j] := List.getElem?_eq_getElem hj
      have hR3 := k3 R _ h1 nRb
      have ha3 := k3 a _ a2 nab
      refine ⟨R, _, j, _, rfl, rfl, SqL.of hR3, zs_at hy, ?_⟩
      refine ⟨_, rfl, _, rfl, _, rfl, b, 30, rfl, B3, by decide, by decide, fun z H4 hz B4 k4 => ?_⟩
      refine ⟨by show 4 ≤ sizeLine; decide, fun l4 hl4 => ?_⟩
      have t4 := Same.new (o := .lst [.int 1, .int (-1), .int 7, .int z]) hl4
      refine ⟨b, l4, _, rfl, B4.same t4, upd_same, B4.ne hl4, by show 0 < 4; decide, by show 4 ≤ 100000; decide, fun v H5 hv B5 k5 => ?_⟩
      obtain ⟨u, rfl, hu⟩ : ∃ u : Int, v = .int u ∧ u.natAbs < 2 ^ 132 := by
        rcases List.mem_cons.mp hv with rfl | hv
        · exact ⟨1, rfl, by decide⟩
        rcases List.mem_cons.mp hv with rfl | hv
        · exact ⟨-1, rfl, by decide⟩
        rcases List.mem_cons.mp hv with rfl | hv
        · exact ⟨7, rfl, by decide⟩
        · rw [List.mem_singleton.mp hv]
          exact ⟨z, rfl, bits_of hz⟩
      have kk := (k4.trans (.of t4)).trans k5
      have hR5 := kk R _ hR3 nRb
      have ha5 := kk a _ ha3 nab
      refine ⟨_, _, rfl, rfl, R, _, _, j, rfl, rfl, hR5, ixN_nat (by rw [zs_len]; exact hj), ?_⟩
      rw [zs_set]
      have kall := (k2.trans k3).trans kk
      refine ⟨_, ys.set j (ys[j] + u), rfl, upd_same, by rw [List.length_set]; exact h2, ?_, Bag.mutK B hR kall B5, Keep.mut hR nRb kall, by rw [upd_ne nRa.symm]; exact ha5⟩
      refine Bits.set (h3.up (by omega)) ?_
      have l1 := h3 _ (List.getElem_mem hj)
      have hu2 : u.natAbs < 2 ^ (m + i) := Nat.lt_of_lt_of_le hu (Nat.pow_le_pow_right (by decide) (by omega))
      exact add_lt l1 hu2
    rintro σ H2 ⟨v4, ys, rfl, h1, h2, h3, B2, k2, a2⟩
    have h3 := h3.up (m := m + 2) (by omega)
    refine ⟨fun σ' H' => σ' = [some (.ref b), some (.ref a), some (.ref R), some (.int (wy : Int)), v4] ∧ H' R = some (.lst (zs ys)) ∧ Bag H' b ∧ Keep b H H' ∧ H' a = some (.lst (zs xs)), ?_, ?_⟩
    · refine ⟨_, rfl, _, rfl, rfl, _, rfl, ite2 (fun e => ?_) (fun e => ⟨rfl, h1, B2, k2, a2⟩)⟩
      refine ⟨_, rfl, b, 2, rfl, B2, by decide, small64 (by decide), fun r H3 r0 rn B3 k3 => ?_⟩
      have hR3 := k3 R _ h1 nRb
      have ha3 := k3 a _ a2 nab
      refine ⟨_, rfl, rfl, _, rfl, ite2 (fun e2 => ?_) (fun e2 => ⟨rfl, hR3, B3, k2.trans k3, ha3⟩)⟩
      refine ⟨_, rfl, b, 2, rfl, B3, by decide, small64 (by decide), fun r2 H4 r20 r2n B4 k4 => ?_⟩
      have hR4 := k4 R _ hR3 nRb
      have k04 := (k2.trans k3).trans k4
      refine ⟨_, rfl, rfl, _, rfl, ite2 (fun e3 => ?_) (fun e3 => ?_)⟩
      · refine ⟨_, rfl, _, rfl, b, 5, rfl, B4, by decide, by decide, fun z H5 hz B5 k5 => ?_⟩
        have hR5 := k5 R _ hR4 nRb
        refine ⟨by show 1 ≤ sizeLine; decide, fun l5 hl5 => ?_⟩
        have t5 := Same.new (o := .lst [.int z]) hl5
        refine ⟨R, l5, _, _, rfl, rfl, t5 _ _ hR5, upd_same, by rw [zs_len, sizeLine_eq]; show _ + 1 ≤ 16777216; omega, fun p hp => ?_⟩
        have t6 := Same.new (o := .lst (zs ys ++ [.int z])) hp
        have kf := ((k04.trans k5).trans (.of t5))
        have nbp : p ≠ b := (B5.same t5).ne hp
        refine go p (ys ++ [z]) _ (keep_none kf hp nbp) ?_ (by rw [List.length_append]; show _ + 1 ≤ _; omega) ?_ ((B5.same t5).same t6) (kf.trans (.of t6))
        · rw [upd_same, zs_app]
          rfl
        · exact (h3.up (by omega)).app (.one (Nat.lt_of_lt_of_le (bits_of hz) (Nat.pow_le_pow_right (by decide) (by omega))))
      · refine ⟨_, rfl, _, rfl, R, _, rfl, SqL.of hR4, fun p hp => ?_⟩
        have t6 := Same.new (o := .lst (cutV (zs ys) (some 1) none)) hp
        have nbp : p ≠ b := B4.ne hp
        refine go p (ys.drop 1) _ (keep_none k04 hp nbp) ?_ (by rw [List.length_drop]; omega) (fun x hx => (h3.up (by omega)) x (List.mem_of_mem_drop hx)) (B4.same t6) (k04.trans (.of t6))
        rw [upd_same]
        exact congrArg (fun z => some (HO.lst z)) (cut_rest ys 1)
    · rintro σ' H3 ⟨rfl, hR3, B3, k3, ha3⟩
      refine ⟨_, rfl, _, rfl, rfl, _, rfl, ite2 (fun e => ?_) (fun e => ?_)⟩
      · refine ⟨_, rfl, _, rfl, b, a, xs, rfl, B3, ha3, nab, by omega, fun p zs' H4 hp hp4 pm B4 k4 => ?_⟩
        have nbp : p ≠ b := B3.ne hp
        exact go p zs' H4 (keep_none k3 hp nbp) hp4 (by rw [pm.length_eq]; omega) (fun x hx => (hb.up (by omega)) x (pm.mem_iff.mp hx)) B4 (k3.trans k4)
      · exact ⟨_, rfl, go R ys H3 hR hR3 (by omega) (h3.up (by omega)) B3 k3⟩
end
end My

/-! A long row. -/
namespace My
open PySem L2 PySem.Spec PyProof.Rows
abbrev sLLongRight : Stmt := top 18
abbrev scLLongRightN : List Str := ["_law_bag_here", "_law_codes", "_law_k", "_law_seal_here", "_law_row", "_law_at", "_law_found"]
theorem scLLongRight : FnScope ["_law_bag_here", "_law_codes", "_law_k", "_law_seal_here", "_law_row", "_law_at", "_law_found"] ["_law_bag_here"] (defScope sLLongRight) :=
  ⟨rfl, rfl, rfl, by decide +kernel, rfl, by decide +kernel, by decide +kernel⟩
def spLong : Sp := fun vs H Q _ => ∃ b : Addr, vs = [.ref b] ∧ Bag H b ∧ ∀ H', Bag H' b → Q (.bl true) H'
/-- a told seal, a mended row -/
theorem fine_tup2 {xs : List Int} {k : Int} (h : Bits 1900 xs) (hl : xs.length ≤ 400) (hk : k.natAbs < 2 ^ 1900) : Fine 2 810000 (.tuple [.list (zsD xs), .int k]) := by
  have fk : Fine 0 1921 (.int k) := Fine.int (by
    by_cases h0 : k.natAbs = 0
    · rw [h0]
      decide
    · exact Nat.lt_of_lt_of_le ((Nat.log2_lt h0).mpr hk) (by decide))
  exact (Fine.tuple (.cons (fine_zs h hl) (.cons (fk.up (Nat.zero_le _) (Nat.le_refl _)) (FineL.nil.up (Nat.zero_le _) (Nat.le_refl 0))))).up (by decide) (by decide)
section
variable {P : Program} {w : World} {K : PySem.W.Frag} {mg : Str → Option Value} {base : Heap}
theorem ok_long {f : Addr} {fd : FuncData} (F : Fun K "_law_long_right" "_law_long_right" sLLongRight f fd) (T : Txt mg) (ETorn : ExW K mg "Torn") (DSealOf : Df K mg "seal_of" sSealOf ["codes"]) (DMended : Df K mg "mended" sMended ["codes", "seal"])
    (DLTake : Df K mg "_law_take" sLTake ["_law_bag_here", "_law_many"]) (DLAlike : Df K mg "_law_alike" sLAlike ["_law_found", "_law_due_here"]) (DLOne : Df K mg "_law_one" sLOne ["_law_bag_here", "_law_some"])
    (DLFigures : Df K mg "_law_figures" sLFigures ["_law_bag_here", "_law_most"]) (DLSigned : Df K mg "_law_signed" sLSigned ["_law_bag_here", "_law_most"]) (DLSeal : Df K mg "_law_seal" sLSeal ["_law_codes"]) :
    FnG P w K mg base 4 f fd ["_law_bag_here"] spLong := by
  have GLTake := ok_take (P := P) (w := w) (base := base) DLTake.F T
  have GLOne := ok_one (P := P) (w := w) (base := base) DLOne.F T DLTake
  have GLAlike := ok_alike (P := P) (w := w) (base := base) DLAlike.F T
  have GLSigned := ok_signed (P := P) (w := w) (base := base) DLSigned.F T DLTake DLFigures
  have GSealOf := ok_seal_of (P := P) (w := w) (base := base) DSealOf.F T
  have GLSeal := ok_lseal (P := P) (w := w) (base := base) DLSeal.F T
  have GMended := ok_mended (P := P) (w := w) (base := base) DMended.F T ETorn DSealOf
  refine okG F scLLongRight (fun vs H Q E h => ?_) (fun cdv A outer s H vs Q E hr hg h => ?_)
  · obtain ⟨b, rfl, _⟩ := h
    rfl
  · obtain ⟨b, rfl, B, go⟩ := h
    refine ⟨_, (pss_cons (ps_setLc (i := 1) rfl scLLongRight.nd rfl rfl (sw_true rfl rfl rfl (by decide +kernel)) (pi_range1 (by rfl) T.range (pa_cons pe_int pa_nil)) (blkOk_by (N := scLLongRightN) (sc := defScope sLLongRight) (own := [("_law_k", 2)]) (by decide +kernel)) (fun _ _ _ _ _ => pg_name (i := 2) scLLongRight.nd rfl (.inl rfl)) (fun _ _ _ _ _ => pts_nil) (fun _ _ _ _ _ => (pe_op My.op_addC (pe_call GLSigned (hr.mono (by decide)) rfl DLSigned.mg DLSigned.kp DLSigned.b .nil pass0 (pa_cons (pv 0) (pa_cons pe_int pa_nil))) (pv 2))))
    (pss_cons (ps_par3 (i := 3) (j := 4) (l := 5) rfl scLLongRight.nd rfl rfl rfl (by decide) (by decide) (by decide) rfl rfl rfl (pa_cons (pe_call GLSeal (hr.mono (by decide)) rfl DLSeal.mg DLSeal.kp DLSeal.b .nil pass0 (pa_cons (pv 1) pa_nil)) (pa_cons (pe_callTy call_list_of (by rfl) T.list (by decide +kernel) (pa_cons (pv 1) pa_nil)) (pa_cons (pe_call GLTake (hr.mono (by decide)) rfl DLTake.mg DLTake.kp DLTake.b .nil pass0 (pa_cons (pv 0) (pa_cons pe_int pa_nil))) pa_nil))) (by rfl))
    (pss_cons (ps_augS (pv 4) (pv 5) My.get_list (pe_call GLOne (hr.mono (by decide)) rfl DLOne.mg DLOne.kp DLOne.b .nil pass0 (pa_cons (pv 0) (pa_cons (pe_lst (pa_cons pe_int (pa_cons (pe_un un_neg pe_int) (pa_cons (pe_op op_pow pe_int pe_int) pa_nil)))) pa_nil))) ip_add set_list)
    (pss_cons (ps_set (i := 6) scLLongRight.nd rfl (.inl rfl) (pe_lst (pa_cons (pe_call GSealOf (hr.mono (by decide)) rfl DSealOf.mg DSealOf.kp DSealOf.b .nil pass0 (pa_cons (pv 1) pa_nil)) (pa_cons (pe_call GMended (hr.mono (by decide)) rfl DMended.mg DMended.kp DMended.b .nil passL (pa_cons (pv 4) (pa_cons (pv 3) pa_nil))) (pa_cons (pe_call GMended (hr.mono (by decide)) rfl DMended.mg DMended.kp DMended.b .nil passL (pa_cons (pv 1) (pa_cons (pv 3) pa_nil))) pa_nil)))))
    (pss_one (ps_ret (My.pe_callG GLAlike (hr.mono (by decide)) hg rfl DLAlike.mg DLAlike.kp DLAlike.b (pa_cons (pv 6) (pa_cons (pe_lst (pa_cons (pv 3) (pa_cons (pe_tup (pa_cons (pv 1) (pa_cons (pe_op My.op_addC (pv 5) pe_int) pa_nil))) (pa_cons (pe_tup (pa_cons (pv 1) (pa_cons pe_int pa_nil))) pa_nil)))) pa_nil))))))))), ?_⟩
    refine ⟨300, rfl, by decide, by decide, fun D hD => ?_⟩
    have nDb := B.ne hD
    refine lc_range (lo := 0) (n := 300) (fun i H' => ∃ xs : List Int, H' D = some (.lst (zs xs)) ∧ xs.length = i ∧ Bits 40 xs ∧ Bag H' b ∧ Keep b H H') ⟨[], upd_same, rfl, fun _ h => absurd h (by simp), B.same (Same.new hD), (Keep.refl).new hD⟩ ?_ ?_
    · rintro j H1 hj ⟨xs, h1, h2, h3, B1, k1⟩
      refine ⟨rfl, _, rfl, b, 5, rfl, B1, by decide, by decide, fun z H2 hz B2 k2 => ?_⟩
      have hD2 := k2 D _ h1 nDb
      have hz2 : z.natAbs < 2 ^ 32 := bits_of hz
      refine ⟨_, rfl, _, _, z + (j : Int), rfl, rfl, by show z + (0 + (j : Int)) = _; omega, _, hD2, by rw [zs_len, sizeLine_eq]; omega, xs ++ [z + (j : Int)], ?_, by rw [List.length_append, h2]; rfl, ?_, Bag.mutK B hD (k1.trans k2) B2, Keep.mut hD nDb (k1.trans k2)⟩
      · rw [upd_same, zs_app]
        rfl
      · refine h3.app (.one ?_)
        have hj2 : j < 300 := hj
        omega
    rintro H1 ⟨xs, h1, h2, h3, B1, k1⟩
    have h2 : xs.length = 300 := h2
    refine ⟨_, rfl, D, xs, rfl, h1, by omega, h3.up (by decide), fun p H2 hp hp2 s2 => ?_⟩
    refine ⟨_, rfl, D, _, rfl, .inl (SqL.of (s2 _ _ h1)), fun R hR => ?_⟩
    have tR := Same.new (o := .lst (zs xs)) hR
    have B2 := (B1.same s2).same tR
    have nRb := (B1.same s2).ne hR
    have nRD : R ≠ D := (ne_of_none (s2 _ _ h1) hR).symm
    have nRp : R ≠ p := (ne_of_none hp2 hR).symm
    refine ⟨_, rfl, b, 300, rfl, B2, by decide, small64 (by decide), fun r H3 r0 rn B3 k3 => ?_⟩
    obtain ⟨i, rfl⟩ : ∃ i : Nat, r = (i : Int) := ⟨r.toNat, by omega⟩
    have hi : i < xs.length := by omega
    have npb : p ≠ b := by
      obtain ⟨_, _, _, _, _, B'⟩ := B2
      exact ne_of (tR _ _ hp2) B'.ob (by intro z; cases z)
    have hD3 := k3 D _ (tR _ _ (s2 _ _ h1)) nDb
    have hR3 := k3 R _ upd_same nRb
    have hp3 := k3 p _ (tR _ _ hp2) npb
    refine ⟨_, _, _, rfl, ?_⟩
    have hx : xs[i]? = some xs[i] := List.getElem?_eq_getElem hi
    refine ⟨_, rfl, _, rfl, R, _, i, _, rfl, rfl, SqL.of hR3, zs_at hx, ?_⟩
    refine ⟨_, rfl, _, rfl, _, _, rfl, rfl, ⟨by decide, by decide, by decide⟩, by show 3 ≤ sizeLine; decide, fun l4 hl4 => ?_⟩
    have t4 := Same.new (o := .lst [.int 1, .int (-7), .int ((10 : Int) ^ (12 : Int).toNat)]) hl4
    refine ⟨b, l4, _, rfl, B3.same t4, upd_same, B3.ne hl4, by show 0 < 3; decide, by show 3 ≤ 100000; decide, fun v H5 hv B5 k5 => ?_⟩
    obtain ⟨u, rfl, hu, hu0⟩ : ∃ u : Int, v = .int u ∧ u.natAbs < 2 ^ 41 ∧ u ≠ 0 := by
      rcases List.mem_cons.mp hv with rfl | hv
      · exact ⟨1, rfl, by decide, by decide⟩
      rcases List.mem_cons.mp hv with rfl | hv
      · exact ⟨-7, rfl, by decide, by decide⟩
      · rw [List.mem_singleton.mp hv]
        exact ⟨_, rfl, by decide, by decide⟩
    have hD5 := k5 D _ (t4 _ _ hD3) nDb
    have hR5 := k5 R _ (t4 _ _ hR3) nRb
    have hp5 := k5 p _ (t4 _ _ hp3) npb
    refine ⟨_, _, rfl, rfl, R, _, _, i, rfl, rfl, hR5, ixN_nat (by rw [zs_len]; exact hi), ?_⟩
    rw [zs_set]
    have hg : xs.getD i 0 = xs[i] := getD_at hx
    have ef := fix_back (u := u) hi
    have eo := fix_other (u := u) hi hu0
    rw [hg] at ef eo
    have lset : (xs.set i (xs[i] + u)).length = xs.length := List.length_set ..
    have bset : Bits 500 (xs.set i (xs[i] + u)) := by
      refine Bits.set (h3.up (by decide)) ?_
      have l1 : (xs[i]).natAbs < 2 ^ 41 := (h3.up (by decide)) _ (List.getElem_mem hi)
      exact Nat.lt_of_lt_of_le (add_lt l1 hu) (Nat.pow_le_pow_right (by decide) (by decide))
    generalize xs.set i (xs[i] + u) = row at ef eo lset bset
    have sb := seal_bits h3 (by omega)
    have D6 : upd H5 R (.lst (zs row)) D = some (.lst (zs xs)) := by rw [upd_ne nRD.symm]; exact hD5
    have p6 : upd H5 R (.lst (zs row)) p = some (.tup (zs (sealOf xs))) := by rw [upd_ne nRp.symm]; exact hp5
    have R6 : upd H5 R (.lst (zs row)) R = some (.lst (zs row)) := upd_same
    have B6 : Bag (upd H5 R (.lst (zs row))) b := Bag.mutK (B1.same s2) hR (((Keep.of tR).trans k3).trans ((Keep.of t4).trans k5)) B5
    generalize upd H5 R (.lst (zs row)) = H6 at D6 p6 R6 B6 ⊢
    refine ⟨_, rfl, D, xs, rfl, D6, by omega, h3.up (by decide), fun q1 H7 hq1 hq17 s7 => ?_⟩
    have g1 : Given H7 (.ref R) (.ref p) row (xs.length : Int) (ws My.k1 xs xs.length) (ws My.k2 xs xs.length) (ws My.k3 xs xs.length) := ⟨R, p, rfl, rfl, s7 _ _ R6, s7 _ _ p6, by omega, bset, sb.up (show 40 + 27 ≤ 530 by decide)⟩
    have m1 : Mend row (sealOf xs) (some (xs, (i : Int) + 1)) := by
      have := Mend.one (A := ws My.k1 xs xs.length) (i := i) eo rfl (by omega) (by rw [ef])
      rw [ef] at this
      exact this
    refine ⟨_, rfl, _, rfl, _, _, row, _, _, _, _, rfl, g1, .inl ⟨xs, (i : Int) + 1, m1, fun q2 l2 H8 hq2 hl2 hq28 hl28 s8 => ?_⟩⟩
    have g2 : Given H8 (.ref D) (.ref p) xs (xs.length : Int) (ws My.k1 xs xs.length) (ws My.k2 xs xs.length) (ws My.k3 xs xs.length) := ⟨D, p, rfl, rfl, s8 _ _ (s7 _ _ D6), s8 _ _ (s7 _ _ p6), by omega, h3.up (by decide), sb.up (show 40 + 27 ≤ 530 by decide)⟩
    refine ⟨_, rfl, _, rfl, _, _, xs, _, _, _, _, rfl, g2, .inl ⟨xs, 0, .right rfl, fun q3 l3 H9 hq3 hl3 hq39 hl39 s9 => ?_⟩⟩
    refine ⟨by show 3 ≤ sizeLine; decide, fun l5 hl5 => ?_⟩
    have t5 := Same.new (o := .lst [.ref q1, .ref q2, .ref q3]) hl5
    refine ⟨_, rfl, _, rfl, _, rfl, _, rfl, _, _, (i : Int) + 1, rfl, rfl, rfl, by show 2 ≤ sizeLine; decide, fun q4 hq4 => ?_⟩
    have t6 := Same.new (o := .tup [.ref D, .int ((i : Int) + 1)]) hq4
    refine ⟨_, rfl, by show 2 ≤ sizeLine; decide, fun q5 hq5 => ?_⟩
    have t7 := Same.new (o := .tup [.ref D, .int 0]) hq5
    refine ⟨by show 3 ≤ sizeLine; decide, fun l6 hl6 => ?_⟩
    have t8 := Same.new (o := .lst [.ref p, .ref q4, .ref q5]) hl6
    have u8 := ((t5.trans t6).trans t7).trans t8
    have D8 := u8 _ _ (s9 _ _ (s8 _ _ (s7 _ _ D6)))
    have p8 := u8 _ _ (s9 _ _ (s8 _ _ (s7 _ _ p6)))
    have bi : ((i : Int) + 1).natAbs < 2 ^ 1900 := Nat.lt_of_lt_of_le (show ((i : Int) + 1).natAbs < 2 ^ 10 by omega) (Nat.pow_le_pow_right (by decide) (by decide))
    have fs := (fine_ztup (sb.up (by decide : 40 + 27 ≤ 1900)) (by show 4 ≤ 400; decide)).up (show 1 ≤ 2 by decide) (show 800001 ≤ 810000 by decide)
    have f1 := fine_tup2 (h3.up (by decide : 40 ≤ 1900)) (by omega) bi
    have f2 := fine_tup2 (k := 0) (h3.up (by decide : 40 ≤ 1900)) (by omega) (Nat.pow_pos (by decide))
    refine ⟨_, _, .list [.tuple (zsD (sealOf xs)), .tuple [.list (zsD xs), .int ((i : Int) + 1)], .tuple [.list (zsD xs), .int 0]], rfl,
      .lst (SqL.of (t8 _ _ (t7 _ _ (t6 _ _ upd_same)))) (.cons (.tup (SqT.of (u8 _ _ (s9 _ _ (s8 _ _ hq17)))) (dp_int _)) (.cons (.tup (SqT.of (u8 _ _ (s9 _ _ hq28))) (.cons (.lst (SqL.of (u8 _ _ (s9 _ _ hl28))) (dp_int _)) (.cons (.int _) .nil))) (.cons (.tup (SqT.of (u8 _ _ hq39)) (.cons (.lst (SqL.of (u8 _ _ hl39)) (dp_int _)) (.cons (.int _) .nil))) .nil))),
      .lst (SqL.of upd_same) (.cons (.tup (SqT.of p8) (dp_int _)) (.cons (.tup (SqT.of (t8 _ _ (t7 _ _ upd_same))) (.cons (.lst (SqL.of D8) (dp_int _)) (.cons (.int _) .nil))) (.cons (.tup (SqT.of (t8 _ _ upd_same)) (.cons (.lst (SqL.of D8) (dp_int _)) (.cons (.int _) .nil))) .nil))),
      (Fine.list (.cons fs (.cons f1 (.cons f2 (FineL.nil.up (Nat.zero_le _) (Nat.le_refl 0)))))).up (by decide) (by decide), ?_⟩
    exact go _ ((((B6.same s7).same s8).same s9).same u8)
end
end My

/-! The law. -/
namespace My
open PySem L2 PySem.Spec PyProof.Rows
abbrev sLaw : Stmt := top 19
abbrev scLawN : List Str := ["_law_script", "_law_bag_here", "_law_turn", "_law_most", "_law_many", "_law_codes", "_law_k", "_law_seal_here", "_law_shown", "_law_row", "_law_other", "_law_at", "_law_due_here", "_law_found"]
theorem scLaw : FnScope ["_law_script", "_law_bag_here", "_law_turn", "_law_most", "_law_many", "_law_codes", "_law_k", "_law_seal_here", "_law_shown", "_law_row", "_law_other", "_law_at", "_law_due_here", "_law_found"] ["_law_script"] (defScope sLaw) :=
  ⟨rfl, rfl, rfl, by decide +kernel, rfl, by decide +kernel, by decide +kernel⟩
def spLaw (K : PySem.W.Frag) : Sp := fun vs H Q _ => ∃ (a : Addr) (ns : List Int), vs = [.ref a] ∧ SqL K H a (ns.map V.int) ∧ ns.length ≤ 63 ∧ ∀ H', Q (.bl true) H'
/-- told a mended row, or that it is refused, as data -/
def toldD : Option (List Int × Int) → PyData
  | some (ys, k) => .list [.str "told", .tuple [.list (zsD ys), .int k]]
  | none => .list [.str "refused", .bool true]
theorem fine_toldD {r : Option (List Int × Int)} (h : ∀ ys k, r = some (ys, k) → Bits 1900 ys ∧ ys.length ≤ 400 ∧ k.natAbs < 2 ^ 1900) : Fine 60 16000000 (toldD r) := by
  match r, h with
  | none, _ => exact fineNow (by decide +kernel)
  | some (ys, k), h =>
    obtain ⟨h1, h2, h3⟩ := h ys k rfl
    exact (Fine.list (.cons ((Fine.str (x := "told") (by decide +kernel)).up (Nat.zero_le 2) (Nat.le_refl _)) (.cons (fine_tup2 h1 h2 h3) (FineL.nil.up (Nat.zero_le _) (Nat.le_refl 0))))).up (by decide) (by decide +kernel)
/-- the list at q tells r -/
def ToldAt (H : Hp) (q : Addr) : Option (List Int × Int) → Prop
  | some (ys, k) => ∃ p l, H q = some (.lst [.str "told", .ref p]) ∧ H p = some (.tup [.ref l, .int k]) ∧ H l = some (.lst (zs ys))
  | none => H q = some (.lst [.str "refused", .bl true])
theorem ToldAt.same {H H' : Hp} {q : Addr} {r : Option (List Int × Int)} (t : ToldAt H q r) (s : Same H H') : ToldAt H' q r := by
  match r, t with
  | none, t => exact s _ _ t
  | some (ys, k), ⟨p, l, h1, h2, h3⟩ => exact ⟨p, l, s _ _ h1, s _ _ h2, s _ _ h3⟩
theorem ToldAt.dp {K : PySem.W.Frag} {H : Hp} {q : Addr} {r : Option (List Int × Int)} (t : ToldAt H q r) : Dp K H (.ref q) (toldD r) := by
  match r, t with
  | none, t => exact .lst (SqL.of t) (.cons (.str _) (.cons (.bl true) .nil))
  | some (ys, k), ⟨p, l, h1, h2, h3⟩ => exact .lst (SqL.of h1) (.cons (.str _) (.cons (.tup (SqT.of h2) (.cons (.lst (SqL.of h3) (dp_int _)) (.cons (.int _) .nil))) .nil))
section
variable {P : Program} {w : World} {K : PySem.W.Frag} {mg : Str → Option Value} {base : Heap}
theorem ok_law {f : Addr} {fd : FuncData} (F : Fun K "law" "law" sLaw f fd) (T : Txt mg) (EPollError : ExW K mg "PollError") (ETorn : ExW K mg "Torn") (XTP : PySem.W.subIn K (.ref ETorn.C) (.ref EPollError.C) = some true)
    (DSealOf : Df K mg "seal_of" sSealOf ["codes"]) (DMended : Df K mg "mended" sMended ["codes", "seal"])
    (DLBag : Df K mg "_law_bag" sLBag ["_law_script"]) (DLTake : Df K mg "_law_take" sLTake ["_law_bag_here", "_law_many"]) (DLAlike : Df K mg "_law_alike" sLAlike ["_law_found", "_law_due_here"]) (DLOne : Df K mg "_law_one" sLOne ["_law_bag_here", "_law_some"])
    (DLMixed : Df K mg "_law_mixed" sLMixed ["_law_bag_here", "_law_things"]) (DLFigures : Df K mg "_law_figures" sLFigures ["_law_bag_here", "_law_most"]) (DLSigned : Df K mg "_law_signed" sLSigned ["_law_bag_here", "_law_most"])
    (DLSeal : Df K mg "_law_seal" sLSeal ["_law_codes"]) (DLTold : Df K mg "_law_told" sLTold ["_law_codes", "_law_seal_here"]) (DLDue : Df K mg "_law_due" sLDue ["_law_codes", "_law_seal_here"]) (DLBent : Df K mg "_law_bent" sLBent ["_law_bag_here", "_law_codes"]) (DLLongRight : Df K mg "_law_long_right" sLLongRight ["_law_bag_here"]) :
    FnG P w K mg base 7 f fd ["_law_script"] (spLaw K) := by
  have GLBag := ok_bag (P := P) (w := w) (base := base) DLBag.F T
  have GLTake := ok_take (P := P) (w := w) (base := base) DLTake.F T
  have GLAlike := ok_alike (P := P) (w := w) (base := base) DLAlike.F T
  have GLOne := ok_one (P := P) (w := w) (base := base) DLOne.F T DLTake
  have GLSigned := ok_signed (P := P) (w := w) (base := base) DLSigned.F T DLTake DLFigures
  have GSealOf := ok_seal_of (P := P) (w := w) (base := base) DSealOf.F T
  have GLSeal := ok_lseal (P := P) (w := w) (base := base) DLSeal.F T
  have GMended := ok_mended (P := P) (w := w) (base := base) DMended.F T ETorn DSealOf
  have GLTold := ok_told (P := P) (w := w) (base := base) DLTold.F T EPollError ETorn XTP DSealOf DMended
  have GLDue := ok_due (P := P) (w := w) (base := base) DLDue.F T DLSeal
  have GLBent := ok_bent (P := P) (w := w) (base := base) DLBent.F T DLTake DLOne DLMixed DLFigures DLSigned
  have GLLongRight := ok_long (P := P) (w := w) (base := base) DLLongRight.F T ETorn DSealOf DMended DLTake DLAlike DLOne DLFigures DLSigned DLSeal
  refine okG F scLaw (fun vs H Q E h => ?_) (fun cdv A outer s H vs Q E hr hg h => ?_)
  · obtain ⟨a, ns, rfl, _⟩ := h
    rfl
  · obtain ⟨a, ns, rfl, hS, hl, go⟩ := h
    refine ⟨_, (pss_cons (ps_set (i := 1) scLaw.nd rfl (.inr rfl) (pe_call GLBag (hr.mono (by decide)) rfl DLBag.mg DLBag.kp DLBag.b .nil pass0 (pa_cons (pv 0) pa_nil)))
    (pss_cons (ps_for PassesOwn.never rfl (pi_range1 (by rfl) T.range (pa_cons pe_int pa_nil)) (pg_name (i := 2) scLaw.nd rfl (.inl rfl))
      (pss_cons (ps_set (i := 3) scLaw.nd rfl (.inr rfl) (pe_call GLOne (hr.mono (by decide)) rfl DLOne.mg DLOne.kp DLOne.b .nil pass0 (pa_cons (pv 1) (pa_cons (pe_lst (pa_cons pe_int (pa_cons pe_int (pa_cons pe_int pa_nil)))) pa_nil))))
      (pss_cons (ps_set (i := 4) scLaw.nd rfl (.inl rfl) (pe_call GLTake (hr.mono (by decide)) rfl DLTake.mg DLTake.kp DLTake.b .nil pass0 (pa_cons (pv 1) (pa_cons (pe_call GLOne (hr.mono (by decide)) rfl DLOne.mg DLOne.kp DLOne.b .nil pass0 (pa_cons (pv 1) (pa_cons (pe_lst (pa_cons pe_int (pa_cons pe_int (pa_cons pe_int (pa_cons (pe_op My.op_subC pe_int (pe_op My.op_mulC pe_int (pe_callTy call_int1 (by rfl) T.int (by decide +kernel) (pa_cons (pe_cmpR My.op_gtC (pv 2) pe_int (nomark _)) pa_nil)))) pa_nil))))) pa_nil))) pa_nil))))
      (pss_cons (ps_setLc (i := 5) rfl scLaw.nd rfl rfl (sw_true rfl rfl rfl (by decide +kernel)) (pi_range1 (by rfl) T.range (pa_cons (pv 4) pa_nil)) (blkOk_by (N := scLawN) (sc := defScope sLaw) (own := [("_law_k", 6)]) (by decide +kernel)) (fun _ _ _ _ _ => pg_name (i := 6) scLaw.nd rfl (.inl rfl)) (fun _ _ _ _ _ => pts_nil) (fun _ _ _ _ _ => (pe_call GLSigned (hr.mono (by decide)) rfl DLSigned.mg DLSigned.kp DLSigned.b .nil pass0 (pa_cons (pv 1) (pa_cons (pv 3) pa_nil)))))
      (pss_cons (ps_par (i := 7) (j := 8) rfl scLaw.nd rfl rfl (by decide) rfl rfl (pa_cons (pe_call GLSeal (hr.mono (by decide)) rfl DLSeal.mg DLSeal.kp DLSeal.b .nil pass0 (pa_cons (pv 5) pa_nil)) (pa_cons (pe_callB (My.call_repr hg hr.units) (by rfl) T.repr (by decide +kernel) (pa_cons (pv 5) pa_nil)) pa_nil)) (by rfl))
      (pss_cons (ps_if (PW.pt (pw_or (pt_not (pt_val (My.pe_callG GLAlike (hr.mono (by decide)) hg rfl DLAlike.mg DLAlike.kp DLAlike.b (pa_cons (pe_lst (pa_cons (pe_call GSealOf (hr.mono (by decide)) rfl DSealOf.mg DSealOf.kp DSealOf.b .nil pass0 (pa_cons (pv 5) pa_nil)) (pa_cons (pe_call GSealOf (hr.mono (by decide)) rfl DSealOf.mg DSealOf.kp DSealOf.b .nil pass0 (pa_cons (pv 5) pa_nil)) pa_nil))) (pa_cons (pe_lst (pa_cons (pv 7) (pa_cons (pv 7) pa_nil))) pa_nil))))) (pw_or1 (pt_cmpR My.op_neC (pe_callB (My.call_repr hg hr.units) (by rfl) T.repr (by decide +kernel) (pa_cons (pv 5) pa_nil)) (pv 8) (nomark _)))))
        (pss_one (ps_ret pe_bl))
        pss_nil)
      (pss_one (ps_for PassesOwn.never rfl (pi_range1 (by rfl) T.range (pa_cons pe_int pa_nil)) (pg_name (i := 6) scLaw.nd rfl (.inl rfl))
        (pss_cons (ps_set (i := 9) scLaw.nd rfl (.inl rfl) (pe_call GLBent (hr.mono (by decide)) rfl DLBent.mg DLBent.kp DLBent.b .nil pass0 (pa_cons (pv 1) (pa_cons (pv 5) pa_nil))))
        (pss_cons (ps_par (i := 10) (j := 11) rfl scLaw.nd rfl rfl (by decide) rfl rfl (pa_cons (pe_callTy call_list_of (by rfl) T.list (by decide +kernel) (pa_cons (pv 7) pa_nil)) (pa_cons (pe_call GLTake (hr.mono (by decide)) rfl DLTake.mg DLTake.kp DLTake.b .nil pass0 (pa_cons (pv 1) (pa_cons pe_int pa_nil))) pa_nil)) (by rfl))
        (C8.pss_cut (ps_if (pt_cmpR My.op_eqC (pe_call GLTake (hr.mono (by decide)) rfl DLTake.mg DLTake.kp DLTake.b .nil pass0 (pa_cons (pv 1) (pa_cons pe_int pa_nil))) pe_int (nomark _))
          (pss_one (ps_augS (pv 10) (pv 11) My.get_list (pe_call GLOne (hr.mono (by decide)) rfl DLOne.mg DLOne.kp DLOne.b .nil pass0 (pa_cons (pv 1) (pa_cons (pe_lst (pa_cons pe_int (pa_cons (pe_un un_neg pe_int) (pa_cons pe_int pa_nil)))) pa_nil))) ip_add set_list))
          pss_nil)
        (pss_cons (ps_par (i := 12) (j := 8) rfl scLaw.nd rfl rfl (by decide) rfl rfl (pa_cons (pe_call GLDue (hr.mono (by decide)) rfl DLDue.mg DLDue.kp DLDue.b .nil pass0 (pa_cons (pv 9) (pa_cons (pe_callTy call_tuple_of (by rfl) T.tuple (by decide +kernel) (pa_cons (pv 10) pa_nil)) pa_nil))) (pa_cons (pe_callB (My.call_repr hg hr.units) (by rfl) T.repr (by decide +kernel) (pa_cons (pv 9) pa_nil)) pa_nil)) (by rfl))
        (pss_cons (ps_set (i := 13) scLaw.nd rfl (.inl rfl) (pe_call GLTold (hr.mono (by decide)) rfl DLTold.mg DLTold.kp DLTold.b .nil pass0 (pa_cons (pv 9) (pa_cons (pe_callTy call_tuple_of (by rfl) T.tuple (by decide +kernel) (pa_cons (pv 10) pa_nil)) pa_nil))))
        (pss_cons (ps_if (PW.pt (pw_or (pt_not (pt_val (My.pe_callG GLAlike (hr.mono (by decide)) hg rfl DLAlike.mg DLAlike.kp DLAlike.b (pa_cons (pv 13) (pa_cons (pv 12) pa_nil))))) (pw_or1 (pt_cmpR My.op_neC (pe_callB (My.call_repr hg hr.units) (by rfl) T.repr (by decide +kernel) (pa_cons (pv 9) pa_nil)) (pv 8) (nomark _)))))
          (pss_one (ps_ret pe_bl))
          pss_nil)
        (pss_one (ps_if (pt_cmpR My.op_eqC (pe_ix ix_list (pv 13) pe_int (fun _ _ => rfl)) pe_str (nomark _))
          (pss_cons (ps_expr (pe_bm PySem.F.plainAttrs_list PySem.F.slot_list_append PySem.F.type_list_append mt_append (pe_ix ix_tup (pe_ix ix_list (pv 13) pe_int (fun _ _ => rfl)) pe_int (fun _ _ => rfl)) (pa_cons pe_non pa_nil)))
          (pss_one (ps_if (PW.pt (pw_or (pt_cmpR My.op_neC (pe_callB (My.call_repr hg hr.units) (by rfl) T.repr (by decide +kernel) (pa_cons (pv 9) pa_nil)) (pv 8) (nomark _)) (pw_or1 (pt_not (pt_val (My.pe_callG GLAlike (hr.mono (by decide)) hg rfl DLAlike.mg DLAlike.kp DLAlike.b (pa_cons (pe_call GLTold (hr.mono (by decide)) rfl DLTold.mg DLTold.kp DLTold.b .nil pass0 (pa_cons (pv 9) (pa_cons (pe_callTy call_tuple_of (by rfl) T.tuple (by decide +kernel) (pa_cons (pv 10) pa_nil)) pa_nil))) (pa_cons (pv 12) pa_nil))))))))
            (pss_one (ps_ret pe_bl))
            pss_nil)))
          pss_nil))))))))))))))))
    (C8.pss_cut (ps_if (PW.pt (pw_and (pt_cmpR My.op_eqC (pe_call GLTake (hr.mono (by decide)) rfl DLTake.mg DLTake.kp DLTake.b .nil pass0 (pa_cons (pv 1) (pa_cons pe_int pa_nil))) pe_int (nomark _)) (pw_and1 (pt_not (pt_val (My.pe_callG GLLongRight (hr.mono (by decide)) hg rfl DLLongRight.mg DLLongRight.kp DLLongRight.b (pa_cons (pv 1) pa_nil)))))))
      (pss_one (ps_ret pe_bl))
      pss_nil)
    (pss_cons (ps_set (i := 13) scLaw.nd rfl (.inl rfl) (pe_lst (pa_cons (pe_call GSealOf (hr.mono (by decide)) rfl DSealOf.mg DSealOf.kp DSealOf.b .nil pass0 (pa_cons (pe_lst (pa_cons pe_int (pa_cons pe_int pa_nil))) pa_nil)) (pa_cons (pe_call GSealOf (hr.mono (by decide)) rfl DSealOf.mg DSealOf.kp DSealOf.b .nil pass0 (pa_cons (pe_lst pa_nil) pa_nil)) (pa_cons (pe_call GMended (hr.mono (by decide)) rfl DMended.mg DMended.kp DMended.b .nil passL (pa_cons (pe_lst pa_nil) (pa_cons (pe_tup (pa_cons pe_int (pa_cons pe_int (pa_cons pe_int (pa_cons pe_int pa_nil))))) pa_nil))) pa_nil)))))
    (pss_one (ps_ret (My.pe_callG GLAlike (hr.mono (by decide)) hg rfl DLAlike.mg DLAlike.kp DLAlike.b (pa_cons (pv 13) (pa_cons (pe_lst (pa_cons (pe_tup (pa_cons pe_int (pa_cons pe_int (pa_cons pe_int (pa_cons pe_int pa_nil))))) (pa_cons (pe_tup (pa_cons pe_int (pa_cons pe_int (pa_cons pe_int (pa_cons pe_int pa_nil))))) (pa_cons (pe_tup (pa_cons (pe_lst pa_nil) (pa_cons pe_int pa_nil))) pa_nil)))) pa_nil))))))))), ?_⟩
    refine ⟨_, rfl, a, ns, rfl, hS, hl, fun b H1 _ B1 _ => ?_⟩
    refine ⟨6, rfl, by decide, by decide, for_range (n := 6) (fun i σ H' => ∃ v2 v3 v4 v5 v6 v7 v8 v9 v10 v11 v12 v13 : Option V, σ = [some (.ref a), some (.ref b), v2, v3, v4, v5, v6, v7, v8, v9, v10, v11, v12, v13] ∧ Bag H' b)
      ⟨_, _, _, _, _, _, _, _, _, _, _, _, rfl, B1⟩ ?_ ?_⟩
    · rintro i σ H2 hi ⟨v2, v3, v4, v5, v6, v7, v8, v9, v10, v11, v12, v13, rfl, B2⟩
      refine ⟨_, rfl, by show 3 ≤ sizeLine; decide, fun l hl => ?_⟩
      refine ⟨b, l, _, rfl, B2.same (Same.new hl), upd_same, B2.ne hl, by show 0 < 3; decide, by show 3 ≤ 100000; decide, fun v H3 hv B3 _ => ?_⟩
      obtain ⟨m, rfl, hm0, hm⟩ : ∃ m : Nat, v = .int (m : Int) ∧ 0 < m ∧ m ≤ 59 := by
        rcases List.mem_cons.mp hv with rfl | hv
        · exact ⟨2, rfl, by decide, by decide⟩
        rcases List.mem_cons.mp hv with rfl | hv
        · exact ⟨5, rfl, by decide, by decide⟩
        · rw [List.mem_singleton.mp hv]
          exact ⟨59, rfl, by decide, by decide⟩
      obtain ⟨c, hc⟩ : ∃ c, decide ((0 : Int) < 0 + (i : Int)) = c := ⟨_, rfl⟩
      obtain ⟨tv, htv, tv1, tv2⟩ : ∃ tv : Int, (60 : Int) - 50 * (if c = true then 1 else 0) = tv ∧ 10 ≤ tv ∧ tv ≤ 60 := by
        cases c
        · exact ⟨60, by decide, by decide, by decide⟩
        · exact ⟨10, by decide, by decide, by decide⟩
      refine ⟨_, rfl, _, rfl, _, rfl, _, _, c, rfl, rfl, hc, .inr ⟨_, rfl, _, _, _, rfl, rfl, .inl (.inl ⟨by decide, by decide⟩), rfl, _, _, tv, rfl, rfl, htv, by show 4 ≤ sizeLine; decide, fun l2 hl2 => ?_⟩⟩
      have t2 := Same.new (o := .lst [.int 3, .int 6, .int 13, .int tv]) hl2
      refine ⟨b, l2, _, rfl, B3.same t2, upd_same, B3.ne hl2, by show 0 < 4; decide, by show 4 ≤ 100000; decide, fun v H4 hv B4 _ => ?_⟩
      obtain ⟨wd, rfl, wd1, wd2⟩ : ∃ wd : Int, v = .int wd ∧ 0 < wd ∧ wd ≤ 60 := by
        rcases List.mem_cons.mp hv with rfl | hv
        · exact ⟨3, rfl, by decide, by decide⟩
        rcases List.mem_cons.mp hv with rfl | hv
        · exact ⟨6, rfl, by decide, by decide⟩
        rcases List.mem_cons.mp hv with rfl | hv
        · exact ⟨13, rfl, by decide, by decide⟩
        · rw [List.mem_singleton.mp hv]
          exact ⟨tv, rfl, by omega, by omega⟩
      refine ⟨b, wd, rfl, B4, wd1, small64 (by omega), fun r H5 r0 rn B5 _ => ?_⟩
      obtain ⟨n, rfl⟩ : ∃ n : Nat, r = (n : Int) := ⟨r.toNat, by omega⟩
      have hn : n < 60 := by omega
      refine ⟨_, rfl, _, rfl, by omega, by omega, fun D hD => ?_⟩
      have nDb := B5.ne hD
      refine lc_range (lo := 0) (n := n) (fun i H' => ∃ xs : List Int, H' D = some (.lst (zs xs)) ∧ xs.length = i ∧ Bits 248 xs ∧ Bag H' b ∧ Keep b H5 H') ⟨[], upd_same, rfl, fun _ h => absurd h (by simp), B5.same (Same.new hD), (Keep.refl).new hD⟩ ?_ ?_
      · rintro j H6 hj ⟨xs, h1, h2, h3, B6, k6⟩
        refine ⟨rfl, _, rfl, _, rfl, b, m, rfl, B6, hm0, by omega, fun z H7 hz B7 k7 => ?_⟩
        have hD7 := k7 D _ h1 nDb
        have hz2 : z.natAbs < 2 ^ 248 := Nat.lt_of_lt_of_le (bits_of hz) (Nat.pow_le_pow_right (by decide) (by omega))
        refine ⟨_, hD7, by rw [zs_len, h2, sizeLine_eq]; omega, xs ++ [z], ?_, by rw [List.length_append, h2]; rfl, h3.app (.one hz2), Bag.mutK B5 hD (k6.trans k7) B7, Keep.mut hD nDb (k6.trans k7)⟩
        rw [upd_same, zs_app]
        rfl
      rintro H6 ⟨xs, hx6, hxl, hxb, B6, k6⟩
      clear hc htv
      have fx : Fine 60 16000000 (.list (zsD xs)) := (fine_zs (hxb.up (by decide)) (by omega)).up (by decide) (by decide)
      have sbx := seal_bits hxb (by omega)
      refine ⟨_, rfl, D, xs, rfl, hx6, by omega, hxb.up (by decide), fun p H7 hp hp7 s7 => ?_⟩
      refine ⟨_, rfl, _, _, rfl, .lst (SqL.of (s7 _ _ hx6)) (dp_int _), fx, ⟨_, _, rfl, ?_⟩⟩
      refine ⟨_, rfl, D, xs, rfl, s7 _ _ hx6, by omega, hxb.up (by decide), fun p2 H8 hp2 hp28 s8 => ?_⟩
      refine ⟨_, rfl, D, xs, rfl, s8 _ _ (s7 _ _ hx6), by omega, hxb.up (by decide), fun p3 H9 hp3 hp39 s9 => ?_⟩
      refine ⟨by show 2 ≤ sizeLine; decide, fun l3 hl3 => ?_⟩
      have t3 := Same.new (o := .lst [.ref p2, .ref p3]) hl3
      refine ⟨_, rfl, _, rfl, by show 2 ≤ sizeLine; decide, fun l4 hl4 => ?_⟩
      have t4 := Same.new (o := .lst [.ref p, .ref p]) hl4
      have u4 := t3.trans t4
      have p9 := u4 _ _ (s9 _ _ (s8 _ _ hp7))
      have fs := fine_ztup (sbx.up (by decide : 248 + 27 ≤ 1900)) (by show 4 ≤ 400; decide)
      refine ⟨_, _, .list [.tuple (zsD (sealOf xs)), .tuple (zsD (sealOf xs))], rfl, .lst (SqL.of (t4 _ _ upd_same)) (.cons (.tup (SqT.of (u4 _ _ (s9 _ _ hp28))) (dp_int _)) (.cons (.tup (SqT.of (u4 _ _ hp39)) (dp_int _)) .nil)),
        .lst (SqL.of upd_same) (.cons (.tup (SqT.of p9) (dp_int _)) (.cons (.tup (SqT.of p9) (dp_int _)) .nil)), (Fine.list (.cons fs (.cons fs (FineL.nil.up (Nat.zero_le _) (Nat.le_refl 0))))).up (by decide) (by decide), _, rfl, iteF ?_⟩
      have u9 := ((s7.trans s8).trans s9).trans u4
      have hx10 := u9 _ _ hx6
      have B10 := B6.same u9
      refine ⟨_, rfl, _, _, rfl, .lst (SqL.of hx10) (dp_int _), fx, _, rfl, true, rfl, decide_eq_true rfl, _, rfl, iteF ?_⟩
      have npb : p ≠ b := by
        obtain ⟨_, _, _, _, _, B'⟩ := B10
        exact ne_of p9 B'.ob (by intro z; cases z)
      refine ⟨4, rfl, by decide, by decide, for_range (n := 4) (fun i σ H' => ∃ w2 w6 w8 w9 w10 w11 w12 w13 : Option V, σ = [some (.ref a), some (.ref b), w2, some (.int (m : Int)), some (.int (n : Int)), some (.ref D), w6, some (.ref p), w8, w9, w10, w11, w12, w13] ∧ Bag H' b ∧ H' D = some (.lst (zs xs)) ∧ H' p = some (.tup (zs (sealOf xs))))
        ⟨_, _, _, _, _, _, _, _, rfl, B10, hx10, p9⟩ ?_ ?_⟩
      · rintro k σ H11 hk ⟨w2, w6, w8, w9, w10, w11, w12, w13, rfl, B11, D11, p11⟩
        have keepT : ∀ {Ha Hb : Hp} {q : Addr} {ys : List V}, Bag Ha b → Ha q = some (.tup ys) → Keep b Ha Hb → Hb q = some (.tup ys) := fun B e kk => by
          obtain ⟨_, _, _, _, _, B'⟩ := B
          exact kk _ _ e (ne_of e B'.ob (by intro z; cases z))
        refine ⟨_, rfl, _, rfl, b, D, xs, 248, rfl, B11, D11, nDb, by omega, by decide, by decide, hxb, fun R ys H12 hR hR12 ysl ysb B12 k12 => ?_⟩
        have nRb : R ≠ b := B11.ne hR
        have D12 := k12 D _ D11 nDb
        have p12 := keepT B11 p11 k12
        refine ⟨_, rfl, p, _, rfl, .inr (SqT.of p12), fun O hO => ?_⟩
        have tO := Same.new (o := .lst (zs (sealOf xs))) hO
        have nOb : O ≠ b := B12.ne hO
        have nOR : O ≠ R := (ne_of_none hR12 hO).symm
        have nOD : O ≠ D := (ne_of_none D12 hO).symm
        have nOp : O ≠ p := (ne_of_none p12 hO).symm
        refine ⟨_, rfl, b, 4, rfl, B12.same tO, by decide, small64 (by decide), fun r H13 r0 r4 B13 k13 => ⟨_, _, rfl, ?_⟩⟩
        obtain ⟨at_, rfl⟩ : ∃ at_ : Nat, r = (at_ : Int) := ⟨r.toNat, by omega⟩
        have O13 := k13 O _ upd_same nOb
        have R13 := k13 R _ (tO _ _ hR12) nRb
        have D13 := k13 D _ (tO _ _ D12) nDb
        have p13 := keepT (B12.same tO) (tO _ _ p12) k13
        refine ⟨fun σ' H' => ∃ ol : List Int, σ' = [some (.ref a), some (.ref b), w2, some (.int (m : Int)), some (.int (n : Int)), some (.ref D), some (.int (0 + (k : Int))), some (.ref p), w8, some (.ref R), some (.ref O), some (.int (at_ : Int)), w12, w13] ∧
            H' O = some (.lst (zs ol)) ∧ ol.length = 4 ∧ Bits 280 ol ∧ Bag H' b ∧ H' R = some (.lst (zs ys)) ∧ H' D = some (.lst (zs xs)) ∧ H' p = some (.tup (zs (sealOf xs))), ?_, ?_⟩
        · refine ⟨_, rfl, b, 4, rfl, B13, by decide, small64 (by decide), fun r H14 r0' rn' B14 k14 => ?_⟩
          have O14 := k14 O _ O13 nOb
          have R14 := k14 R _ R13 nRb
          have D14 := k14 D _ D13 nDb
          have p14 := keepT B13 p13 k14
          have s4 : (sealOf xs).length = 4 := rfl
          refine ⟨_, rfl, rfl, _, rfl, ite2 (fun e => ?_) (fun e => ⟨sealOf xs, rfl, O14, rfl, sbx.up (by decide), B14, R14, D14, p14⟩)⟩
          have hat : at_ < (sealOf xs).length := by omega
          have hy : (sealOf xs)[at_]? = some (sealOf xs)[at_] := List.getElem?_eq_getElem hat
          refine ⟨_, rfl, _, rfl, O, _, at_, _, rfl, rfl, SqL.of O14, zs_at hy, ?_⟩
          refine ⟨_, rfl, _, rfl, by show 3 ≤ sizeLine; decide, fun l5 hl5 => ?_⟩
          have t5 := Same.new (o := .lst [.int 1, .int (-1), .int 13]) hl5
          refine ⟨b, l5, _, rfl, B14.same t5, upd_same, B14.ne hl5, by show 0 < 3; decide, by show 3 ≤ 100000; decide, fun v H15 hv B15 k15 => ?_⟩
          obtain ⟨u, rfl, hu⟩ : ∃ u : Int, v = .int u ∧ u.natAbs < 2 ^ 275 := by
            rcases List.mem_cons.mp hv with rfl | hv
            · exact ⟨1, rfl, by decide⟩
            rcases List.mem_cons.mp hv with rfl | hv
            · exact ⟨-1, rfl, by decide⟩
            · rw [List.mem_singleton.mp hv]
              exact ⟨13, rfl, by decide⟩
          have kk := (Keep.of t5).trans k15
          have O15 := kk O _ O14 nOb
          refine ⟨_, _, rfl, rfl, O, _, _, at_, rfl, rfl, O15, ixN_nat (by rw [zs_len]; exact hat), ?_⟩
          rw [zs_set]
          have B16 : Bag (upd H15 O (.lst (zs ((sealOf xs).set at_ ((sealOf xs)[at_] + u))))) b := Bag.mutK B12 hO (((Keep.of tO).trans k13).trans (k14.trans kk)) B15
          refine ⟨(sealOf xs).set at_ ((sealOf xs)[at_] + u), rfl, upd_same, by rw [List.length_set] <;> rfl, ?_, B16, by rw [upd_ne nOR.symm]; exact kk R _ R14 nRb, by rw [upd_ne nOD.symm]; exact kk D _ D14 nDb, by rw [upd_ne nOp.symm]; exact keepT B14 p14 kk⟩
          refine Bits.set (sbx.up (by decide)) ?_
          have l1 : ((sealOf xs)[at_]).natAbs < 2 ^ 275 := sbx _ (List.getElem_mem hat)
          exact Nat.lt_of_lt_of_le (add_lt l1 hu) (Nat.pow_le_pow_right (by decide) (by decide))
        rintro σ' H14 ⟨ol, rfl, O14, oll, olb, B14, R14, D14, p14⟩
        obtain ⟨sn, sA, sB, sC, rfl⟩ : ∃ sn sA sB sC : Int, ol = [sn, sA, sB, sC] := by
          match ol, oll with
          | [sn, sA, sB, sC], _ => exact ⟨sn, sA, sB, sC, rfl⟩
        have ybr : Bits 500 ys := ysb.up (by decide)
        have given : ∀ {Ha : Hp} {t : Addr}, Ha R = some (.lst (zs ys)) → Ha t = some (.tup (zs [sn, sA, sB, sC])) → Given Ha (.ref R) (.ref t) ys sn sA sB sC := fun h1 h2 => ⟨R, _, rfl, rfl, h1, h2, by omega, ybr, olb.up (by decide)⟩
        obtain ⟨res, hm⟩ := Mend.of (xs := ys) (n := sn) (A := sA) (B := sB) (C := sC)
        have fyr : Fine 60 16000000 (.list (zsD ys)) := (fine_zs (ysb.up (by decide)) (by omega)).up (by decide) (by decide)
        have fres : Fine 60 16000000 (toldD res) := fine_toldD fun zs' kk e => by
          subst e
          obtain ⟨b1, b2, b3, b4⟩ := hm.bits (m := 251) ysb (by omega) (Nat.lt_of_lt_of_le (olb sA (by simp)) (Nat.pow_le_pow_right (by decide) (by decide)))
          exact ⟨b2.up (by decide), by show zs'.length ≤ 400; have : zs'.length = ys.length := b1; omega, Nat.lt_of_lt_of_le (show kk.natAbs < 2 ^ 10 by have h3 : (0 : Int) ≤ kk := b3; have h4 : kk ≤ 511 := b4; omega) (Nat.pow_le_pow_right (by decide) (by decide))⟩
        have lres : ∀ zs' kk, res = some (zs', kk) → zs'.length ≤ 400 := fun zs' kk e => by
          subst e
          have b1 : zs'.length = ys.length := (hm.bits (m := 251) ysb (by omega) (Nat.lt_of_lt_of_le (olb sA (by simp)) (Nat.pow_le_pow_right (by decide) (by decide)))).1
          omega
        refine ⟨_, rfl, _, rfl, O, _, rfl, .inl ⟨SqL.of O14, fun t ht => ?_⟩⟩
        have t1 := Same.new (o := .tup (zs [sn, sA, sB, sC])) ht
        match res, hm, fres, lres with
        | some (zs', kk), hm, fres, lres =>
          refine ⟨_, _, ys, sn, sA, sB, sC, rfl, given (t1 _ _ R14) upd_same, .inl ⟨zs', kk, hm, fun q p1 l1 H15 hq hp1 q15 p15 l15 s15 => ?_⟩⟩
          have td : ToldAt H15 q (some (zs', kk)) := ⟨p1, l1, q15, p15, l15⟩
          have u15 := t1.trans s15
          refine ⟨_, rfl, _, _, rfl, .lst (SqL.of (u15 _ _ R14)) (dp_int _), fyr, ⟨_, _, rfl, ?_⟩⟩
          refine ⟨_, rfl, _, rfl, O, _, rfl, .inl ⟨SqL.of (u15 _ _ O14), fun t2 ht2 => ?_⟩⟩
          have tt2 := Same.new (o := .tup (zs [sn, sA, sB, sC])) ht2
          refine ⟨_, _, ys, sn, sA, sB, sC, rfl, given (tt2 _ _ (u15 _ _ R14)) upd_same, .inl ⟨zs', kk, hm, fun q2 p2 l2 H16 hq2 hp2 hl2 q16 p16 l16 s16 => ?_⟩⟩
          have td2 : ToldAt H16 q2 (some (zs', kk)) := ⟨p2, l2, q16, p16, l16⟩
          have u16 := tt2.trans s16
          have v16 := u15.trans u16
          refine ⟨_, rfl, _, rfl, _, _, _, rfl, td2.dp, (td.same u16).dp, fres, _, rfl, iteF ?_⟩
          refine ⟨_, rfl, _, _, rfl, .lst (SqL.of (v16 _ _ R14)) (dp_int _), fyr, _, rfl, true, rfl, decide_eq_true rfl, _, rfl, iteF ?_⟩
          refine ⟨_, rfl, q2, _, 0, _, rfl, rfl, SqL.of q16, atI_nat (j := 0) rfl, true, rfl, by decide, _, rfl, iteT ?_⟩
          have lz : zs'.length ≤ 400 := lres zs' kk rfl
          refine ⟨_, rfl, q2, _, 1, _, rfl, rfl, SqL.of q16, atI_nat (j := 1) rfl, p2, _, 0, _, rfl, rfl, SqT.of p16, atI_nat (j := 0) rfl, .inl ⟨rfl, _, SqL.of l16⟩, l2, _, _, rfl, rfl, l16, by rw [zs_len, sizeLine_eq]; omega, ?_⟩
          have w16 : Same H15 (upd H16 l2 (.lst (zs zs' ++ [.non]))) := Same.mut (same_none tt2 hl2) u16
          have x16 := u15.trans w16
          refine ⟨_, rfl, _, _, rfl, .lst (SqL.of (x16 _ _ R14)) (dp_int _), fyr, _, rfl, true, rfl, decide_eq_true rfl, _, rfl, iteF ?_⟩
          refine ⟨_, rfl, _, rfl, O, _, rfl, .inl ⟨SqL.of (x16 _ _ O14), fun t3 ht3 => ?_⟩⟩
          have tt3 := Same.new (o := .tup (zs [sn, sA, sB, sC])) ht3
          refine ⟨_, _, ys, sn, sA, sB, sC, rfl, given (tt3 _ _ (x16 _ _ R14)) upd_same, .inl ⟨zs', kk, hm, fun q3 p3 l3 H17 hq3 hp3 hl3 q17 p17 l17 s17 => ?_⟩⟩
          have td3 : ToldAt H17 q3 (some (zs', kk)) := ⟨p3, l3, q17, p17, l17⟩
          have u17 := tt3.trans s17
          refine ⟨_, rfl, _, _, _, rfl, td3.dp, ((td.same w16).same u17).dp, fres, _, rfl, iteF ?_⟩
          have v17 := x16.trans u17
          exact ⟨_, _, _, _, _, _, _, _, rfl, B14.same v17, v17 _ _ D14, v17 _ _ p14⟩
        | none, hm, fres, _ =>
          refine ⟨_, _, ys, sn, sA, sB, sC, rfl, given (t1 _ _ R14) upd_same, .inr ⟨hm, fun q H15 hq q15 s15 => ?_⟩⟩
          have td : ToldAt H15 q none := q15
          have u15 := t1.trans s15
          refine ⟨_, rfl, _, _, rfl, .lst (SqL.of (u15 _ _ R14)) (dp_int _), fyr, ⟨_, _, rfl, ?_⟩⟩
          refine ⟨_, rfl, _, rfl, O, _, rfl, .inl ⟨SqL.of (u15 _ _ O14), fun t2 ht2 => ?_⟩⟩
          have tt2 := Same.new (o := .tup (zs [sn, sA, sB, sC])) ht2
          refine ⟨_, _, ys, sn, sA, sB, sC, rfl, given (tt2 _ _ (u15 _ _ R14)) upd_same, .inr ⟨hm, fun q2 H16 hq2 q16 s16 => ?_⟩⟩
          have td2 : ToldAt H16 q2 none := q16
          have u16 := tt2.trans s16
          have v16 := u15.trans u16
          refine ⟨_, rfl, _, rfl, _, _, _, rfl, td2.dp, (td.same u16).dp, fres, _, rfl, iteF ?_⟩
          refine ⟨_, rfl, _, _, rfl, .lst (SqL.of (v16 _ _ R14)) (dp_int _), fyr, _, rfl, true, rfl, decide_eq_true rfl, _, rfl, iteF ?_⟩
          refine ⟨_, rfl, q2, _, 0, _, rfl, rfl, SqL.of q16, atI_nat (j := 0) rfl, false, rfl, by decide, _, rfl, iteF ?_⟩
          exact ⟨_, _, _, _, _, _, _, _, rfl, B14.same v16, v16 _ _ D14, v16 _ _ p14⟩
      · rintro σ H11 ⟨w2, w6, w8, w9, w10, w11, w12, w13, rfl, B11, D11, p11⟩
        exact ⟨_, _, _, _, _, _, _, _, _, _, _, _, rfl, B11⟩
    · rintro σ H2 ⟨v2, v3, v4, v5, v6, v7, v8, v9, v10, v11, v12, v13, rfl, B2⟩
      refine ⟨fun σ' H' => ∃ w13 : Option V, σ' = [some (.ref a), some (.ref b), v2, v3, v4, v5, v6, v7, v8, v9, v10, v11, v12, w13], ?_, ?_⟩
      · refine ⟨_, rfl, b, 8, rfl, B2, by decide, small64 (by decide), fun r H3 r0 rn B3 _ => ?_⟩
        refine ⟨_, rfl, rfl, _, rfl, ite2 (fun e => ?_) (fun e => ⟨_, rfl⟩)⟩
        exact ⟨_, rfl, b, rfl, B3, fun H4 B4 => ⟨_, rfl, iteF ⟨_, rfl⟩⟩⟩
      · rintro σ' H3 ⟨w13, rfl⟩
        refine ⟨by show 2 ≤ sizeLine; decide, fun l1 hl1 => ?_⟩
        have b1 : Bits 10 [10, 20] := fun x hx => by
          rcases List.mem_cons.mp hx with rfl | hx
          · decide
          · rw [List.mem_singleton.mp hx]
            decide
        have b0 : Bits 10 ([] : List Int) := fun x hx => absurd hx (by simp)
        have b2 : Bits 10 [0, 0, 0, 0] := fun x hx => by
          have : x = 0 := by simpa using hx
          rw [this]
          decide
        refine ⟨l1, [10, 20], rfl, upd_same, by decide, b1.up (by decide), fun p1 H4 hp1 hp14 s4 => ?_⟩
        refine ⟨by show 0 ≤ sizeLine; decide, fun l2 hl2 => ?_⟩
        have t2 := Same.new (o := .lst []) hl2
        refine ⟨l2, [], rfl, upd_same, by decide, b0.up (by decide), fun p2 H5 hp2 hp25 s5 => ?_⟩
        refine ⟨by show 0 ≤ sizeLine; decide, fun l3 hl3 => ?_⟩
        have t3 := Same.new (o := .lst []) hl3
        refine ⟨by show 4 ≤ sizeLine; decide, fun g3 hg3 => ?_⟩
        have t4 := Same.new (o := .tup [.int 0, .int 0, .int 0, .int 0]) hg3
        refine ⟨_, _, [], 0, 0, 0, 0, rfl, ⟨l3, g3, rfl, rfl, t4 _ _ upd_same, upd_same, by decide, b0.up (by decide), b2.up (by decide)⟩, .inl ⟨[], 0, .right (by decide), fun p3 k3 H6 hp3 hk3 hp36 hk36 s6 => ?_⟩⟩
        refine ⟨by show 3 ≤ sizeLine; decide, fun l4 hl4 => ?_⟩
        have t5 := Same.new (o := .lst [.ref p1, .ref p2, .ref p3]) hl4
        refine ⟨_, rfl, by show 4 ≤ sizeLine; decide, fun g1 hg1 => ?_⟩
        have r1 := Same.new (o := .tup [.int 2, .int 30, .int 50, .int 90]) hg1
        refine ⟨by show 4 ≤ sizeLine; decide, fun g2 hg2 => ?_⟩
        have r2 := Same.new (o := .tup [.int 0, .int 0, .int 0, .int 0]) hg2
        refine ⟨by show 0 ≤ sizeLine; decide, fun l5 hl5 => ?_⟩
        have r3 := Same.new (o := .lst []) hl5
        refine ⟨by show 2 ≤ sizeLine; decide, fun g4 hg4 => ?_⟩
        have r4 := Same.new (o := .tup [.ref l5, .int 0]) hg4
        refine ⟨by show 3 ≤ sizeLine; decide, fun l6 hl6 => ?_⟩
        have r5 := Same.new (o := .lst [.ref g1, .ref g2, .ref g4]) hl6
        have ur := (((r1.trans r2).trans r3).trans r4).trans r5
        have u6 := t5.trans ur
        have e1 : sealOf [10, 20] = [2, 30, 50, 90] := by decide +kernel
        have e2 : sealOf [] = [0, 0, 0, 0] := by decide +kernel
        rw [e1] at hp14
        rw [e2] at hp25
        refine ⟨_, _, .list [.tuple [.int 2, .int 30, .int 50, .int 90], .tuple [.int 0, .int 0, .int 0, .int 0], .tuple [.list [], .int 0]], rfl,
          .lst (SqL.of (ur _ _ upd_same)) (.cons (.tup (SqT.of (u6 _ _ (s6 _ _ (t4 _ _ (t3 _ _ (s5 _ _ (t2 _ _ hp14))))))) (dp_int [2, 30, 50, 90])) (.cons (.tup (SqT.of (u6 _ _ (s6 _ _ (t4 _ _ (t3 _ _ hp25))))) (dp_int [0, 0, 0, 0])) (.cons (.tup (SqT.of (u6 _ _ hp36)) (.cons (.lst (SqL.of (u6 _ _ hk36)) .nil) (.cons (.int _) .nil))) .nil))),
          .lst (SqL.of upd_same) (.cons (.tup (SqT.of (r5 _ _ (r4 _ _ (r3 _ _ (r2 _ _ upd_same))))) (dp_int [2, 30, 50, 90])) (.cons (.tup (SqT.of (r5 _ _ (r4 _ _ (r3 _ _ upd_same)))) (dp_int [0, 0, 0, 0])) (.cons (.tup (SqT.of (r5 _ _ upd_same)) (.cons (.lst (SqL.of (r5 _ _ (r4 _ _ upd_same))) .nil) (.cons (.int _) .nil))) .nil))), fineNow (by decide +kernel), go _⟩
end
theorem all_mk {l : PySem.W.OpenLaw} {w : World} {K : PySem.W.Frag} {h : Heap} {mg : Str → Option Value} {fa : Addr} (X : K.In h) (G : h.Ns mainGlobals mg) (hfa : mg "law" = some (.ref fa))
    {f0 : Addr} {od0 an0 : Option Addr} {sl0 : Array (Option Value)} {oc0 kV0 dc0 pm0 cd0 ct0 : Value}
    {f1 : Addr} {od1 an1 : Option Addr} {sl1 : Array (Option Value)} {oc1 kV1 dc1 pm1 cd1 ct1 : Value}
    {f2 : Addr} {od2 an2 : Option Addr} {sl2 : Array (Option Value)} {oc2 kV2 dc2 pm2 cd2 ct2 : Value}
    {f3 : Addr} {od3 an3 : Option Addr} {sl3 : Array (Option Value)} {oc3 kV3 dc3 pm3 cd3 ct3 : Value}
    {f4 : Addr} {od4 an4 : Option Addr} {sl4 : Array (Option Value)} {oc4 kV4 dc4 pm4 cd4 ct4 : Value}
    {f5 : Addr} {od5 an5 : Option Addr} {sl5 : Array (Option Value)} {oc5 kV5 dc5 pm5 cd5 ct5 : Value}
    {f6 : Addr} {od6 an6 : Option Addr} {sl6 : Array (Option Value)} {oc6 kV6 dc6 pm6 cd6 ct6 : Value}
    {f7 : Addr} {od7 an7 : Option Addr} {sl7 : Array (Option Value)} {oc7 kV7 dc7 pm7 cd7 ct7 : Value}
    {f8 : Addr} {od8 an8 : Option Addr} {sl8 : Array (Option Value)} {oc8 kV8 dc8 pm8 cd8 ct8 : Value}
    {f9 : Addr} {od9 an9 : Option Addr} {sl9 : Array (Option Value)} {oc9 kV9 dc9 pm9 cd9 ct9 : Value}
    {f10 : Addr} {od10 an10 : Option Addr} {sl10 : Array (Option Value)} {oc10 kV10 dc10 pm10 cd10 ct10 : Value}
    {f11 : Addr} {od11 an11 : Option Addr} {sl11 : Array (Option Value)} {oc11 kV11 dc11 pm11 cd11 ct11 : Value}
    {f12 : Addr} {od12 an12 : Option Addr} {sl12 : Array (Option Value)} {oc12 kV12 dc12 pm12 cd12 ct12 : Value}
    {f13 : Addr} {od13 an13 : Option Addr} {sl13 : Array (Option Value)} {oc13 kV13 dc13 pm13 cd13 ct13 : Value}
    {fL : Addr} {odL anL : Option Addr} {slL : Array (Option Value)} {ocL kVL dcL pmL cdL ctL : Value}
    (a0 : PySem.W.nsIn K mainGlobals "seal_of" = some (some (.ref f0)))
    (l0 : K.lookup f0 = some ⟨oc0, od0, .func (PySem.W.fnOf "seal_of" "seal_of" (defArgs sSealOf) (defBody sSealOf) (defScope sSealOf) .none kV0 dc0 pm0 an0 cd0 ct0), sl0⟩)
    (c0 : PySem.W.codeIn K cd0 "seal_of" = true) (k0 : PySem.W.keepIn K (.ref f0) = true)
    (a1 : PySem.W.nsIn K mainGlobals "mended" = some (some (.ref f1)))
    (l1 : K.lookup f1 = some ⟨oc1, od1, .func (PySem.W.fnOf "mended" "mended" (defArgs sMended) (defBody sMended) (defScope sMended) .none kV1 dc1 pm1 an1 cd1 ct1), sl1⟩)
    (c1 : PySem.W.codeIn K cd1 "mended" = true) (k1 : PySem.W.keepIn K (.ref f1) = true)
    (a2 : PySem.W.nsIn K mainGlobals "_law_bag" = some (some (.ref f2)))
    (l2 : K.lookup f2 = some ⟨oc2, od2, .func (PySem.W.fnOf "_law_bag" "_law_bag" (defArgs sLBag) (defBody sLBag) (defScope sLBag) .none kV2 dc2 pm2 an2 cd2 ct2), sl2⟩)
    (c2 : PySem.W.codeIn K cd2 "_law_bag" = true) (k2 : PySem.W.keepIn K (.ref f2) = true)
    (a3 : PySem.W.nsIn K mainGlobals "_law_take" = some (some (.ref f3)))
    (l3 : K.lookup f3 = some ⟨oc3, od3, .func (PySem.W.fnOf "_law_take" "_law_take" (defArgs sLTake) (defBody sLTake) (defScope sLTake) .none kV3 dc3 pm3 an3 cd3 ct3), sl3⟩)
    (c3 : PySem.W.codeIn K cd3 "_law_take" = true) (k3 : PySem.W.keepIn K (.ref f3) = true)
    (a4 : PySem.W.nsIn K mainGlobals "_law_alike" = some (some (.ref f4)))
    (l4 : K.lookup f4 = some ⟨oc4, od4, .func (PySem.W.fnOf "_law_alike" "_law_alike" (defArgs sLAlike) (defBody sLAlike) (defScope sLAlike) .none kV4 dc4 pm4 an4 cd4 ct4), sl4⟩)
    (c4 : PySem.W.codeIn K cd4 "_law_alike" = true) (k4 : PySem.W.keepIn K (.ref f4) = true)
    (a5 : PySem.W.nsIn K mainGlobals "_law_one" = some (some (.ref f5)))
    (l5 : K.lookup f5 = some ⟨oc5, od5, .func (PySem.W.fnOf "_law_one" "_law_one" (defArgs sLOne) (defBody sLOne) (defScope sLOne) .none kV5 dc5 pm5 an5 cd5 ct5), sl5⟩)
    (c5 : PySem.W.codeIn K cd5 "_law_one" = true) (k5 : PySem.W.keepIn K (.ref f5) = true)
    (a6 : PySem.W.nsIn K mainGlobals "_law_mixed" = some (some (.ref f6)))
    (l6 : K.lookup f6 = some ⟨oc6, od6, .func (PySem.W.fnOf "_law_mixed" "_law_mixed" (defArgs sLMixed) (defBody sLMixed) (defScope sLMixed) .none kV6 dc6 pm6 an6 cd6 ct6), sl6⟩)
    (c6 : PySem.W.codeIn K cd6 "_law_mixed" = true) (k6 : PySem.W.keepIn K (.ref f6) = true)
    (a7 : PySem.W.nsIn K mainGlobals "_law_figures" = some (some (.ref f7)))
    (l7 : K.lookup f7 = some ⟨oc7, od7, .func (PySem.W.fnOf "_law_figures" "_law_figures" (defArgs sLFigures) (defBody sLFigures) (defScope sLFigures) .none kV7 dc7 pm7 an7 cd7 ct7), sl7⟩)
    (c7 : PySem.W.codeIn K cd7 "_law_figures" = true) (k7 : PySem.W.keepIn K (.ref f7) = true)
    (a8 : PySem.W.nsIn K mainGlobals "_law_signed" = some (some (.ref f8)))
    (l8 : K.lookup f8 = some ⟨oc8, od8, .func (PySem.W.fnOf "_law_signed" "_law_signed" (defArgs sLSigned) (defBody sLSigned) (defScope sLSigned) .none kV8 dc8 pm8 an8 cd8 ct8), sl8⟩)
    (c8 : PySem.W.codeIn K cd8 "_law_signed" = true) (k8 : PySem.W.keepIn K (.ref f8) = true)
    (a9 : PySem.W.nsIn K mainGlobals "_law_seal" = some (some (.ref f9)))
    (l9 : K.lookup f9 = some ⟨oc9, od9, .func (PySem.W.fnOf "_law_seal" "_law_seal" (defArgs sLSeal) (defBody sLSeal) (defScope sLSeal) .none kV9 dc9 pm9 an9 cd9 ct9), sl9⟩)
    (c9 : PySem.W.codeIn K cd9 "_law_seal" = true) (k9 : PySem.W.keepIn K (.ref f9) = true)
    (a10 : PySem.W.nsIn K mainGlobals "_law_told" = some (some (.ref f10)))
    (l10 : K.lookup f10 = some ⟨oc10, od10, .func (PySem.W.fnOf "_law_told" "_law_told" (defArgs sLTold) (defBody sLTold) (defScope sLTold) .none kV10 dc10 pm10 an10 cd10 ct10), sl10⟩)
    (c10 : PySem.W.codeIn K cd10 "_law_told" = true) (k10 : PySem.W.keepIn K (.ref f10) = true)
    (a11 : PySem.W.nsIn K mainGlobals "_law_due" = some (some (.ref f11)))
    (l11 : K.lookup f11 = some ⟨oc11, od11, .func (PySem.W.fnOf "_law_due" "_law_due" (defArgs sLDue) (defBody sLDue) (defScope sLDue) .none kV11 dc11 pm11 an11 cd11 ct11), sl11⟩)
    (c11 : PySem.W.codeIn K cd11 "_law_due" = true) (k11 : PySem.W.keepIn K (.ref f11) = true)
    (a12 : PySem.W.nsIn K mainGlobals "_law_bent" = some (some (.ref f12)))
    (l12 : K.lookup f12 = some ⟨oc12, od12, .func (PySem.W.fnOf "_law_bent" "_law_bent" (defArgs sLBent) (defBody sLBent) (defScope sLBent) .none kV12 dc12 pm12 an12 cd12 ct12), sl12⟩)
    (c12 : PySem.W.codeIn K cd12 "_law_bent" = true) (k12 : PySem.W.keepIn K (.ref f12) = true)
    (a13 : PySem.W.nsIn K mainGlobals "_law_long_right" = some (some (.ref f13)))
    (l13 : K.lookup f13 = some ⟨oc13, od13, .func (PySem.W.fnOf "_law_long_right" "_law_long_right" (defArgs sLLongRight) (defBody sLLongRight) (defScope sLLongRight) .none kV13 dc13 pm13 an13 cd13 ct13), sl13⟩)
    (c13 : PySem.W.codeIn K cd13 "_law_long_right" = true) (k13 : PySem.W.keepIn K (.ref f13) = true)
    (aL : PySem.W.nsIn K mainGlobals "law" = some (some (.ref fL)))
    (lL : K.lookup fL = some ⟨ocL, odL, .func (PySem.W.fnOf "law" "law" (defArgs sLaw) (defBody sLaw) (defScope sLaw) .none kVL dcL pmL anL cdL ctL), slL⟩)
    (cL : PySem.W.codeIn K cdL "law" = true) (kL : PySem.W.keepIn K (.ref fL) = true)
    (z_abs : PySem.W.nsIn K mainGlobals "abs" = some none)
    (z_int : PySem.W.nsIn K mainGlobals "int" = some none)
    (z_len : PySem.W.nsIn K mainGlobals "len" = some none)
    (z_list : PySem.W.nsIn K mainGlobals "list" = some none)
    (z_range : PySem.W.nsIn K mainGlobals "range" = some none)
    (z_repr : PySem.W.nsIn K mainGlobals "repr" = some none)
    (z_sum : PySem.W.nsIn K mainGlobals "sum" = some none)
    (z_enumerate : PySem.W.nsIn K mainGlobals "enumerate" = some none)
    (z_isinstance : PySem.W.nsIn K mainGlobals "isinstance" = some none)
    (z_bool : PySem.W.nsIn K mainGlobals "bool" = some none)
    (z_str : PySem.W.nsIn K mainGlobals "str" = some none)
    (z_tuple : PySem.W.nsIn K mainGlobals "tuple" = some none)
    (z_sorted : PySem.W.nsIn K mainGlobals "sorted" = some none)
    (z_set : PySem.W.nsIn K mainGlobals "set" = some none)
    (z_zip : PySem.W.nsIn K mainGlobals "zip" = some none)
    {CPollError : Addr} (egPollError : PySem.W.nsIn K mainGlobals "PollError" = some (some (.ref CPollError))) (ekPollError : PySem.W.keepIn K (.ref CPollError) = true) (eqPollError : PySem.W.excIn K CPollError [.type "ValueError", .type "Exception", .type "BaseException", .type "object"] "ValueError.__new__" = true)
    (e1PollError : PySem.W.findIn K (.ref CPollError) "__getattribute__" = some (some (.builtin "BaseException.__getattribute__"))) (e2PollError : PySem.W.findIn K (.ref CPollError) "__getattr__" = some none) (e3PollError : PySem.W.subIn K (.ref CPollError) (.type "BaseException") = some true) (e4PollError : PySem.W.hasDictIn K CPollError = true)
    (e5PollError : PySem.W.findIn K (.ref CPollError) "__class__" = some (some (.builtin "object.__class__"))) (e6PollError : PySem.W.specialIn K (.builtin "object.__class__") "__get__" = some (some (.builtin "getset_descriptor.__get__"))) (e7PollError : PySem.W.takesIn K (.builtin "object.__class__") = some true) (e8PollError : PySem.W.mroIn K CPollError (.type "object") = some true)
    (etPollError : PySem.W.typeIn K (.ref CPollError) = some (.type "type")) (eiPollError : PySem.W.subIn K (.ref CPollError) (.type "int") = some false) (ebPollError : PySem.W.subIn K (.ref CPollError) (.type "bool") = some false)
    {CTorn : Addr} (egTorn : PySem.W.nsIn K mainGlobals "Torn" = some (some (.ref CTorn))) (ekTorn : PySem.W.keepIn K (.ref CTorn) = true) (eqTorn : PySem.W.excIn K CTorn [.type "ValueError", .type "Exception", .type "BaseException", .type "object"] "ValueError.__new__" = true)
    (e1Torn : PySem.W.findIn K (.ref CTorn) "__getattribute__" = some (some (.builtin "BaseException.__getattribute__"))) (e2Torn : PySem.W.findIn K (.ref CTorn) "__getattr__" = some none) (e3Torn : PySem.W.subIn K (.ref CTorn) (.type "BaseException") = some true) (e4Torn : PySem.W.hasDictIn K CTorn = true)
    (e5Torn : PySem.W.findIn K (.ref CTorn) "__class__" = some (some (.builtin "object.__class__"))) (e6Torn : PySem.W.specialIn K (.builtin "object.__class__") "__get__" = some (some (.builtin "getset_descriptor.__get__"))) (e7Torn : PySem.W.takesIn K (.builtin "object.__class__") = some true) (e8Torn : PySem.W.mroIn K CTorn (.type "object") = some true)
    (etTorn : PySem.W.typeIn K (.ref CTorn) = some (.type "type")) (eiTorn : PySem.W.subIn K (.ref CTorn) (.type "int") = some false) (ebTorn : PySem.W.subIn K (.ref CTorn) (.type "bool") = some false)
    (ecTornPollError : PySem.W.subIn K (.ref CTorn) (.ref CPollError) = some true)
    : ∃ fd : FuncData, (∀ (s : Shared) (v : Value), BindsTo s fd ⟨[v], []⟩ [("_law_script", v)]) ∧ ∀ base : Heap, K.In base → base.Ns mainGlobals mg → FnG l.prog w K mg base 7 fa fd ["_law_script"] (spLaw K) := by
  have e := hfa.symm.trans (PySem.W.mg_of X G aL)
  cases e
  have T : Txt mg := ⟨PySem.W.mg_none_of X G z_abs, PySem.W.mg_none_of X G z_int, PySem.W.mg_none_of X G z_len, PySem.W.mg_none_of X G z_list, PySem.W.mg_none_of X G z_range, PySem.W.mg_none_of X G z_repr, PySem.W.mg_none_of X G z_sum, PySem.W.mg_none_of X G z_enumerate, PySem.W.mg_none_of X G z_isinstance, PySem.W.mg_none_of X G z_bool, PySem.W.mg_none_of X G z_str, PySem.W.mg_none_of X G z_tuple, PySem.W.mg_none_of X G z_sorted, PySem.W.mg_none_of X G z_set, PySem.W.mg_none_of X G z_zip⟩
  have F0 := fun_mk (st := sSealOf) l0 c0 k0
  have b0 := F0.binds (ps := ["codes"]) fun _ _ _ _ _ _ us hl => match us, hl with | [_], _ => rfl
  have D0 : Df K mg "seal_of" sSealOf ["codes"] := ⟨f0, _, F0, PySem.W.mg_of X G a0, k0, b0⟩
  have F1 := fun_mk (st := sMended) l1 c1 k1
  have b1 := F1.binds (ps := ["codes", "seal"]) fun _ _ _ _ _ _ us hl => match us, hl with | [_, _], _ => rfl
  have D1 : Df K mg "mended" sMended ["codes", "seal"] := ⟨f1, _, F1, PySem.W.mg_of X G a1, k1, b1⟩
  have F2 := fun_mk (st := sLBag) l2 c2 k2
  have b2 := F2.binds (ps := ["_law_script"]) fun _ _ _ _ _ _ us hl => match us, hl with | [_], _ => rfl
  have D2 : Df K mg "_law_bag" sLBag ["_law_script"] := ⟨f2, _, F2, PySem.W.mg_of X G a2, k2, b2⟩
  have F3 := fun_mk (st := sLTake) l3 c3 k3
  have b3 := F3.binds (ps := ["_law_bag_here", "_law_many"]) fun _ _ _ _ _ _ us hl => match us, hl with | [_, _], _ => rfl
  have D3 : Df K mg "_law_take" sLTake ["_law_bag_here", "_law_many"] := ⟨f3, _, F3, PySem.W.mg_of X G a3, k3, b3⟩
  have F4 := fun_mk (st := sLAlike) l4 c4 k4
  have b4 := F4.binds (ps := ["_law_found", "_law_due_here"]) fun _ _ _ _ _ _ us hl => match us, hl with | [_, _], _ => rfl
  have D4 : Df K mg "_law_alike" sLAlike ["_law_found", "_law_due_here"] := ⟨f4, _, F4, PySem.W.mg_of X G a4, k4, b4⟩
  have F5 := fun_mk (st := sLOne) l5 c5 k5
  have b5 := F5.binds (ps := ["_law_bag_here", "_law_some"]) fun _ _ _ _ _ _ us hl => match us, hl with | [_, _], _ => rfl
  have D5 : Df K mg "_law_one" sLOne ["_law_bag_here", "_law_some"] := ⟨f5, _, F5, PySem.W.mg_of X G a5, k5, b5⟩
  have F6 := fun_mk (st := sLMixed) l6 c6 k6
  have b6 := F6.binds (ps := ["_law_bag_here", "_law_things"]) fun _ _ _ _ _ _ us hl => match us, hl with | [_, _], _ => rfl
  have D6 : Df K mg "_law_mixed" sLMixed ["_law_bag_here", "_law_things"] := ⟨f6, _, F6, PySem.W.mg_of X G a6, k6, b6⟩
  have F7 := fun_mk (st := sLFigures) l7 c7 k7
  have b7 := F7.binds (ps := ["_law_bag_here", "_law_most"]) fun _ _ _ _ _ _ us hl => match us, hl with | [_, _], _ => rfl
  have D7 : Df K mg "_law_figures" sLFigures ["_law_bag_here", "_law_most"] := ⟨f7, _, F7, PySem.W.mg_of X G a7, k7, b7⟩
  have F8 := fun_mk (st := sLSigned) l8 c8 k8
  have b8 := F8.binds (ps := ["_law_bag_here", "_law_most"]) fun _ _ _ _ _ _ us hl => match us, hl with | [_, _], _ => rfl
  have D8 : Df K mg "_law_signed" sLSigned ["_law_bag_here", "_law_most"] := ⟨f8, _, F8, PySem.W.mg_of X G a8, k8, b8⟩
  have F9 := fun_mk (st := sLSeal) l9 c9 k9
  have b9 := F9.binds (ps := ["_law_codes"]) fun _ _ _ _ _ _ us hl => match us, hl with | [_], _ => rfl
  have D9 : Df K mg "_law_seal" sLSeal ["_law_codes"] := ⟨f9, _, F9, PySem.W.mg_of X G a9, k9, b9⟩
  have F10 := fun_mk (st := sLTold) l10 c10 k10
  have b10 := F10.binds (ps := ["_law_codes", "_law_seal_here"]) fun _ _ _ _ _ _ us hl => match us, hl with | [_, _], _ => rfl
  have D10 : Df K mg "_law_told" sLTold ["_law_codes", "_law_seal_here"] := ⟨f10, _, F10, PySem.W.mg_of X G a10, k10, b10⟩
  have F11 := fun_mk (st := sLDue) l11 c11 k11
  have b11 := F11.binds (ps := ["_law_codes", "_law_seal_here"]) fun _ _ _ _ _ _ us hl => match us, hl with | [_, _], _ => rfl
  have D11 : Df K mg "_law_due" sLDue ["_law_codes", "_law_seal_here"] := ⟨f11, _, F11, PySem.W.mg_of X G a11, k11, b11⟩
  have F12 := fun_mk (st := sLBent) l12 c12 k12
  have b12 := F12.binds (ps := ["_law_bag_here", "_law_codes"]) fun _ _ _ _ _ _ us hl => match us, hl with | [_, _], _ => rfl
  have D12 : Df K mg "_law_bent" sLBent ["_law_bag_here", "_law_codes"] := ⟨f12, _, F12, PySem.W.mg_of X G a12, k12, b12⟩
  have F13 := fun_mk (st := sLLongRight) l13 c13 k13
  have b13 := F13.binds (ps := ["_law_bag_here"]) fun _ _ _ _ _ _ us hl => match us, hl with | [_], _ => rfl
  have D13 : Df K mg "_law_long_right" sLLongRight ["_law_bag_here"] := ⟨f13, _, F13, PySem.W.mg_of X G a13, k13, b13⟩
  have FL := fun_mk (st := sLaw) lL cL kL
  let EPollError : ExW K mg "PollError" := ⟨CPollError, PySem.W.mg_of X G egPollError, ekPollError, eqPollError, ⟨e1PollError, e2PollError, e3PollError, e4PollError, e5PollError, e6PollError, e7PollError, e8PollError⟩, etPollError, kit_ref eiPollError (by decide +kernel), kit_ref ebPollError (by decide +kernel)⟩
  let ETorn : ExW K mg "Torn" := ⟨CTorn, PySem.W.mg_of X G egTorn, ekTorn, eqTorn, ⟨e1Torn, e2Torn, e3Torn, e4Torn, e5Torn, e6Torn, e7Torn, e8Torn⟩, etTorn, kit_ref eiTorn (by decide +kernel), kit_ref ebTorn (by decide +kernel)⟩
  exact ⟨PySem.W.fnOf "law" "law" (defArgs sLaw) (defBody sLaw) (defScope sLaw) .none kVL dcL pmL anL cdL ctL, fun s v => .of_eq rfl, fun base _ _ =>
    ok_law FL T EPollError ETorn ecTornPollError D0 D1 D2 D3 D4 D5 D6 D7 D8 D9 D10 D11 D12 D13⟩
theorem walk {l : PySem.W.OpenLaw} {q : Program} {loose : List Str} {XP : (Str → Option Value) → Heap → Prop} {YP : World → Heap → Prop} {d : DefRec} {K : Params → PySem.W.Frag} (hn : l.most = some 63) (hdf : d.params.defaults = [])
    (hY : ∀ (w : World) (h : Heap), YP w h → (K w.params).In h)
    (F : ∀ (w : World) (mg : Str → Option Value) (fa : Addr) (h : Heap), (K w.params).In h → h.Ns mainGlobals mg → mg d.name = some (.ref fa) →
      ∃ fd : FuncData, (∀ (s : Shared) (u : Value), BindsTo s fd ⟨[u], []⟩ [("_law_script", u)]) ∧ ∀ base : Heap, (K w.params).In base → base.Ns mainGlobals mg → FnG l.prog w (K w.params) mg base 7 fa fd ["_law_script"] (spLaw (K w.params))) :
    PySem.W.WalkO q loose XP YP l.row.toRowW d [] (fun f vs => PySem.call f vs) :=
  walkG (k := 7) (x := "_law_script") spLaw hn hdf ⟨rfl, by decide, by decide⟩ hY F fun K H a ns hl hS => ⟨a, ns, rfl, hS, hl, fun _ => rfl⟩
end My
open PySem PySem.W PyProof.Rows
set_option maxRecDepth 100000 in
set_option maxHeartbeats 0 in
theorem PySem.Challenge.cw_wholepoll_k26_seals_mended_holds : PySem.Challenge.rw_wholepoll_k26_seals_mended.Holds := by
  w_on; o_law; k_head; (case hw => w_witness2)
  k_fill
  refine My.walk (l := PySem.Challenge.rw_wholepoll_k26_seals_mended) rfl rfl (fun w h Y => PySem.W.kIn_of Y) ?F
  case F =>
    intro w mg fa h KX G hmg
    refine' My.all_mk KX G hmg ?a0 ?l0 ?c0 ?k0 ?a1 ?l1 ?c1 ?k1 ?a2 ?l2 ?c2 ?k2 ?a3 ?l3 ?c3 ?k3 ?a4 ?l4 ?c4 ?k4 ?a5 ?l5 ?c5 ?k5 ?a6 ?l6 ?c6 ?k6 ?a7 ?l7 ?c7 ?k7 ?a8 ?l8 ?c8 ?k8 ?a9 ?l9 ?c9 ?k9 ?a10 ?l10 ?c10 ?k10 ?a11 ?l11 ?c11 ?k11 ?a12 ?l12 ?c12 ?k12 ?a13 ?l13 ?c13 ?k13 ?aL ?lL ?cL ?kL ?z_abs ?z_int ?z_len ?z_list ?z_range ?z_repr ?z_sum ?z_enumerate ?z_isinstance ?z_bool ?z_str ?z_tuple ?z_sorted ?z_set ?z_zip ?egPollError ?ekPollError ?eqPollError ?e1PollError ?e2PollError ?e3PollError ?e4PollError ?e5PollError ?e6PollError ?e7PollError ?e8PollError ?etPollError ?eiPollError ?ebPollError ?egTorn ?ekTorn ?eqTorn ?e1Torn ?e2Torn ?e3Torn ?e4Torn ?e5Torn ?e6Torn ?e7Torn ?e8Torn ?etTorn ?eiTorn ?ebTorn ?ecTornPollError
    (case a0 => k_is)
    (case l0 => k_is)
    (case c0 => k_is)
    (case k0 => k_is)
    (case a1 => k_is)
    (case l1 => k_is)
    (case c1 => k_is)
    (case k1 => k_is)
    (case a2 => k_is)
    (case l2 => k_is)
    (case c2 => k_is)
    (case k2 => k_is)
    (case a3 => k_is)
    (case l3 => k_is)
    (case c3 => k_is)
    (case k3 => k_is)
    (case a4 => k_is)
    (case l4 => k_is)
    (case c4 => k_is)
    (case k4 => k_is)
    (case a5 => k_is)
    (case l5 => k_is)
    (case c5 => k_is)
    (case k5 => k_is)
    (case a6 => k_is)
    (case l6 => k_is)
    (case c6 => k_is)
    (case k6 => k_is)
    (case a7 => k_is)
    (case l7 => k_is)
    (case c7 => k_is)
    (case k7 => k_is)
    (case a8 => k_is)
    (case l8 => k_is)
    (case c8 => k_is)
    (case k8 => k_is)
    (case a9 => k_is)
    (case l9 => k_is)
    (case c9 => k_is)
    (case k9 => k_is)
    (case a10 => k_is)
    (case l10 => k_is)
    (case c10 => k_is)
    (case k10 => k_is)
    (case a11 => k_is)
    (case l11 => k_is)
    (case c11 => k_is)
    (case k11 => k_is)
    (case a12 => k_is)
    (case l12 => k_is)
    (case c12 => k_is)
    (case k12 => k_is)
    (case a13 => k_is)
    (case l13 => k_is)
    (case c13 => k_is)
    (case k13 => k_is)
    (case aL => k_is)
    (case lL => k_is)
    (case cL => k_is)
    (case kL => k_is)
    (case z_abs => k_is)
    (case z_int => k_is)
    (case z_len => k_is)
    (case z_list => k_is)
    (case z_range => k_is)
    (case z_repr => k_is)
    (case z_sum => k_is)
    (case z_enumerate => k_is)
    (case z_isinstance => k_is)
    (case z_bool => k_is)
    (case z_str => k_is)
    (case z_tuple => k_is)
    (case z_sorted => k_is)
    (case z_set => k_is)
    (case z_zip => k_is)
    (case egPollError => k_is)
    (case ekPollError => k_is)
    (case eqPollError => k_exc)
    (case e1PollError => k_is)
    (case e2PollError => k_is)
    (case e3PollError => k_is)
    (case e4PollError => k_is)
    (case e5PollError => k_is)
    (case e6PollError => k_is)
    (case e7PollError => k_is)
    (case e8PollError => k_is)
    (case etPollError => k_is)
    (case eiPollError => k_is)
    (case ebPollError => k_is)
    (case egTorn => k_is)
    (case ekTorn => k_is)
    (case eqTorn => k_exc)
    (case e1Torn => k_is)
    (case e2Torn => k_is)
    (case e3Torn => k_is)
    (case e4Torn => k_is)
    (case e5Torn => k_is)
    (case e6Torn => k_is)
    (case e7Torn => k_is)
    (case e8Torn => k_is)
    (case etTorn => k_is)
    (case eiTorn => k_is)
    (case ebTorn => k_is)
    (case ecTornPollError => k_is)

