import PyProof.Rows.All
import Wide.All
import OpenK.AllK
import Wide.FinOn
import HandS.ForMost
import HandS.Wide
import HandS.WideBits
import HandS.Codes
import HandS.Flow
import HandS.Conv
import HandS.Gcd
import HandS.NoneIn
import HandS.IsInst
import HandS.Zip
import HandS.ExcIs
import HandS.ExcValue
import HandS.Style
import PySem.Challenge.RW_wholepoll_k15_fractions_rounded_and_adde
set_option Elab.async false
set_option maxRecDepth 100000
/-! What all my proofs share: promises under which no repr is going on, repr, an item changed by an operator, data and their texts. -/
namespace My
open PySem L2 PySem.Spec PyProof.Rows

/-! ### an item of a list, to be changed by an operator -/
def rGet0 (K : PySem.W.Frag) : V → V → Hp → VK → Prop := fun x y H Q =>
  ∃ p xs, ∃ (n : Nat) (v : V), x = .ref p ∧ y = .int n ∧ SqL K H p xs ∧ xs[n]? = some v ∧ Q v H
theorem get_list {X : Cx} : PGet X (rGet0 X.K) := by
  intro pins st σ H o i ov iv Q I ro ri h
  obtain ⟨p, xs, n, v, rfl, rfl, hq, he, q⟩ := h
  cases ro
  obtain ⟨tk, rfl⟩ := ri
  obtain ⟨its, rr, pl, hz⟩ := I.list hq
  obtain ⟨u, eu, ru⟩ := rr.get he
  have hn : n < xs.length := (List.getElem?_eq_some_iff.mp he).1
  have h63 := line63
  exact wpAny_getItem_list pl.isList (by omega) (by omega) (by simpa using eu) ⟨v, H, I, ru, q⟩

/-! ### comparisons whose answer is told by me -/
def rEqC : R2 := fun x y H Q => ∃ c : Bool, scal x y = true ∧ decide (x = y) = c ∧ Q (.bl c) H
def rNeC : R2 := fun x y H Q => ∃ c : Bool, scal x y = true ∧ decide (x = y) = c ∧ Q (.bl (!c)) H
def rIC (g : Int → Int → Bool) : R2 := fun x y H Q => ∃ i j, ∃ c : Bool, x = .int i ∧ y = .int j ∧ g i j = c ∧ Q (.bl c) H
/-- whole numbers, the answer told by me -/
def rA0 (g : Int → Int → Int) : R2 := fun x y H Q => ∃ i j k, x = .int i ∧ y = .int j ∧ g i j = k ∧ Q (.int k) H
def rA (C : Int → Int → Prop) (g : Int → Int → Int) : R2 := fun x y H Q => ∃ i j k, x = .int i ∧ y = .int j ∧ C i j ∧ g i j = k ∧ Q (.int k) H
def rInC (K : PySem.W.Frag) (neg : Bool) : R2 := fun x y H Q => ∃ p xs, ∃ c : Bool, y = .ref p ∧ (SqL K H p xs ∨ SqT K H p xs) ∧ flatV x = true ∧ xs.all flatV = true ∧ inV x xs = c ∧ Q (.bl (if neg then !c else c)) H
def rEqDC (K : PySem.W.Frag) : R2 := fun x y H Q => ∃ d e, ∃ c : Bool, Dp K H x d ∧ Dp K H y e ∧ SeqAt.shaped d = true ∧ SeqAt.shaped e = true ∧ PyData.eqv d e = c ∧ Q (.bl c) H
def rNeDC (K : PySem.W.Frag) : R2 := fun x y H Q => ∃ d e, ∃ c : Bool, Dp K H x d ∧ Dp K H y e ∧ SeqAt.shaped d = true ∧ SeqAt.shaped e = true ∧ PyData.eqv d e = c ∧ Q (.bl (!c)) H
section
variable {X : Cx}
theorem OpR.imp {f : Value → Value → Sem Value} {r r' : R2} (h : OpR X f r) (hi : ∀ x y H Q, r' x y H Q → r x y H Q) : OpR X f r' :=
  fun pins st σ H x y v u Q I rx ry q => h pins st σ H x y v u Q I rx ry (hi x y H Q q)
theorem op_eqC : OpR X (compareOp .Eq) rEqC := OpR.imp op_eq fun x y H Q ⟨c, h1, h2, q⟩ => ⟨h1, by rw [h2]; exact q⟩
theorem op_neC : OpR X (compareOp .NotEq) rNeC := OpR.imp op_ne fun x y H Q ⟨c, h1, h2, q⟩ => ⟨h1, by rw [h2]; exact q⟩
theorem op_ltC : OpR X (compareOp .Lt) (rIC fun i j => decide (i < j)) := OpR.imp op_lt fun x y H Q ⟨i, j, c, h1, h2, h3, q⟩ => ⟨i, j, h1, h2, by subst h3; exact q⟩
theorem op_leC : OpR X (compareOp .LtE) (rIC fun i j => decide (i ≤ j)) := OpR.imp op_le fun x y H Q ⟨i, j, c, h1, h2, h3, q⟩ => ⟨i, j, h1, h2, by subst h3; exact q⟩
theorem op_gtC : OpR X (compareOp .Gt) (rIC fun i j => decide (j < i)) := OpR.imp op_gt fun x y H Q ⟨i, j, c, h1, h2, h3, q⟩ => ⟨i, j, h1, h2, by subst h3; exact q⟩
theorem op_geC : OpR X (compareOp .GtE) (rIC fun i j => decide (j ≤ i)) := OpR.imp op_ge fun x y H Q ⟨i, j, c, h1, h2, h3, q⟩ => ⟨i, j, h1, h2, by subst h3; exact q⟩
theorem op_addC : OpR X (binaryOp .Add) (rA0 fun i j => i + j) := OpR.imp op_add fun x y H Q ⟨i, j, k, h1, h2, h3, q⟩ => ⟨i, j, h1, h2, by subst h3; exact q⟩
theorem op_subC : OpR X (binaryOp .Sub) (rA0 fun i j => i - j) := OpR.imp op_sub fun x y H Q ⟨i, j, k, h1, h2, h3, q⟩ => ⟨i, j, h1, h2, by subst h3; exact q⟩
def MulOk (i j : Int) : Prop := CMul i j ∨ CMulW i j
theorem op_mulC : OpR X (binaryOp .Mult) (rA MulOk fun i j => i * j) := fun pins st σ H x y v u Q I rx ry ⟨i, j, k, h1, h2, hc, h3, q⟩ =>
  hc.elim (fun c => op_mul pins st σ H x y v u Q I rx ry ⟨i, j, h1, h2, c, by subst h3; exact q⟩) fun c => op_mulW pins st σ H x y v u Q I rx ry ⟨i, j, h1, h2, c, by subst h3; exact q⟩
theorem op_modC : OpR X (binaryOp .Mod) (rA (fun _ j => 0 < j) fun i j => i % j) := OpR.imp op_modN fun x y H Q ⟨i, j, k, h1, h2, hc, h3, q⟩ =>
  ⟨i, j, h1, h2, Int.ne_of_gt hc, by subst h3; show Q (.int (i.fmod j)) H; rw [Int.fmod_eq_emod_of_nonneg i (Int.le_of_lt hc)]; exact q⟩
theorem op_fdivC : OpR X (binaryOp .FloorDiv) (rA CDivW fun i j => i / j) := OpR.imp op_fdivW fun x y H Q ⟨i, j, k, h1, h2, hc, h3, q⟩ => ⟨i, j, h1, h2, hc, by subst h3; exact q⟩
theorem op_inC : OpR X (compareOp .In) (rInC X.K false) := OpR.imp op_in_seq fun x y H Q ⟨p, xs, c, h1, h2, h3, h4, h5, q⟩ => ⟨p, xs, h1, h2, h3, h4, by subst h5; exact q⟩
theorem op_niC : OpR X (compareOp .NotIn) (rInC X.K true) := OpR.imp op_notIn_seq fun x y H Q ⟨p, xs, c, h1, h2, h3, h4, h5, q⟩ => ⟨p, xs, h1, h2, h3, h4, by subst h5; exact q⟩
theorem op_eqDC (hu : X.A.units + 64 < cLine) : OpR X (compareOp .Eq) (rEqDC X.K) := OpR.imp (op_eqD hu) fun x y H Q ⟨d, e, c, h1, h2, h3, h4, h5, q⟩ => ⟨d, e, h1, h2, h3, h4, by rw [h5]; exact q⟩
theorem op_neDC (hu : X.A.units + 64 < cLine) : OpR X (compareOp .NotEq) (rNeDC X.K) := OpR.imp (op_neD hu) fun x y H Q ⟨d, e, c, h1, h2, h3, h4, h5, q⟩ => ⟨d, e, h1, h2, h3, h4, by rw [h5]; exact q⟩
end

/-! ### data whose text is short -/
mutual
def wt : PyData → Nat
  | .none => 4
  | .bool _ => 5
  | .int _ => 1921
  | .str x => (reprText x).length
  | .list xs => wtAll xs + 2
  | .tuple xs => wtAll xs + 3
  | .dict _ => 0
def wtAll : List PyData → Nat
  | [] => 0
  | x :: xs => wt x + 2 + wtAll xs
end
/-- d: no dict within, not deeper than k, its text not longer than n -/
structure Fine (k n : Nat) (d : PyData) : Prop where
  lay : d.canLay0 = true
  sh : d.showable = true
  nd : d.hasDict = false
  dep : d.depth ≤ k
  sz : wt d ≤ n
structure FineL (k n : Nat) (ds : List PyData) : Prop where
  lay : PyData.canLayAll0 ds = true
  sh : PyData.showableAll ds = true
  nd : PyData.hasDictAll ds = false
  dep : PyData.depthAll ds ≤ k
  sz : wtAll ds ≤ n
theorem Fine.none : Fine 0 4 .none := ⟨rfl, rfl, rfl, Nat.le_refl _, Nat.le_refl _⟩
theorem Fine.bool (b : Bool) : Fine 0 5 (.bool b) := ⟨rfl, rfl, rfl, Nat.le_refl _, Nat.le_refl _⟩
theorem Fine.int {i : Int} (h : i.natAbs.log2 < 1920) : Fine 0 1921 (.int i) :=
  ⟨rfl, by show decide _ = true; exact decide_eq_true h, rfl, Nat.le_refl _, Nat.le_refl _⟩
theorem Fine.str {x : Str} (h : PyData.canLay0 (.str x) = true) : Fine 0 (reprText x).length (.str x) := ⟨h, rfl, rfl, Nat.le_refl _, Nat.le_refl _⟩
theorem Fine.up {k n k' n' : Nat} {d : PyData} (h : Fine k n d) (hk : k ≤ k') (hn : n ≤ n') : Fine k' n' d :=
  ⟨h.lay, h.sh, h.nd, Nat.le_trans h.dep hk, Nat.le_trans h.sz hn⟩
theorem FineL.nil : FineL 0 0 [] := ⟨rfl, rfl, rfl, Nat.le_refl _, Nat.le_refl _⟩
theorem FineL.up {k n k' n' : Nat} {d : List PyData} (h : FineL k n d) (hk : k ≤ k') (hn : n ≤ n') : FineL k' n' d :=
  ⟨h.lay, h.sh, h.nd, Nat.le_trans h.dep hk, Nat.le_trans h.sz hn⟩
theorem FineL.cons {k n m : Nat} {d : PyData} {ds : List PyData} (h : Fine k n d) (hs : FineL k m ds) : FineL k (n + 2 + m) (d :: ds) := by
  refine ⟨?_, ?_, ?_, ?_, ?_⟩
  · show (d.canLay0 && PyData.canLayAll0 ds) = true
    rw [h.lay, hs.lay] <;> rfl
  · show (d.showable && PyData.showableAll ds) = true
    rw [h.sh, hs.sh] <;> rfl
  · show (d.hasDict || PyData.hasDictAll ds) = false
    rw [h.nd, hs.nd] <;> rfl
  · show max d.depth (PyData.depthAll ds) ≤ k
    exact Nat.max_le.mpr ⟨h.dep, hs.dep⟩
  · show wt d + 2 + wtAll ds ≤ n + 2 + m
    have a := h.sz
    have b := hs.sz
    omega
theorem FineL.all {k n : Nat} : ∀ {ds : List PyData}, (∀ d ∈ ds, Fine k n d) → FineL k (ds.length * (n + 2)) ds
  | [], _ => FineL.nil.up (Nat.zero_le _) (Nat.zero_le _)
  | d :: ds, h => ((h d (List.mem_cons_self ..)).up (Nat.le_refl _) (Nat.le_refl _)) |> fun a =>
    (FineL.cons a (FineL.all fun e he => h e (List.mem_cons_of_mem _ he))).up (Nat.le_refl _) (by rw [List.length_cons, Nat.succ_mul]; omega)
theorem Fine.list {k n : Nat} {ds : List PyData} (h : FineL k n ds) : Fine (k + 1) (n + 2) (.list ds) :=
  ⟨h.lay, h.sh, h.nd, Nat.succ_le_succ h.dep, Nat.add_le_add_right h.sz 2⟩
theorem Fine.tuple {k n : Nat} {ds : List PyData} (h : FineL k n ds) : Fine (k + 1) (n + 3) (.tuple ds) :=
  ⟨h.lay, h.sh, h.nd, Nat.succ_le_succ h.dep, Nat.add_le_add_right h.sz 3⟩
def fineB (d : PyData) : Bool := d.canLay0 && d.showable && !d.hasDict && decide (d.depth ≤ 60) && decide (wt d ≤ 16000000)
theorem fineNow {d : PyData} (h : fineB d = true) : Fine 60 16000000 d := by
  unfold fineB at h
  simp only [Bool.and_eq_true, decide_eq_true_eq, Bool.not_eq_true'] at h
  obtain ⟨⟨⟨⟨h1, h2⟩, h3⟩, h4⟩, h5⟩ := h
  exact ⟨h1, h2, h3, h4, h5⟩
theorem bool_text (b : Bool) : ((if b then "True" else "False" : Str)).length ≤ 5 := by cases b <;> decide
theorem int_text {i : Int} (h : i.natAbs.log2 < 1920) : (Str.ofString (toString i)).length ≤ 1921 := int_text_len_1921 h
theorem pile_le : ∀ (ts : List Str), (listText ts).length ≤ piled ts + 2 := by
  intro ts
  unfold listText
  have e2 : (Str.ofString "]").length = 1 := by decide
  have e1 : (Str.ofString "[").length = 1 := by decide
  rw [Str.length_append, e2]
  cases ts with
  | nil => simp only [textFrom, e1, piled_nil]; decide
  | cons t ts =>
    have h0 : ∀ acc : Str, textFrom 0 acc (t :: ts) = textFrom 1 (acc ++ Str.ofString "" ++ t) ts := fun _ => rfl
    rw [h0, textFrom_length_pos ts 1 _ (by decide), Str.length_append, Str.length_append, e1, piled_cons]
    have e0 : (Str.ofString "").length = 0 := by decide
    rw [e0]
    omega
theorem tup_le : ∀ (ts : List Str), (tupleText ts).length ≤ piled ts + 3 := by
  intro ts
  unfold tupleText
  have e1 : (Str.ofString "(").length = 1 := by decide
  have e3 : ((if ts.length == 1 then ",)" else ")" : String) : Str).length ≤ 2 := by split <;> decide
  rw [Str.length_append, Str.length_append, e1]
  by_cases h : ts = []
  · subst h
    have : (Str.join (Str.ofString ", ") []).length = 0 := by decide
    rw [this, piled_nil]
    omega
  · have := join_length_add ts h
    omega
mutual
theorem shown_le : ∀ (d : PyData), d.showable = true → d.hasDict = false → d.shown.length ≤ wt d
  | .none, _, _ => by decide
  | .bool b, _, _ => bool_text b
  | .int i, h, _ => int_text (by simpa [PyData.showable] using h)
  | .str x, _, _ => Nat.le_refl _
  | .list xs, h, hn => by
    have a := shownL_le xs (by simpa [PyData.showable] using h) (by simpa [PyData.hasDict] using hn)
    show (listText (PyData.shownAll xs)).length ≤ wtAll xs + 2
    have := pile_le (PyData.shownAll xs)
    omega
  | .tuple xs, h, hn => by
    have a := shownL_le xs (by simpa [PyData.showable] using h) (by simpa [PyData.hasDict] using hn)
    show (tupleText (PyData.shownAll xs)).length ≤ wtAll xs + 3
    have := tup_le (PyData.shownAll xs)
    omega
  | .dict kvs, _, hn => by simp [PyData.hasDict] at hn
theorem shownL_le : ∀ (ds : List PyData), PyData.showableAll ds = true → PyData.hasDictAll ds = false → piled (PyData.shownAll ds) ≤ wtAll ds
  | [], _, _ => by simp [PyData.shownAll, piled_nil, wtAll]
  | d :: ds, h, hn => by
    have h' : (d.showable && PyData.showableAll ds) = true := h
    have hn' : (d.hasDict || PyData.hasDictAll ds) = false := hn
    rw [Bool.and_eq_true] at h'
    rw [Bool.or_eq_false_iff] at hn'
    have a := shown_le d h'.1 hn'.1
    have b := shownL_le ds h'.2 hn'.2
    show piled (d.shown :: PyData.shownAll ds) ≤ wt d + 2 + wtAll ds
    rw [piled_cons]
    omega
end
/-! ### repr of data -/
def rRepr (K : PySem.W.Frag) : List V → Hp → VK → Prop := fun xs H Q =>
  ∃ x d, xs = [x] ∧ Dp K H x d ∧ Fine 60 16000000 d ∧ Q (.str d.shown) H
theorem call_repr {X : Cx} (hg : X.A.guards = some []) (hu : X.A.units + 64 < cLine) : CallR X (.builtin "repr") (rRepr X.K) := by
  intro pins st σ H xs us Q I rv h
  obtain ⟨x, d, rfl, hd, hf, q⟩ := h
  obtain ⟨u, rfl, ru⟩ := vals1 rv
  obtain ⟨as, rd⟩ := Dp.reads I d x u hd ru
  have hz : d.shown.length ≤ sizeLine := by
    have a := shown_le d hf.sh hf.nd
    have b := hf.sz
    rw [sizeLine_eq]
    omega
  have fin : ∀ t tk, EP X pins σ Q (.str d.shown t) { st with toks := tk } := fun t tk => ⟨.str d.shown, H, I.tok tk, ⟨t, rfl⟩, q⟩
  have big : ∀ a, u = .ref a → wpAny (model X.prog X.w) X.A (call (.builtin "repr") [u]) (EP X pins σ Q) X.xe st := fun a e => by
    subst e
    have hdp := hf.dep
    exact repr_of_reads' rd hf.sh (PyData.noDict_hsm hf.nd) hg (by omega) (fun _ _ e => e)
      (fun h' t tk hk => ⟨.str d.shown, H, I.kept hk, ⟨t, rfl⟩, q⟩) hz
  cases rd with
  | none => exact PySem.P.repr_of_none (fin _ _)
  | bool b => exact PySem.P.repr_of_bool (fin _ _)
  | int i t => exact PySem.P.repr_of_int (by simpa [PyData.showable] using hf.sh) (fin _ _)
  | str y t => exact PySem.P.repr_of_str (fin _ _) hz
  | list a1 a2 a3 a4 => exact big _ rfl
  | tuple a1 a2 a3 a4 => exact big _ rfl
  | dict a1 a2 a3 a4 a5 => exact absurd hf.nd (by simp [PyData.hasDict])
end My

set_option Elab.async false
set_option maxRecDepth 100000
/-! Defs whose promise is shown where no repr is going on. -/
namespace My
open PySem L2 PySem.Spec PyProof.Rows

/-- as FnOk (no exception leaves), where it is known that nothing is being shown -/
structure FnG (P : Program) (w : World) (K : PySem.W.Frag) (mg : Str → Option Value) (base : Heap) (k : Nat)
    (f : Addr) (fd : FuncData) (ps : List Str) (sp : Sp) : Prop where
  len : ∀ vs H Q E, sp vs H Q E → vs.length = ps.length
  run : ∀ (A : Around) (out : List Env) (st : Shared) (H : Hp) (ar : Args) (us : List Value) (vs : List V) (Q : VK) (E : XK),
    Room k A → A.guards = some [] → Env0 P w K mg base A out st H → BindsTo st fd ar (ps.zip us) →
    Vals vs us → sp vs H Q E → codeAny (model P w) A (.call (.ref f) ar) (CR CX0 out P w H st Q E) st
section
variable {P : Program} {w : World} {K : PySem.W.Frag} {mg : Str → Option Value} {base : Heap} {k : Nat}
  {f : Addr} {fd : FuncData} {ps : List Str} {sp : Sp}
theorem FnG.of (F : FnOk P w K mg base CX0 k f fd ps sp) : FnG P w K mg base k f fd ps sp :=
  ⟨F.len, fun A out st H ar us vs Q E hr _ => F.run A out st H ar us vs Q E hr⟩
theorem FnG.mono {j : Nat} (F : FnG P w K mg base j f fd ps sp) (h : j ≤ k) : FnG P w K mg base k f fd ps sp :=
  ⟨F.len, fun A out st H ar us vs Q E hr => F.run A out st H ar us vs Q E (hr.mono h)⟩
end

section
variable {X : Cx} {k : Nat} {f : Addr} {fd : FuncData} {ps : List Str} {sp : Sp} {x : Str} {p pos : Pos} {e : Expr} {es : List Expr} {t : TA}
theorem run_g {pins : List (Addr × Obj)} {σ : L2.St} {H : Hp} {st : Shared} {Q : VK} {us : List Value} {vs : List V}
    (F : FnG X.prog X.w X.K X.mg X.base k f fd ps sp) (hr : Room k X.A) (hg : X.A.guards = some []) (hb : Binds X.K fd ps [])
    (I : Inv X pins σ H st) (r : Vals vs us) (h : sp vs H Q E0) :
    wpAny (model X.prog X.w) X.A (call (.ref f) us) (EP X pins σ Q) X.xe st := by
  have hl : (us ++ ([] : List Value)).length = ps.length := by
    rw [List.append_nil, ← r.length]
    exact F.len _ _ _ _ h
  have hb' := hb st us I.kIn hl
  rw [List.append_nil] at hb'
  refine wpAny_call (codeAny_mono (F.run X.A X.stack st H ⟨us, []⟩ us vs Q E0 hr hg I.env0 hb' r h) ?_)
  intro res st' hq
  match res, hq with
  | .error _, hq => exact False.elim hq
  | .ok (.ret _), hq => exact I.after hq
  | .ok .next, hq => exact False.elim hq
  | .ok .brk, hq => exact False.elim hq
  | .ok .cont, hq => exact False.elim hq
theorem pe_callG (F : FnG X.prog X.w X.K X.mg X.base k f fd ps sp) (hr : Room k X.A) (hg : X.A.guards = some []) (gl : Gl X x)
    (hm : X.mg x = some (.ref f)) (hk : PySem.W.keepIn X.K (.ref f) = true) (hb : Binds X.K fd ps []) (ha : PA X (e :: es) t)
    (hdb : (x == ("__debug__" : Str)) = false := by decide) (he : starEach (e :: es) X.env = (false, eval e X.env) :: starEach es X.env := by rfl)
    (hpl : (backTo pos (starEach es X.env)).any (·.1) = false := by rfl) : PE X (.Call (.Name x p) (e :: es) [] pos) (tCall sp [] E0 t) := by
  constructor
  intro pins st σ H Q I h
  refine wpAny_Call_Name_kw (ld_glob I gl hm ?_ hdb)
  refine PySem.W.callWith_K (h₀ := X.base) I.ok.mod.kin hk (thn (ha.run pos pins st σ H _ I h) ?_) he hpl
  rintro us s1 ⟨vs, H1, I1, r, q⟩
  have q' : sp vs H1 Q E0 := by
    have q2 : sp (vs ++ []) H1 Q E0 := q
    rwa [List.append_nil] at q2
  exact ⟨I1.kIn, run_g F hr hg hb I1 r q'⟩
theorem pe_callG0 (F : FnG X.prog X.w X.K X.mg X.base k f fd ps sp) (hr : Room k X.A) (hg : X.A.guards = some []) (gl : Gl X x)
    (hm : X.mg x = some (.ref f)) (hk : PySem.W.keepIn X.K (.ref f) = true) (hb : Binds X.K fd ps [])
    (hdb : (x == ("__debug__" : Str)) = false := by decide) : PE X (.Call (.Name x p) [] [] pos) (tCall sp [] E0 tNil) := by
  constructor
  intro pins st σ H Q I h
  have q2 : sp ([] ++ []) H Q E0 := h
  exact wpAny_Call_Name_kw (ld_glob I gl hm (PySem.W.callWith_K0 I.kIn hk (run_g (us := []) F hr hg hb I .nil q2)) hdb)
end

/-- a def by its body, where nothing is being shown -/
theorem okG {P : Program} {w : World} {K : PySem.W.Frag} {mg : Str → Option Value} {base : Heap} {x qual : Str} {sm : Stmt} {f : Addr} {fd : FuncData}
    {N ps : List Str} {k : Nat} {sp : Sp} (F : Fun K x qual sm f fd) (S : FnScope N ps (defScope sm)) (len : ∀ vs H Q E, sp vs H Q E → vs.length = ps.length)
    (hbody : ∀ (cdv : Value) (A : Around) (out : List Env) (st : Shared) (H : Hp) (vs : List V) (Q : VK) (E : XK),
      Room k (A.deeper (envOfC qual (defScope sm) st.heap.objs.size f cdv)) → (A.deeper (envOfC qual (defScope sm) st.heap.objs.size f cdv)).guards = some [] → sp vs H Q E →
      ∃ t, PSs (cxOf CX0 P w K mg base N qual (defScope sm) f cdv A out st H E).nox (defBody sm) t ∧ t { nx := fun _ H' => Q .non H', rt := Q } (start N vs) H) :
    FnG P w K mg base (k + 1) f fd ps sp := by
  obtain ⟨oc, od, kV, doc, pm, an, cdv, ct, osl, rfl, lk, hcd⟩ := F.ex
  refine ⟨len, ?_⟩
  intro A out st H ar us vs Q E hr hgd e0 hb rv hsp
  have n1 := len _ _ _ _ hsp
  have kin : K.In st.heap := e0.mod.kin.keeps fun b o z => (e0.bs b o z).1
  have lim : st.heap.NoLimit := e0.mod.nolimit.keeps fun b o z => (e0.bs b o z).1
  have kinds : ∀ y ∈ ps.zip us, (defScope sm).names.lookup y.1 = some .local ∨
      ((defScope sm).names.lookup y.1 = some .cell ∧ ((cellsFrom (st.heap.objs.size + 1) (defScope sm).names []).lookup y.1).isSome = true) := by
    rintro ⟨n, v⟩ hy
    rcases S.par n (List.of_mem_zip hy).1 with q | q
    · exact .inl q
    · exact .inr ⟨q, PySem.W.cellsFrom_some _ _ _ (.inl q)⟩
  refine codeAny_call_function hr.depth (kin _ _ lk) rfl S.co S.gen rfl (PySem.W.codeRec_of kin hcd) (hb _ _ _ _ ?_)
  refine wpAny_newFunctionEnv_cells S.kind kinds ?_
  intro env he s1 x1
  subst he
  obtain ⟨t, ht, hq⟩ := hbody cdv A out st H vs Q E (hr.deeper _) hgd hsp
  refine ⟨lim.keeps x1.toInCall.keep, codeAny_func ?_⟩
  have I : Inv (cxOf CX0 P w K mg base N qual (defScope sm) f cdv A out st H E) [] (start N vs) H s1 := inv_start S hr.hd e0 n1 rv x1
  refine wpAny_mono (ht.nox.run [] s1 (start N vs) H _ I hq) ?_ fun e s' hs => hs
  intro fl s' hs
  match fl, hs with
  | .ret u, hs =>
    obtain ⟨v, σ', H', J, rv', q⟩ := hs
    exact ⟨v, H', J.os, J.bare, J.base, J.hok, rv', q⟩
  | .next, hs =>
    obtain ⟨σ', H', J, q⟩ := hs
    exact ⟨.non, H', J.os, J.bare, J.base, J.hok, rfl, q⟩
  | .brk, hs =>
    obtain ⟨_, _, _, q⟩ := hs
    exact False.elim q
  | .cont, hs =>
    obtain ⟨_, _, _, q⟩ := hs
    exact False.elim q

/-- one def of the text, as it stands behind the top -/
structure Df (K : PySem.W.Frag) (mg : Str → Option Value) (name : Str) (sm : Stmt) (ps : List Str) where
  f : Addr
  fd : FuncData
  F : Fun K name name sm f fd
  mg : mg name = some (.ref f)
  kp : PySem.W.keepIn K (.ref f) = true
  b : Binds K fd ps []
end My

set_option Elab.async false
set_option maxRecDepth 100000
/-! The law's own call, from a promise that may lean on it that nothing is being shown. -/
namespace My
open PySem L2 PySem.Spec PyProof.Rows

def lawEnd (st : Shared) : Result → Shared → Prop := fun r s' =>
  r = .ok (.ret (.bool true)) ∧ OldK st.heap s'.heap ∧ s'.os = st.os ∧ AllBare s'.gens

/-- from an abstract heap in which at most the script stands -/
theorem law_from {P : Program} {w : World} {K : PySem.W.Frag} {mg mb : Str → Option Value} {k : Nat} {fa a : Addr} {fd : FuncData} {x : Str} {sp : Sp}
    {st : Shared} {vs : List Value} {H : Hp}
    (KX : K.In st.heap) (hns : st.heap.Ns mainGlobals mg) (hb : st.heap.Ns builtinsNs mb) (hbb : ∀ y : Str, y ≠ "__name__" → mb y = bootBuiltins y)
    (hlim : st.heap.NoLimit) (hgn : st.gens = #[]) (ha : st.heap.get? a = some { cls := .type "list", data := .seq vs.toArray }) (hr : Room k callerA)
    (F : ∀ base : Heap, K.In base → base.Ns mainGlobals mg → FnG P w K mg base k fa fd [x] sp)
    (hbind : ∀ (s : Shared) (u : Value), BindsTo s fd ⟨[u], []⟩ [(x, u)])
    (hsp : sp [.ref a] H (fun v _ => v = .bl true) fun _ _ _ => False)
    (hO : Only H) (hok : HOk P w H st.heap) (hA : ∀ b, H b ≠ none → b = a) (hK : H a ≠ none → K.lookup a = none) :
    codeAny (model P w) callerA (.call (.ref fa) ⟨[.ref a], []⟩) (lawEnd st) st := by
  have isA : ∀ {b : Addr} {u : HO}, H b = some u → b = a := fun {b u} q => hA b (by rw [q]; simp)
  have dictFree : ∀ {b : Addr} {o : Obj} {es : Array DictEntry} {ep : Nat}, st.heap.get? b = some o → o.data = .dict es ep → H b = none := by
    intro b o es ep e d
    match q : H b with
    | none => rfl
    | some u =>
      obtain rfl := isA q
      rw [ha] at e
      cases e
      cases (show Data.seq vs.toArray _ = Data.dict es ep from d)
  have nsOf : ∀ {b : Addr} {m : Str → Option Value}, st.heap.Ns b m → (hidT st.heap H).Ns b m := by
    rintro b m ⟨o, es, ep, e, d, r⟩
    exact ⟨o, es, ep, hidT_get e (dictFree e d), d, r⟩
  have kin : K.In (hidT st.heap H) := by
    intro b o e
    refine hidT_get (KX b o e) ?_
    match q : H b with
    | none => rfl
    | some u =>
      obtain rfl := isA q
      rw [hK (by rw [q]; simp)] at e
      cases e
  have md : Mod K mg (hidT st.heap H) := by
    obtain ⟨mc, l1, l2⟩ := hlim
    exact ⟨kin, nsOf hns, ⟨mb, nsOf hb, hbb⟩, ⟨mc, nsOf l1, l2⟩⟩
  have e0 : Env0 P w K mg (hidT st.heap H) callerA [] st H := by
    refine ⟨rfl, md, fun b o e => of_hidT e, Nat.le_of_eq (hidT_size _ _), trivial, ?_, hok, .of_eq hgn⟩
    intro b hb'
    cases (show b ∈ ([] : List Addr) from hb')
  have go := (F _ kin (nsOf hns)).run callerA [] st H ⟨[.ref a], []⟩ [.ref a] [.ref a] _ _ hr rfl e0 (hbind st (.ref a)) (.cons rfl .nil) hsp
  refine codeAny_mono go ?_
  intro r s' h
  match r, h with
  | .error _, h => exact False.elim h
  | .ok .next, h => exact False.elim h
  | .ok .brk, h => exact False.elim h
  | .ok .cont, h => exact False.elim h
  | .ok (.ret u), h =>
    obtain ⟨v, H', os, bare, un, hok', rr, q⟩ := h
    have q' : v = .bl true := q
    subst q'
    obtain rfl : u = Value.bool true := rr
    refine ⟨rfl, OldK.of_keep ?_, os, bare⟩
    intro b o e
    match q : H b with
    | none =>
      refine un.keep b o e q (fun z => ?_) (by simp)
      cases (show b ∈ ([] : List Addr) from z)
    | some u =>
      rcases hO b with z | ⟨ob, xs, z⟩
      · rw [q] at z
        cases z
      · obtain ⟨e1, _⟩ := hok b _ z
        obtain ⟨e2, _⟩ := hok' b _ (un.frzs b ob _ z)
        rw [e] at e1
        cases e1
        exact e2

theorem law_runs {P : Program} {w : World} {K : PySem.W.Frag} {mg mb : Str → Option Value} {k : Nat} {fa a : Addr} {fd : FuncData} {x : Str} {sp : Sp}
    {st : Shared} {vs : List Value} {ns : List Int}
    (KX : K.In st.heap) (hns : st.heap.Ns mainGlobals mg) (hb : st.heap.Ns builtinsNs mb) (hbb : ∀ y : Str, y ≠ "__name__" → mb y = bootBuiltins y)
    (hlim : st.heap.NoLimit) (hgn : st.gens = #[]) (ha : st.heap.get? a = some { cls := .type "list", data := .seq vs.toArray })
    (hi : IntsAre vs ns) (hl : ns.length ≤ sizeLine) (hr : Room k callerA)
    (F : ∀ base : Heap, K.In base → base.Ns mainGlobals mg → FnG P w K mg base k fa fd [x] sp)
    (hbind : ∀ (s : Shared) (u : Value), BindsTo s fd ⟨[u], []⟩ [(x, u)])
    (hsp : ∀ H : Hp, Only H → SqL K H a (ns.map V.int) → sp [.ref a] H (fun v _ => v = .bl true) fun _ _ _ => False) :
    codeAny (model P w) callerA (.call (.ref fa) ⟨[.ref a], []⟩) (lawEnd st) st := by
  have rv := vals_ints hi
  have n1 := hi.length
  match hk : K.lookup a with
  | some o =>
    have e := KX a o hk
    rw [ha] at e
    cases e
    have hO : Only fun _ => none := fun _ => .inl rfl
    have hS : SqL K (fun _ => none) a (ns.map V.int) :=
      .inr ⟨_, vs.toArray, _, hk, rfl, rfl, rfl, by rw [List.size_toArray, n1]; exact hl, by simpa using rv⟩
    refine law_from KX hns hb hbb hlim hgn ha hr F hbind (hsp _ hO hS) hO ?_ (fun b z => absurd rfl z) fun z => absurd rfl z
    intro b u z
    cases (show (none : Option HO) = some u from z)
  | none =>
    let H : Hp := fun b => if b = a then some (.frz { cls := .type "list", data := .seq vs.toArray } (.lst (ns.map V.int))) else none
    have at_a : H a = some (.frz { cls := .type "list", data := .seq vs.toArray } (.lst (ns.map V.int))) := if_pos rfl
    have off : ∀ b, b ≠ a → H b = none := fun b n => if_neg n
    have hO : Only H := fun b => by
      by_cases n : b = a
      · subst n
        exact .inr ⟨_, _, at_a⟩
      · exact .inl (off b n)
    refine law_from KX hns hb hbb hlim hgn ha hr F hbind (hsp H hO (.inl (.inr ⟨_, at_a⟩))) hO ?_ ?_ fun _ => hk
    · intro b u z
      by_cases n : b = a
      · subst n
        rw [at_a] at z
        cases z
        exact ⟨ha, by rw [List.length_map]; exact hl, vs, _, rv, ha⟩
      · rw [off b n] at z
        cases z
    · intro b z
      by_cases n : b = a
      · exact n
      · exact absurd (off b n) z

/-- the goal behind the head -/
theorem walkG {l : PySem.W.OpenLaw} {k : Nat} {q : Program} {loose : List Str} {XP : (Str → Option Value) → Heap → Prop} {YP : World → Heap → Prop}
    {d : DefRec} {K : Params → PySem.W.Frag} {x : Str} (sp : PySem.W.Frag → Sp) (hn : l.most = some 63) (hdf : d.params.defaults = []) (hr : Room k callerA)
    (hY : ∀ (w : World) (h : Heap), YP w h → (K w.params).In h)
    (F : ∀ (w : World) (mg : Str → Option Value) (fa : Addr) (h : Heap), (K w.params).In h → h.Ns mainGlobals mg → mg d.name = some (.ref fa) →
      ∃ fd : FuncData, (∀ (s : Shared) (u : Value), BindsTo s fd ⟨[u], []⟩ [(x, u)]) ∧
        ∀ base : Heap, (K w.params).In base → base.Ns mainGlobals mg → FnG l.prog w (K w.params) mg base k fa fd [x] (sp (K w.params)))
    (hsp : ∀ (K : PySem.W.Frag) (H : Hp) (a : Addr) (ns : List Int), ns.length ≤ 63 → SqL K H a (ns.map V.int) → sp K [.ref a] H (fun v _ => v = .bl true) fun _ _ _ => False) :
    PySem.W.WalkO q loose XP YP l.row.toRowW d [] (fun f vs => PySem.call f vs) := by
  refine Att.attach_call hn hdf ?_
  intro w s₀ st mg mb fa o pm cd doc a vs ns G Y ho hd hcd hmg hobj hints hlen hgn
  obtain ⟨fd, hb, hF⟩ := F w mg fa _ (hY w _ Y) G.T.g hmg
  exact law_runs (hY w _ Y) G.T.g G.T.b G.T.builtins G.T.nolimit hgn hobj hints (Nat.le_trans hlen (by decide)) hr hF hb
    fun H _ hS => hsp _ H a ns hlen hS
end My

set_option Elab.async false
set_option maxRecDepth 100000
/-! The law's bag of draws: what stands of it behind each draw. -/
namespace My
open PySem L2 PySem.Spec PyProof.Rows

/-- the bag at b has its numbers at l -/
def Cl (H : Hp) (b l : Addr) : Prop := ∃ z m k : Int, H b = some (.lst [.int z, .int m, .int k, .ref l])
/-- what was tracked is as it was, but the bag, which has its numbers where they were -/
structure Keep (b : Addr) (H H' : Hp) : Prop where
  st : ∀ a o, H a = some o → a ≠ b → H' a = some o
  cl : ∀ l, Cl H b l → Cl H' b l
instance {b : Addr} {H H' : Hp} : CoeFun (Keep b H H') (fun _ => ∀ a o, H a = some o → a ≠ b → H' a = some o) := ⟨Keep.st⟩
theorem Keep.refl {b : Addr} {H : Hp} : Keep b H H := ⟨fun _ _ h _ => h, fun _ h => h⟩
theorem Keep.trans {b : Addr} {H H1 H2 : Hp} (h : Keep b H H1) (g : Keep b H1 H2) : Keep b H H2 := ⟨fun a o e n => g.st a o (h.st a o e n) n, fun l c => g.cl l (h.cl l c)⟩
theorem Keep.of {b : Addr} {H H' : Hp} (h : Same H H') : Keep b H H' := ⟨fun a o e _ => h a o e, fun l ⟨z, m, k, e⟩ => ⟨z, m, k, h _ _ e⟩⟩
theorem Same.new {H : Hp} {p : Addr} {o : HO} (h : H p = none) : Same H (upd H p o) := fun a u e => by
  rw [upd_ne (ne_of_none e h)]
  exact e
theorem Same.mut {H H' : Hp} {p : Addr} {o : HO} (h : H p = none) (s : Same H H') : Same H (upd H' p o) := fun a u e => by
  rw [upd_ne (ne_of_none e h)]
  exact s a u e
theorem Keep.new {b : Addr} {H H' : Hp} {p : Addr} {o : HO} (k : Keep b H H') (h : H' p = none) : Keep b H (upd H' p o) := k.trans (.of (Same.new h))

/-- the bag at b -/
structure BagAt (H : Hp) (b l : Addr) (z m : Int) (k : Nat) (cs : List Int) : Prop where
  ob : H b = some (.lst [.int z, .int m, .int (k : Int), .ref l])
  cl : H l = some (.lst (cs.map V.int))
  z0 : 0 ≤ z
  m0 : 0 ≤ m
  m1 : m < 2147483647
  c0 : ∀ c ∈ cs, 0 ≤ c
  len : cs.length ≤ 63
def Bag (H : Hp) (b : Addr) : Prop := ∃ l z m k cs, BagAt H b l z m k cs
theorem BagAt.ne {H : Hp} {b l : Addr} {z m : Int} {k : Nat} {cs : List Int} (B : BagAt H b l z m k cs) : l ≠ b := by
  intro e
  have h1 := B.ob
  rw [← e, B.cl] at h1
  have h2 := HO.lst.inj (Option.some.inj h1)
  have h3 : V.ref l ∈ cs.map V.int := by rw [h2]; simp
  obtain ⟨c, _, hc⟩ := List.mem_map.mp h3
  cases hc
theorem BagAt.same {H H' : Hp} {b l : Addr} {z m : Int} {k : Nat} {cs : List Int} (B : BagAt H b l z m k cs) (s : Same H H') : BagAt H' b l z m k cs :=
  ⟨s _ _ B.ob, s _ _ B.cl, B.z0, B.m0, B.m1, B.c0, B.len⟩
theorem Bag.same {H H' : Hp} {b : Addr} (B : Bag H b) (s : Same H H') : Bag H' b := by
  obtain ⟨l, z, m, k, cs, B⟩ := B
  exact ⟨l, z, m, k, cs, B.same s⟩
theorem Bag.some {H : Hp} {b : Addr} (B : Bag H b) : ∃ o, H b = some o := by
  obtain ⟨l, z, m, k, cs, B⟩ := B
  exact ⟨_, B.ob⟩
/-- the bag written -/
theorem BagAt.put {H : Hp} {b l : Addr} {z m : Int} {k : Nat} {cs : List Int} (B : BagAt H b l z m k cs) {z' m' : Int} {k' : Nat} (h0 : 0 ≤ z') (h1 : 0 ≤ m') (h2 : m' < 2147483647) :
    BagAt (upd H b (.lst [.int z', .int m', .int (k' : Int), .ref l])) b l z' m' k' cs :=
  ⟨upd_same, by rw [upd_ne B.ne]; exact B.cl, h0, h1, h2, B.c0, B.len⟩
theorem keep_upd {H : Hp} {b l : Addr} {z m : Int} {k : Nat} {cs : List Int} (B : BagAt H b l z m k cs) {z' m' k' : Int} : Keep b H (upd H b (.lst [.int z', .int m', .int k', .ref l])) := by
  refine ⟨fun a u e n => by rw [upd_ne n]; exact e, ?_⟩
  rintro l' ⟨y, n, i, e⟩
  rw [B.ob] at e
  have e1 := HO.lst.inj (Option.some.inj e)
  have e2 : l = l' := (by simpa using e1 : _ ∧ _ ∧ _ ∧ _).2.2.2
  subst e2
  exact ⟨_, _, _, upd_same⟩
theorem Keep.mut {b p : Addr} {H H' : Hp} {o : HO} (h : H p = none) (hb : p ≠ b) (k : Keep b H H') : Keep b H (upd H' p o) := by
  refine ⟨fun a u e n => by rw [upd_ne (ne_of_none e h)]; exact k.st a u e n, fun l c => ?_⟩
  obtain ⟨z, m, i, e⟩ := k.cl l c
  exact ⟨z, m, i, by rw [upd_ne hb.symm]; exact e⟩
/-- a list made beside the bag may be changed -/
theorem Bag.mutK {H H' : Hp} {b p : Addr} {o : HO} (B : Bag H b) (hp : H p = none) (k : Keep b H H') (B' : Bag H' b) : Bag (upd H' p o) b := by
  obtain ⟨l, z, m, n, cs, B⟩ := B
  obtain ⟨l', z', m', n', cs', B'⟩ := B'
  obtain ⟨y, i, j, e⟩ := k.cl l ⟨_, _, _, B.ob⟩
  rw [B'.ob] at e
  have e1 := HO.lst.inj (Option.some.inj e)
  have e2 : l' = l := (by simpa using e1 : _ ∧ _ ∧ _ ∧ _).2.2.2
  subst e2
  have n1 : b ≠ p := ne_of_none B.ob hp
  have n2 : l' ≠ p := ne_of_none B.cl hp
  exact ⟨l', z', m', n', cs', ⟨by rw [upd_ne n1]; exact B'.ob, by rw [upd_ne n2]; exact B'.cl, B'.z0, B'.m0, B'.m1, B'.c0, B'.len⟩⟩
theorem Bag.ne {H : Hp} {b p : Addr} (B : Bag H b) (hp : H p = none) : p ≠ b := by
  obtain ⟨o, e⟩ := B.some
  exact (ne_of_none e hp).symm
def spBag (K : PySem.W.Frag) : Sp := fun vs H Q _ => ∃ (a : Addr) (ns : List Int), vs = [.ref a] ∧ SqL K H a (ns.map V.int) ∧ ns.length ≤ 63 ∧
  ∀ (b : Addr) (H' : Hp), H b = none → Bag H' b → Same H H' → Q (.ref b) H'
/-- not too great for a divisor -/
def Small (n : Int) : Prop := n.natAbs < 2 ^ 9000
def spTake : Sp := fun vs H Q _ => ∃ (b : Addr) (n : Int), vs = [.ref b, .int n] ∧ Bag H b ∧ 0 < n ∧ Small n ∧
  ∀ (r : Int) (H' : Hp), 0 ≤ r → r < n → Bag H' b → Keep b H H' → Q (.int r) H'
def spOne : Sp := fun vs H Q _ => ∃ (b l : Addr) (xs : List V), vs = [.ref b, .ref l] ∧ Bag H b ∧ H l = some (.lst xs) ∧ l ≠ b ∧ 0 < xs.length ∧ xs.length ≤ 100000 ∧
  ∀ (v : V) (H' : Hp), v ∈ xs → Bag H' b → Keep b H H' → Q v H'
def spAlike (K : PySem.W.Frag) : Sp := fun vs H Q _ => ∃ (x y : V) (d : PyData), vs = [x, y] ∧ Dp K H x d ∧ Dp K H y d ∧ Fine 60 16000000 d ∧ Q (.bl true) H

theorem shaped_of {k n : Nat} {d : PyData} (h : Fine k n d) (hk : k ≤ 64) : SeqAt.shaped d = true := by
  unfold SeqAt.shaped
  rw [h.lay, decide_eq_true (Nat.le_trans h.dep hk)] <;> rfl
theorem dec_is {x : V} {i : Int} {b : Bool} (h : decide (x = V.int i) = b) : decide (x = V.int i) = b := h
theorem int_of_dec {i j : Int} (h : decide (V.int i = V.int j) = true) : i = j := by
  have h1 := of_decide_eq_true h
  exact V.int.inj h1
theorem fmod_pos {a n : Int} (h : 0 < n) : 0 ≤ a.fmod n ∧ a.fmod n < n := by
  rw [Int.fmod_eq_emod_of_nonneg a (Int.le_of_lt h)]
  exact ⟨Int.emod_nonneg a (by omega), Int.emod_lt_of_pos a h⟩
end My

set_option Elab.async false
set_option maxRecDepth 100000
/-! Fractions as rational numbers; their sizes; Euclid's steps. -/
namespace My
/-- the divisor with the sign of b -/
def dv (t b : Int) : Int := if b < 0 then -((Nat.gcd t.natAbs b.natAbs : Nat) : Int) else ((Nat.gcd t.natAbs b.natAbs : Nat) : Int)
theorem gcd_pos' {t b : Int} (hb : b ≠ 0) : 0 < Nat.gcd t.natAbs b.natAbs := Nat.gcd_pos_of_pos_right _ (by omega)
theorem dv_ne {t b : Int} (hb : b ≠ 0) : dv t b ≠ 0 := by
  have := gcd_pos' (t := t) hb
  unfold dv
  split <;> omega
theorem dv_abs {t b : Int} : (dv t b).natAbs = Nat.gcd t.natAbs b.natAbs := by
  unfold dv
  split <;> omega
theorem dv_le {t b : Int} (hb : b ≠ 0) : (dv t b).natAbs ≤ b.natAbs := by
  rw [dv_abs]
  exact Nat.le_of_dvd (by omega) (Nat.gcd_dvd_right _ _)
theorem divInt_fd {t b : Int} (hb : b ≠ 0) : t.fdiv (dv t b) = (Rat.divInt t b).num ∧ b.fdiv (dv t b) = ((Rat.divInt t b).den : Int) := by
  have hg := gcd_pos' (t := t) hb
  match b, hb with
  | Int.ofNat d, hb =>
    have hd : d ≠ 0 := fun e => hb (by subst e; rfl)
    have e1 : Rat.divInt t (Int.ofNat d) = Rat.normalize t d hd := by
      show mkRat t d = _
      unfold mkRat
      rw [dif_neg hd]
    have e2 : dv t (Int.ofNat d) = ((t.natAbs.gcd d : Nat) : Int) := by
      unfold dv
      rw [if_neg (by simp)]
      rfl
    rw [e1, Rat.normalize_eq, e2]
    have h0 : (0 : Int) ≤ ((t.natAbs.gcd d : Nat) : Int) := Int.natCast_nonneg _
    constructor
    · show t.fdiv _ = t / _
      rw [Int.fdiv_eq_ediv_of_nonneg _ h0]
    · show (Int.ofNat d).fdiv _ = ((d / _ : Nat) : Int)
      rw [Int.fdiv_eq_ediv_of_nonneg _ h0]
      rfl
  | Int.negSucc d, hb =>
    have e1 : Rat.divInt t (Int.negSucc d) = Rat.normalize (-t) d.succ (Nat.succ_ne_zero d) := rfl
    have e2 : dv t (Int.negSucc d) = -((t.natAbs.gcd (d + 1) : Nat) : Int) := by
      unfold dv
      rw [if_pos (Int.negSucc_lt_zero d)]
      rfl
    rw [e1, Rat.normalize_eq, e2]
    have e3 : (-t).natAbs = t.natAbs := Int.natAbs_neg t
    have hp : (0 : Int) < ((t.natAbs.gcd (d + 1) : Nat) : Int) := by
      have : 0 < t.natAbs.gcd (d + 1) := hg
      omega
    constructor
    · show t.fdiv (-((t.natAbs.gcd (d + 1) : Nat) : Int)) = (-t) / (((-t).natAbs.gcd (d + 1) : Nat) : Int)
      rw [e3, ← Int.fdiv_eq_ediv_of_nonneg _ (Int.le_of_lt hp)]
      have := Int.neg_fdiv_neg (-t) ((t.natAbs.gcd (d + 1) : Nat) : Int)
      rw [Int.neg_neg] at this
      exact this
    · show (Int.negSucc d).fdiv (-((t.natAbs.gcd (d + 1) : Nat) : Int)) = (((d + 1) / ((-t).natAbs.gcd (d + 1)) : Nat) : Int)
      have h3 : Int.negSucc d = -((d + 1 : Nat) : Int) := rfl
      rw [e3, h3, Int.neg_fdiv_neg, Int.fdiv_eq_ediv_of_nonneg _ (Int.le_of_lt hp)]
      rfl
theorem fdiv_le {x g : Int} (hg : g ≠ 0) (h : g ∣ x) : (x.fdiv g).natAbs ≤ x.natAbs := by
  obtain ⟨c, rfl⟩ := h
  rw [Int.mul_fdiv_cancel_left _ hg, Int.natAbs_mul]
  exact Nat.le_mul_of_pos_left _ (by omega)
theorem num_le {t b : Int} (hb : b ≠ 0) : (Rat.divInt t b).num.natAbs ≤ t.natAbs := by
  rw [← (divInt_fd (t := t) hb).1]
  refine fdiv_le (dv_ne hb) ?_
  rw [← Int.natAbs_dvd_natAbs, dv_abs]
  exact Nat.gcd_dvd_left _ _
theorem den_le {t b : Int} (hb : b ≠ 0) : (Rat.divInt t b).den ≤ b.natAbs := by
  have h := (divInt_fd (t := t) hb).2
  have h2 : (b.fdiv (dv t b)).natAbs ≤ b.natAbs := by
    refine fdiv_le (dv_ne hb) ?_
    rw [← Int.natAbs_dvd_natAbs, dv_abs]
    exact Nat.gcd_dvd_right _ _
  rw [h] at h2
  simpa using h2
theorem den0 (q : Rat) : (q.den : Int) ≠ 0 := by
  have := q.den_pos
  omega
theorem q_add (p q : Rat) : Rat.divInt (p.num * (q.den : Int) + q.num * (p.den : Int)) ((p.den : Int) * (q.den : Int)) = p + q := by
  rw [← Rat.divInt_add_divInt _ _ (den0 p) (den0 q), Rat.num_divInt_den, Rat.num_divInt_den]
theorem q_sub (p q : Rat) : Rat.divInt (p.num * (q.den : Int) - q.num * (p.den : Int)) ((p.den : Int) * (q.den : Int)) = p - q := by
  have h : p - q = p + -q := by grind
  have hn : (-q).num = -q.num := rfl
  have hd : (-q).den = q.den := rfl
  rw [h, ← q_add p (-q), hn, hd]
  congr 1
  rw [Int.neg_mul]
  omega
theorem q_mul (p q : Rat) : Rat.divInt (p.num * q.num) ((p.den : Int) * (q.den : Int)) = p * q := by
  rw [← Rat.divInt_mul_divInt, Rat.num_divInt_den, Rat.num_divInt_den]
theorem q_div (p q : Rat) : Rat.divInt (p.num * (q.den : Int)) ((p.den : Int) * q.num) = p / q := by
  rw [← Rat.divInt_mul_divInt, Rat.num_divInt_den, Rat.div_def, Rat.inv_def]
theorem q_num0 {q : Rat} : q.num ≠ 0 ↔ q ≠ 0 := by
  constructor
  · intro h e
    subst e
    exact h rfl
  · intro h e
    exact h (Rat.num_eq_zero.mp e)
/-- not greater than n bits above and below -/
structure Bq (k : Nat) (q : Rat) : Prop where
  n : q.num.natAbs < 2 ^ k
  d : q.den < 2 ^ k
theorem Bq.up {n m : Nat} {q : Rat} (h : Bq n q) (l : n ≤ m) : Bq m q :=
  ⟨Nat.lt_of_lt_of_le h.n (Nat.pow_le_pow_right (by decide) l), Nat.lt_of_lt_of_le h.d (Nat.pow_le_pow_right (by decide) l)⟩
theorem bq_divInt {n : Nat} {t b : Int} (hb : b ≠ 0) (h1 : t.natAbs < 2 ^ n) (h2 : b.natAbs < 2 ^ n) : Bq n (Rat.divInt t b) :=
  ⟨Nat.lt_of_le_of_lt (num_le hb) h1, Nat.lt_of_le_of_lt (den_le hb) h2⟩
theorem mul_lt {a b : Int} {n m : Nat} (h1 : a.natAbs < 2 ^ n) (h2 : b.natAbs < 2 ^ m) : (a * b).natAbs < 2 ^ (n + m) := by
  rw [Int.natAbs_mul, Nat.pow_add]
  exact Nat.mul_lt_mul'' h1 h2
theorem add_lt {a b : Int} {n : Nat} (h1 : a.natAbs < 2 ^ n) (h2 : b.natAbs < 2 ^ n) : (a + b).natAbs < 2 ^ (n + 1) := by
  have : 2 ^ (n + 1) = 2 ^ n + 2 ^ n := by rw [Nat.pow_succ]; omega
  rw [this]
  omega
theorem sub_lt {a b : Int} {n : Nat} (h1 : a.natAbs < 2 ^ n) (h2 : b.natAbs < 2 ^ n) : (a - b).natAbs < 2 ^ (n + 1) := by
  have : 2 ^ (n + 1) = 2 ^ n + 2 ^ n := by rw [Nat.pow_succ]; omega
  rw [this]
  omega
theorem den_abs (q : Rat) : ((q.den : Int)).natAbs = q.den := Int.natAbs_natCast _
theorem Bq.add {n m : Nat} {p q : Rat} (hp : Bq n p) (hq : Bq m q) : Bq (n + m + 1) (p + q) := by
  rw [← q_add]
  have hd : ((p.den : Int) * (q.den : Int)).natAbs < 2 ^ (n + m) := mul_lt (by rw [den_abs]; exact hp.d) (by rw [den_abs]; exact hq.d)
  refine bq_divInt (Int.mul_ne_zero (den0 p) (den0 q)) (add_lt ?_ ?_) (Nat.lt_of_lt_of_le hd (Nat.pow_le_pow_right (by decide) (by omega)))
  · exact mul_lt hp.n (by rw [den_abs]; exact hq.d)
  · rw [Nat.add_comm n m]
    exact mul_lt hq.n (by rw [den_abs]; exact hp.d)
theorem Bq.neg {n : Nat} {q : Rat} (hq : Bq n q) : Bq n (-q) := ⟨by show (-q.num).natAbs < _; rw [Int.natAbs_neg]; exact hq.n, hq.d⟩
theorem Bq.sub {n m : Nat} {p q : Rat} (hp : Bq n p) (hq : Bq m q) : Bq (n + m + 1) (p - q) := by
  have h : p - q = p + -q := by grind
  rw [h]
  exact hp.add hq.neg
theorem Bq.mul {n m : Nat} {p q : Rat} (hp : Bq n p) (hq : Bq m q) : Bq (n + m) (p * q) := by
  rw [← q_mul]
  exact bq_divInt (Int.mul_ne_zero (den0 p) (den0 q)) (mul_lt hp.n hq.n) (mul_lt (by rw [den_abs]; exact hp.d) (by rw [den_abs]; exact hq.d))
theorem Bq.div {n m : Nat} {p q : Rat} (hp : Bq n p) (hq : Bq m q) (h0 : q ≠ 0) : Bq (n + m) (p / q) := by
  rw [← q_div]
  exact bq_divInt (Int.mul_ne_zero (den0 p) (q_num0.mpr h0)) (mul_lt hp.n (by rw [den_abs]; exact hq.d)) (mul_lt (by rw [den_abs]; exact hp.d) hq.n)
/-! ### the steps of Euclid's way -/
theorem half_step {h l : Nat} (hl : 0 < l) (h1 : l ≤ h) : l * (h % l) * 2 < h * l + 1 := by
  have h2 : h % l < l := Nat.mod_lt _ hl
  have h3 : l * (h / l) + h % l = h := Nat.div_add_mod h l
  have h4 : 1 ≤ h / l := (Nat.le_div_iff_mul_le hl).mpr (by omega)
  have h5 : l ≤ l * (h / l) := Nat.le_mul_of_pos_right _ h4
  have h6 : h % l * 2 ≤ h := by omega
  have h7 : l * (h % l * 2) ≤ l * h := Nat.mul_le_mul_left _ h6
  rw [Nat.mul_assoc, Nat.mul_comm h l]
  omega
/-- behind i turns: what is left of the two is small -/
def Left (N i h l : Nat) : Prop := h * l * 2 ^ (i - 1) < 2 ^ N ∧ (1 ≤ i → l ≤ h)
theorem Left.start {N h l : Nat} (hh : h * l < 2 ^ N) : Left N 0 h l := ⟨by simpa using hh, fun z => absurd z (by decide)⟩
theorem Left.step {N i h l : Nat} (L : Left N i h l) (hl : 0 < l) : Left N (i + 1) l (h % l) := by
  obtain ⟨h1, h2⟩ := L
  have h3 : h % l < l := Nat.mod_lt _ hl
  refine ⟨?_, fun _ => Nat.le_of_lt h3⟩
  match i, h1, h2 with
  | 0, h1, _ =>
    have h4 : h % l ≤ h := Nat.mod_le _ _
    have h5 : l * (h % l) ≤ h * l := by rw [Nat.mul_comm h l]; exact Nat.mul_le_mul_left _ h4
    simp at h1 ⊢
    omega
  | i + 1, h1, h2 =>
    have h4 := half_step hl (h2 (by omega))
    show l * (h % l) * 2 ^ (i + 1) < 2 ^ N
    have h6 : h * l * 2 ^ i < 2 ^ N := h1
    rw [Nat.pow_succ, Nat.mul_comm (2 ^ i) 2, ← Nat.mul_assoc]
    exact Nat.lt_of_le_of_lt (Nat.mul_le_mul_right _ (by omega)) h6
theorem Left.done {N i h l : Nat} (L : Left N i h l) (hi : N + 1 ≤ i) : l = 0 := by
  obtain ⟨h1, h2⟩ := L
  have h3 := h2 (by omega)
  match l, h1, h3 with
  | 0, _, _ => rfl
  | l + 1, h1, h3 =>
    exfalso
    have h4 : 1 ≤ h * (l + 1) := Nat.mul_pos (by omega) (by omega)
    have h5 : 2 ^ N ≤ 2 ^ (i - 1) := Nat.pow_le_pow_right (by decide) (by omega)
    have h6 : 2 ^ (i - 1) ≤ h * (l + 1) * 2 ^ (i - 1) := Nat.le_mul_of_pos_left _ h4
    omega
end My

set_option Elab.async false
set_option maxRecDepth 100000
/-! Numbers by their figures, floors by any divisor. -/
namespace My
open PySem L2 PySem.Spec PyProof.Rows
/-- // by any divisor but nought -/
def rDivZ : R2 := fun x y H Q => ∃ i j k, x = .int i ∧ y = .int j ∧ j ≠ 0 ∧ j.natAbs < 2 ^ 9000 ∧ i.fdiv j = k ∧ Q (.int k) H
theorem op_fdivZ {X : Cx} : OpR X (binaryOp .FloorDiv) rDivZ := by
  intro pins st σ H x y v u Q I rx ry h
  obtain ⟨i, j, k, rfl, rfl, hj, hz, rfl, q⟩ := h
  obtain ⟨t, rfl⟩ := rx
  obtain ⟨t', rfl⟩ := ry
  exact floordiv_int hj ⟨.int _, H, I.tok _, ⟨_, rfl⟩, q⟩ (.inl (PyProof.noPylong_of_log2 (PySem.Flt.log2_lt_of (by decide) hz)))
/-- one sign, so many times -/
theorem rep_sign (c : Nat) : ∀ k : Nat, (List.replicate k (#[c] : Array Nat)).foldl (· ++ ·) #[] = (List.replicate k c).toArray := by
  have go : ∀ (k : Nat) (acc : Array Nat), (List.replicate k (#[c] : Array Nat)).foldl (· ++ ·) acc = acc ++ (List.replicate k c).toArray := by
    intro k
    induction k with
    | zero => intro acc; simp
    | succ k ih =>
      intro acc
      rw [List.replicate_succ, List.foldl_cons, ih]
      apply Array.ext'
      simp [List.replicate_succ]
  intro k
  rw [go]
  simp
def rRepS : R2 := fun x y H Q => ∃ c k : Nat, x = .str ⟨#[c]⟩ ∧ y = .int (k : Int) ∧ k ≤ 100000 ∧ Q (.str ⟨(List.replicate k c).toArray⟩) H
theorem op_repS {X : Cx} : OpR X (binaryOp .Mult) rRepS := by
  intro pins st σ H x y v u Q I rx ry h
  obtain ⟨c, k, rfl, rfl, hk, q⟩ := h
  obtain ⟨t, rfl⟩ := rx
  obtain ⟨t', rfl⟩ := ry
  have e1 : (⟨#[c]⟩ : Str).length = 1 := rfl
  refine PySem.P.mul_str ?_ ?_ ?_ ?_
  · rw [decide_eq_false (by omega), decide_eq_false (by omega)]
    rfl
  · intro h1 _
    rw [e1]
    have : (1 : Int) ≤ (2 ^ 63 - 1) / (k : Int) := by
      refine (Int.le_ediv_iff_mul_le (by omega)).mpr ?_
      omega
    omega
  · intro _ _
    rw [e1]
    unfold Builtin.Str.tooLong
    rw [sizeLine_eq]
    exact decide_eq_false (by omega)
  · have e2 : ∀ tk tk', EP X pins σ Q (.str ⟨(List.replicate k c).toArray⟩ tk) { st with toks := tk' } := fun tk tk' => ⟨.str _, H, I.tok _, ⟨_, rfl⟩, q⟩
    by_cases h1 : (k : Int) < 1
    · rw [if_pos h1]
      have : k = 0 := by omega
      subst this
      exact ⟨by decide, e2 _ _⟩
    · rw [if_neg h1]
      by_cases h2 : ((k : Int) == 1 || (⟨#[c]⟩ : Str).length == 0) = true
      · rw [if_pos h2]
        have h3 : ((k : Int) == 1 || false) = true := h2
        have : k = 1 := by
          rw [Bool.or_false] at h3
          have := eq_of_beq h3
          omega
        subst this
        exact ⟨.str _, H, I, ⟨_, rfl⟩, q⟩
      · rw [if_neg h2]
        have e3 : ((k : Int)).toNat = k := Int.toNat_natCast k
        rw [e3]
        have e4 : (⟨(List.replicate k (⟨#[c]⟩ : Str).cps).foldl (· ++ ·) #[]⟩ : Str) = ⟨(List.replicate k c).toArray⟩ := congrArg Str.mk (rep_sign c k)
        rw [e4]
        exact ⟨by
          show ((List.replicate k c).toArray).size ≤ sizeLine
          rw [List.size_toArray, List.length_replicate, sizeLine_eq]
          omega, e2 _ _⟩
/-- a one and so many noughts -/
def pw (k : Nat) : List Nat := 49 :: List.replicate k 48
theorem pw_val (k : Nat) : NumText.digitsVal (pw k) = 10 ^ k := by
  have go : ∀ (k acc : Nat), (List.replicate k 48).foldl (fun a c => a * 10 + (c - 48)) acc = acc * 10 ^ k := by
    intro k
    induction k with
    | zero => intro acc; simp
    | succ k ih =>
      intro acc
      rw [List.replicate_succ, List.foldl_cons, ih, Nat.pow_succ]
      show (acc * 10 + (48 - 48)) * 10 ^ k = acc * (10 ^ k * 10)
      rw [Nat.sub_self, Nat.add_zero, Nat.mul_assoc, Nat.mul_comm 10]
  show (List.replicate k 48).foldl (fun a c => a * 10 + (c - 48)) (0 * 10 + (49 - 48)) = 10 ^ k
  rw [go]
  simp
theorem pw_int {k : Nat} (h : k ≤ 4000) : intText? (SX.S (pw k)) = some ((10 ^ k : Nat) : Int) := by
  rw [SX.int_S (a := pw k) ?_ (List.cons_ne_nil _ _) ?_, pw_val]
  · show (decide _ && decide _ && (List.replicate k 48).all _) = true
    rw [Bool.and_eq_true]
    exact ⟨rfl, List.all_eq_true.mpr fun x hx => by rw [List.eq_of_mem_replicate hx]; rfl⟩
  · show (List.replicate k 48).length + 1 ≤ 4300
    rw [List.length_replicate]
    omega
theorem pw_cat (k : Nat) : (Str.ofString "1" ++ (⟨(List.replicate k 48).toArray⟩ : Str)) = SX.S (pw k) := by
  have : (Str.ofString "1") = SX.S [49] := by decide
  rw [this]
  exact SX.S_cat [49] (List.replicate k 48)
theorem pw_len (k : Nat) : (SX.S (pw k)).length = k + 1 := by
  rw [SX.S_len]
  show (List.replicate k 48).length + 1 = k + 1
  rw [List.length_replicate]
theorem small64 {n : Int} (h : n.natAbs < 2 ^ 64) : Small n := Nat.lt_of_lt_of_le h (Nat.pow_le_pow_right (by decide) (by decide))
theorem small_of {n : Int} {k : Nat} (h : n.natAbs < 2 ^ k) (hk : k ≤ 9000) : Small n := Nat.lt_of_lt_of_le h (Nat.pow_le_pow_right (by decide) hk)
theorem mulok_of {i j : Int} {a b : Nat} (ha : i.natAbs < 2 ^ a) (hb : j.natAbs < 2 ^ b) (h0 : 0 < a) (h1 : 0 < b) (h : a + b ≤ 1000000) : MulOk i j := .inr (wide_mul ha hb h0 h1 h)
/-- ten to the k in bits -/
theorem ten_bits (k : Nat) : 10 ^ k ≤ 2 ^ (4 * k) := by
  rw [Nat.pow_mul]
  exact Nat.pow_le_pow_left (by decide) k
theorem bits_of {n k : Nat} (h : n < 10 ^ k) : n < 2 ^ (4 * k) := Nat.lt_of_lt_of_le h (ten_bits k)
/-- the rational number q as a tuple -/
def FracAt (H : Hp) (x : V) (q : Rat) : Prop := ∃ a, x = .ref a ∧ H a = some (.tup [.int q.num, .int (q.den : Int)])
theorem FracAt.same {H H' : Hp} {x : V} {q : Rat} (f : FracAt H x q) (s : Same H H') : FracAt H' x q := by
  obtain ⟨a, e, h⟩ := f
  exact ⟨a, e, s _ _ h⟩
theorem FracAt.dp {K : PySem.W.Frag} {H : Hp} {x : V} {q : Rat} (f : FracAt H x q) : Dp K H x (.tuple [.int q.num, .int (q.den : Int)]) := by
  obtain ⟨a, rfl, h⟩ := f
  exact .tup (SqT.of h) (.cons (.int _) (.cons (.int _) .nil))
def spFigures : Sp := fun vs H Q _ => ∃ (b : Addr) (m : Nat), vs = [.ref b, .int (m : Int)] ∧ Bag H b ∧ 0 < m ∧ m ≤ 600 ∧
  ∀ (r : Nat) (H' : Hp), r < 10 ^ (m + 3) → Bag H' b → Keep b H H' → Q (.int (r : Int)) H'
def spSigned : Sp := fun vs H Q _ => ∃ (b : Addr) (m : Nat), vs = [.ref b, .int (m : Int)] ∧ Bag H b ∧ 0 < m ∧ m ≤ 600 ∧
  ∀ (r : Int) (H' : Hp), r.natAbs < 10 ^ (m + 3) → Bag H' b → Keep b H H' → Q (.int r) H'
def spLDivisor : Sp := fun vs H Q _ => ∃ a b : Int, vs = [.int a, .int b] ∧ a.natAbs < 2 ^ 5000 ∧ b.natAbs < 2 ^ 5000 ∧ Q (.int ((Nat.gcd a.natAbs b.natAbs : Nat) : Int)) H
def spLowest : Sp := fun vs H Q _ => ∃ t b : Int, vs = [.int t, .int b] ∧ b ≠ 0 ∧ t.natAbs < 2 ^ 5000 ∧ b.natAbs < 2 ^ 5000 ∧
  ∀ p H', H p = none → H' p = some (.tup [.int (Rat.divInt t b).num, .int ((Rat.divInt t b).den : Int)]) → Same H H' → Q (.ref p) H'
def spFrac : Sp := fun vs H Q _ => ∃ (b : Addr) (m : Nat), vs = [.ref b, .int (m : Int)] ∧ Bag H b ∧ 0 < m ∧ m ≤ 600 ∧
  ∀ (p : Addr) (q : Rat) (H' : Hp), H p = none → H' p = some (.tup [.int q.num, .int (q.den : Int)]) → Bq (4 * (m + 3) + 1) q → Bag H' b → Keep b H H' → Q (.ref p) H'
theorem way_tab : ∀ w : Nat, w < 3 → ∃ n : Nat, ([V.int 4, .int 13, .int 1000] : List V)[w]? = some (.int (n : Int)) ∧ 0 < n ∧ n ≤ 1000 := by
  intro w hw
  match w, hw with
  | 0, _ => exact ⟨4, rfl, by decide, by decide⟩
  | 1, _ => exact ⟨13, rfl, by decide, by decide⟩
  | 2, _ => exact ⟨1000, rfl, by decide, by decide⟩
theorem keep_none {b : Addr} {H H' : Hp} (k : Keep b H H') {a : Addr} (h : H' a = none) (hb : a ≠ b) : H a = none := by
  match e : H a with
  | none => rfl
  | some o =>
    rw [k a o e hb] at h
    cases h
end My

set_option Elab.async false
set_option maxRecDepth 100000
/-! Anything: its type, its text; things that stay. -/
namespace My
open PySem L2 PySem.Spec PyProof.Rows

/-! ### isinstance of anything, an error too -/
inductive TyZ (K : PySem.W.Frag) (H : Hp) : V → Value → Prop
  | tx {x : V} {t : Value} (h : TyX K H x t) : TyZ K H x t
  | ex {a D : Addr} (h : H a = some (ExO (.ref D) a)) (c : ExcC K D) : TyZ K H (.ref a) (.ref D)
def rIsiZ (K : PySem.W.Frag) : List V → Hp → VK → Prop := fun xs H Q =>
  ∃ (x c : V) (t u : Value) (b : Bool), xs = [x, c] ∧ ClsV c u ∧ TyZ K H x t ∧ PySem.W.kitOne K t u = some b ∧ Q (.bl b) H
theorem call_isiZ {X : Cx} : CallR X (.builtin "isinstance") (rIsiZ X.K) := by
  intro pins st σ H xs us Q I r h
  obtain ⟨x, c, t, u, b, rfl, k, ty, e, q⟩ := h
  cases ty with
  | tx h => exact call_isi pins st σ H [x, c] us Q I r ⟨x, c, t, u, b, rfl, k, h, e, q⟩
  | @ex a D h C =>
    obtain ⟨u1, u2, rfl, r1, r2⟩ := vals2 r
    have e2 := k.eq r2
    subst e2
    cases r1
    obtain ⟨⟨oe, vs, ho, hz, hd, _⟩, _, _⟩ := I.hok a _ h
    have J : PySem.W.InstAt st.heap a oe D none := by
      obtain ⟨oc, od, oda, osl⟩ := oe
      obtain ⟨h1, h2⟩ := hz
      dsimp only at h1 h2 hd
      subst h1 h2 hd
      exact ⟨ho, rfl, rfl, trivial⟩
    exact PySem.W.kia_one (PySem.W.handS_kitx_exc C.hg C.hk C.hs C.hd C.ha C.hn C.ht C.hm) I.kIn J e (fun z => nomatch z) fun tk => ⟨.bl b, H, I.kept (t' := tk) fun _ _ z => z, rfl, q⟩

/-! ### repr of a dict -/
def keyD : Key → PyData
  | .inl i => .int i
  | .inr x => .str x
mutual
def noList : PyData → Bool
  | .none | .bool _ | .int _ | .str _ => true
  | .list _ => false
  | .tuple xs => noListAll xs
  | .dict _ => false
def noListAll : List PyData → Bool
  | [] => true
  | x :: xs => noList x && noListAll xs
end
mutual
theorem reads_noList {h : Heap} : ∀ (d : PyData) (v : Value) (as : List Addr), Reads h v d as → noList d = true → as = []
  | .none, _, _, r, _ => by cases r; rfl
  | .bool _, _, _, r, _ => by cases r; rfl
  | .int _, _, _, r, _ => by cases r; rfl
  | .str _, _, _, r, _ => by cases r; rfl
  | .list _, _, _, _, h => by cases h
  | .dict _, _, _, _, h => by cases h
  | .tuple ds, _, _, r, h => by
    cases r with
    | tuple _ _ _ r => exact readsAll_noList ds _ _ r h
theorem readsAll_noList {h : Heap} : ∀ (ds : List PyData) (v : List Value) (as : List Addr), ReadsAll h v ds as → noListAll ds = true → as = []
  | [], _, _, r, _ => by cases r; rfl
  | d :: ds, _, _, r, h => by
    have h' : (noList d && noListAll ds) = true := h
    rw [Bool.and_eq_true] at h'
    cases r with
    | cons r rs => rw [reads_noList d _ _ r h'.1, readsAll_noList ds _ _ rs h'.2] <;> rfl
end
theorem kv_keys {P : Program} {w : World} {h : Heap} : ∀ {kvs : List (Key × V)} {vs : List (Key × Value)} {es : List DictEntry}, KV kvs vs → Pairs (mixKind P w) es vs → ReadsAll h (es.map (·.key)) (kvs.map fun p => keyD p.1) []
  | _, _, _, .nil, .nil => .nil
  | (k, v) :: kvs, _, _, .cons hk t, .cons (e := e) h1 h2 h3 => by
    have e1 : keyIs k e.key = true := by
      have h1' := h1
      rw [← hk.1] at h1'
      exact h1'
    have r : Reads h e.key (keyD k) [] := by
      rcases keyIs_shape e1 with ⟨i, tk, rfl, ev⟩ | ⟨x, tk, rfl, ev⟩
      · rw [ev]; exact .int i tk
      · rw [ev]; exact .str x tk
    exact ReadsAll.cons (as := []) (bs := []) r (kv_keys t h3)
theorem kv_vals {P : Program} {w : World} : ∀ {kvs : List (Key × V)} {vs : List (Key × Value)} {es : List DictEntry}, KV kvs vs → Pairs (mixKind P w) es vs → Vals (kvs.map (·.2)) (es.map (·.val))
  | _, _, _, .nil, .nil => .nil
  | (k, v) :: kvs, _, _, .cons hk t, .cons (e := e) h1 h2 h3 => by
    have r : L2.RelV v e.val := by
      rw [h2]
      exact hk.2
    exact Paired.cons r (kv_vals t h3)
/-- a dict's data: keys ints and texts, values without lists -/
structure DkD (K : PySem.W.Frag) (H : Hp) (a : Addr) (kvs : List (Key × V)) (ds : List PyData) : Prop where
  at_ : H a = some (.dK kvs)
  vals : DpAll K H (kvs.map (·.2)) ds
  nl : noListAll ds = true
theorem zip_fst : ∀ {kvs : List (Key × V)} {ds : List PyData}, kvs.length = ds.length → ((kvs.map fun p => keyD p.1).zip ds).map (·.1) = kvs.map fun p => keyD p.1
  | [], [], _ => rfl
  | _ :: kvs, _ :: ds, h => by
    rw [List.map_cons, List.zip_cons_cons, List.map_cons, zip_fst (by simpa using h)]
theorem zip_snd : ∀ {kvs : List (Key × V)} {ds : List PyData}, kvs.length = ds.length → ((kvs.map fun p => keyD p.1).zip ds).map (·.2) = ds
  | [], [], _ => rfl
  | _ :: kvs, d :: ds, h => by
    rw [List.map_cons, List.zip_cons_cons, List.map_cons, zip_snd (by simpa using h)]
theorem dpAll_len {K : PySem.W.Frag} {H : Hp} : ∀ {vs : List V} {ds : List PyData}, DpAll K H vs ds → vs.length = ds.length
  | _, _, .nil => rfl
  | _, _, .cons _ t => by rw [List.length_cons, List.length_cons, dpAll_len t]
def dictD (kvs : List (Key × V)) (ds : List PyData) : PyData := .dict ((kvs.map fun p => keyD p.1).zip ds)
theorem DkD.reads {X : Cx} {pins : List (Addr × Obj)} {σ : L2.St} {H : Hp} {st : Shared} {a : Addr} {kvs : List (Key × V)} {ds : List PyData} (D : DkD X.K H a kvs ds) (I : Inv X pins σ H st) :
    ∃ as, Reads st.heap (.ref a) (dictD kvs ds) as ∧ sysModules ∉ as := by
  obtain ⟨hz, hne, vs, kv, o, es, ep, ho, hx, hdt, hk, hp, hnd⟩ := I.hok a _ D.at_
  have hl : kvs.length = ds.length := by
    have := dpAll_len D.vals
    rwa [List.length_map] at this
  obtain ⟨bs, rv⟩ := Dp.readsAll I ds _ _ D.vals (kv_vals kv hp)
  have hb := readsAll_noList _ _ _ rv D.nl
  subst hb
  refine ⟨a :: [] ++ [], .dict ho hx.1 hdt (by rw [zip_fst hl]; exact kv_keys kv hp) (by rw [zip_snd hl]; exact rv), ?_⟩
  intro hm
  have : sysModules = a := by simpa using hm
  subst this
  exact absurd hne (by simp)
def rReprD (K : PySem.W.Frag) : List V → Hp → VK → Prop := fun xs H Q =>
  ∃ a kvs ds, xs = [.ref a] ∧ DkD K H a kvs ds ∧ (dictD kvs ds).showable = true ∧ (dictD kvs ds).depth ≤ 60 ∧ (dictD kvs ds).shown.length ≤ sizeLine ∧ Q (.str (dictD kvs ds).shown) H
/-- data, or a dict of data -/
def rReprZ (K : PySem.W.Frag) : List V → Hp → VK → Prop := fun xs H Q => rRepr K xs H Q ∨ rReprD K xs H Q
theorem call_reprZ {X : Cx} (hg : X.A.guards = some []) (hu : X.A.units + 64 < cLine) : CallR X (.builtin "repr") (rReprZ X.K) := by
  intro pins st σ H xs us Q I rv h
  rcases h with h | ⟨a, kvs, ds, rfl, D, hs, hd, hz, q⟩
  · exact call_repr hg hu pins st σ H xs us Q I rv h
  · obtain ⟨u, rfl, ru⟩ := vals1 rv
    cases ru
    obtain ⟨as, r, hsm⟩ := D.reads I
    exact repr_of_reads' r hs (fun _ => hsm) hg (by omega) (fun _ _ e => e) (fun h' t tk hk => ⟨.str _, H, I.kept hk, ⟨t, rfl⟩, q⟩) hz

/-! ### things that stay as they are, at addresses that are none of N -/
mutual
inductive Dx (H : Hp) (N : Addr → Prop) : V → PyData → Prop
  | non : Dx H N .non .none
  | bl (c : Bool) : Dx H N (.bl c) (.bool c)
  | int (i : Int) : Dx H N (.int i) (.int i)
  | str (x : Str) : Dx H N (.str x) (.str x)
  | lst {a : Addr} {xs : List V} {ds : List PyData} : H a = some (.lst xs) → ¬ N a → DxAll H N xs ds → Dx H N (.ref a) (.list ds)
  | tup {a : Addr} {xs : List V} {ds : List PyData} : H a = some (.tup xs) → ¬ N a → DxAll H N xs ds → Dx H N (.ref a) (.tuple ds)
inductive DxAll (H : Hp) (N : Addr → Prop) : List V → List PyData → Prop
  | nil : DxAll H N [] []
  | cons {v : V} {vs : List V} {d : PyData} {ds : List PyData} : Dx H N v d → DxAll H N vs ds → DxAll H N (v :: vs) (d :: ds)
end
mutual
theorem Dx.dp {K : PySem.W.Frag} {H : Hp} {N : Addr → Prop} : ∀ {v : V} {d : PyData}, Dx H N v d → Dp K H v d
  | _, _, .non => .non
  | _, _, .bl c => .bl c
  | _, _, .int i => .int i
  | _, _, .str x => .str x
  | _, _, .lst h _ t => .lst (SqL.of h) t.dp
  | _, _, .tup h _ t => .tup (SqT.of h) t.dp
theorem DxAll.dp {K : PySem.W.Frag} {H : Hp} {N : Addr → Prop} : ∀ {v : List V} {d : List PyData}, DxAll H N v d → DpAll K H v d
  | _, _, .nil => .nil
  | _, _, .cons h t => .cons h.dp t.dp
end
/-- what is not of N stands in H' as in H -/
def Off (N : Addr → Prop) (H H' : Hp) : Prop := ∀ a o, H a = some o → ¬ N a → H' a = some o
mutual
theorem Dx.off {H H' : Hp} {N M : Addr → Prop} (k : Off N H H') (m : ∀ a, M a → N a) : ∀ {v : V} {d : PyData}, Dx H N v d → Dx H' M v d
  | _, _, .non => .non
  | _, _, .bl c => .bl c
  | _, _, .int i => .int i
  | _, _, .str x => .str x
  | _, _, .lst h n t => .lst (k _ _ h n) (fun z => n (m _ z)) (DxAll.off k m t)
  | _, _, .tup h n t => .tup (k _ _ h n) (fun z => n (m _ z)) (DxAll.off k m t)
theorem DxAll.off {H H' : Hp} {N M : Addr → Prop} (k : Off N H H') (m : ∀ a, M a → N a) : ∀ {v : List V} {d : List PyData}, DxAll H N v d → DxAll H' M v d
  | _, _, .nil => .nil
  | _, _, .cons h t => .cons (Dx.off k m h) (DxAll.off k m t)
end
theorem Off.same {N : Addr → Prop} {H H' : Hp} (s : Same H H') : Off N H H' := fun a o e _ => s a o e
theorem Off.refl {N : Addr → Prop} {H : Hp} : Off N H H := fun _ _ e _ => e
theorem Off.keep {N : Addr → Prop} {b : Addr} {H H' : Hp} (hb : N b) (k : Keep b H H') : Off N H H' := fun a o e n => k.st a o e (by rintro rfl; exact n hb)
theorem Off.upd {N : Addr → Prop} {p : Addr} {H : Hp} {o : HO} (hp : N p) : Off N H (upd H p o) := fun a u e n => by
  rw [upd_ne (by rintro rfl; exact n hp)]
  exact e
theorem Off.trans {N : Addr → Prop} {H H1 H2 : Hp} (h : Off N H H1) (g : Off N H1 H2) : Off N H H2 := fun a o e n => g a o (h a o e n) n
theorem Dx.same {H H' : Hp} {N : Addr → Prop} {v : V} {d : PyData} (s : Same H H') (h : Dx H N v d) : Dx H' N v d := h.off (.same s) fun _ z => z
/-- one of the odd things -/
inductive Odd (H : Hp) (N : Addr → Prop) (v : V) : Prop
  | dat {d : PyData} (h : Dx H N v d) (f : Fine 60 16000000 d) : Odd H N v
  | dic {a : Addr} {kvs : List (Key × V)} (e : v = .ref a) (n : ¬ N a) (h : H a = some (.dK kvs)) (hk : kvs = [] ∨ kvs = [(.inl 0, .int 1)]) : Odd H N v
theorem Odd.off {H H' : Hp} {N M : Addr → Prop} {v : V} (o : Odd H N v) (k : Off N H H') (m : ∀ a, M a → N a) : Odd H' M v := by
  cases o with
  | dat h f => exact .dat (h.off k m) f
  | dic e n h hk => exact .dic e (fun z => n (m _ z)) (k _ _ h n) hk
theorem Odd.at_ {H H' : Hp} {N : Addr → Prop} {v : V} (o : Odd H N v) (k : Off N H H') : Odd H' N v := o.off k fun _ z => z
theorem Odd.int {H : Hp} {N : Addr → Prop} {i : Int} (h : i.natAbs < 2 ^ 1900) : Odd H N (.int i) := .dat (.int i) ((Fine.int (by
  by_cases h0 : i.natAbs = 0
  · rw [h0]
    decide
  · exact Nat.lt_of_lt_of_le ((Nat.log2_lt h0).mpr h) (by decide))).up (by decide) (by decide))
/-- the names of the types of these -/
def kinds : List String := ["NoneType", "bool", "int", "str", "list", "tuple", "dict"]
theorem Odd.ty {K : PySem.W.Frag} {H : Hp} {N : Addr → Prop} {v : V} (o : Odd H N v) : ∃ t, t ∈ kinds ∧ (∀ H', Off N H H' → TyX K H' v (.type t)) ∧ (t = "int" ↔ ∃ i, v = .int i) := by
  cases o with
  | dic e n h hk =>
    subst e
    exact ⟨"dict", by decide, fun H' k => .base (.dK (k _ _ h n)), by simp⟩
  | dat h f =>
    cases h with
    | non => exact ⟨"NoneType", by decide, fun _ _ => .base .non, by simp⟩
    | bl c => exact ⟨"bool", by decide, fun _ _ => .base (.bl c), by simp⟩
    | int i => exact ⟨"int", by decide, fun _ _ => .base (.int i), by simp⟩
    | str x => exact ⟨"str", by decide, fun _ _ => .base (.str x), by simp⟩
    | lst h n t => exact ⟨"list", by decide, fun H' k => .base (.lst (k _ _ h n)), by simp⟩
    | tup h n t => exact ⟨"tuple", by decide, fun H' k => .base (.tup (k _ _ h n)), by simp⟩
theorem odd_repr {K : PySem.W.Frag} {H : Hp} {N : Addr → Prop} {v : V} (o : Odd H N v) : ∃ x : Str, ∀ (H' : Hp) (Q : VK), Off N H H' → Q (.str x) H' → rReprZ K [v] H' Q := by
  cases o with
  | @dat d h f => exact ⟨d.shown, fun H' Q k q => .inl ⟨v, d, rfl, (h.off k fun _ z => z).dp, f, q⟩⟩
  | @dic a kvs e n h hk =>
    subst e
    rcases hk with rfl | rfl
    · exact ⟨(dictD [] []).shown, fun H' Q k q => .inr ⟨a, [], [], rfl, ⟨k _ _ h n, .nil, rfl⟩, rfl, by decide, by decide +kernel, q⟩⟩
    · exact ⟨(dictD [(.inl 0, .int 1)] [.int 1]).shown, fun H' Q k q => .inr ⟨a, [(.inl 0, .int 1)], [.int 1], rfl, ⟨k _ _ h n, .cons (.int 1) .nil, rfl⟩, by decide +kernel, by decide, by decide +kernel, q⟩⟩
theorem kit_ref {K : PySem.W.Frag} {C : Addr} {T : String} {b : Bool} (h : PySem.W.subIn K (.ref C) (.type T) = some b) (hm : PySem.W.kitMeta T = true) : PySem.W.kitOne K (.ref C) (.type T) = some b := by
  unfold PySem.W.kitOne
  rw [if_neg (by intro z; exact nomatch (beq_iff_eq.mp z))]
  show (if PySem.W.kitMeta T = true then _ else _) = _
  rw [if_pos hm]
  exact h
/-- an own error class without __init__ of its own, over ValueError -/
structure ExW (K : PySem.W.Frag) (mg : Str → Option Value) (x : Str) where
  C : Addr
  g : mg x = some (.ref C)
  k : PySem.W.keepIn K (.ref C) = true
  q : PySem.W.excIn K C [.type "ValueError", .type "Exception", .type "BaseException", .type "object"] "ValueError.__new__" = true
  c : ExcC K C
  t : PySem.W.typeIn K (.ref C) = some (.type "type")
  ki : PySem.W.kitOne K (.ref C) (.type "int") = some false
  kb : PySem.W.kitOne K (.ref C) (.type "bool") = some false
def spWholeZ (K : PySem.W.Frag) : Sp := fun vs H Q _ => ∃ (x : V) (t : Value) (bi bb : Bool), vs = [x] ∧ TyZ K H x t ∧ PySem.W.kitOne K t (.type "int") = some bi ∧ PySem.W.kitOne K t (.type "bool") = some bb ∧ Q (.bl (bi && !bb)) H
theorem kinds_whole : ∀ t ∈ kinds, kitB t "int" = some (t == "int" || t == "bool") ∧ kitB t "bool" = some (t == "bool") := by decide +kernel
/-- is_whole of x tells c -/
def WholeZ (K : PySem.W.Frag) (H : Hp) (x : V) (c : Bool) : Prop := ∃ (t : Value) (bi bb : Bool), TyZ K H x t ∧ PySem.W.kitOne K t (.type "int") = some bi ∧ PySem.W.kitOne K t (.type "bool") = some bb ∧ (bi && !bb) = c
theorem WholeZ.int {K : PySem.W.Frag} {H : Hp} (i : Int) : WholeZ K H (.int i) true := ⟨.type "int", true, false, .tx (.base (.int i)), kit_ty (by decide +kernel), kit_ty (by decide +kernel), rfl⟩
theorem WholeZ.err {K : PySem.W.Frag} {mg : Str → Option Value} {x : Str} {H : Hp} {e : Addr} (E : ExW K mg x) (h : H e = some (ExO (.ref E.C) e)) : WholeZ K H (.ref e) false := ⟨.ref E.C, false, false, .ex h E.c, E.ki, E.kb, rfl⟩
/-- an odd thing is a whole number, or it is none -/
theorem odd_cases {K : PySem.W.Frag} {H : Hp} {N : Addr → Prop} {v : V} (o : Odd H N v) : (∃ i : Int, v = .int i ∧ i.natAbs < 2 ^ 1920) ∨ ((∀ i, v ≠ .int i) ∧ ∀ H', Off N H H' → WholeZ K H' v false) := by
  obtain ⟨t, ht, hk, hi⟩ := o.ty (K := K)
  by_cases e : t = "int"
  · left
    obtain ⟨i, rfl⟩ := hi.mp e
    refine ⟨i, rfl, ?_⟩
    cases o with
    | dic e' => cases e'
    | dat h f =>
      cases h
      have f2 := f.sh
      have f3 : i.natAbs.log2 < 1920 := by simpa [PyData.showable] using f2
      by_cases h0 : i.natAbs = 0
      · rw [h0]
        exact Nat.pow_pos (by decide)
      · exact (Nat.log2_lt h0).mp f3
  · right
    refine ⟨fun i e' => e (hi.mpr ⟨i, e'⟩), fun H' k => ?_⟩
    obtain ⟨h1, h2⟩ := kinds_whole t ht
    refine ⟨.type t, _, _, .tx (hk H' k), kit_ty h1, kit_ty h2, ?_⟩
    have : (t == "int") = false := by simpa using e
    rw [this]
    cases (t == "bool") <;> rfl
theorem int_whole {K : PySem.W.Frag} {H : Hp} {i : Int} {Q : VK} {E : XK} (q : Q (.bl true) H) : spWholeZ K [.int i] H Q E :=
  ⟨.int i, .type "int", true, false, rfl, .tx (.base (.int i)), kit_ty (by decide +kernel), kit_ty (by decide +kernel), q⟩
end My

set_option Elab.async false
set_option maxRecDepth 100000
/-! The law's own draws, over its text. -/
namespace My
open PySem L2 PySem.Spec PyProof.Rows
def top (i : Nat) : Stmt := PySem.Challenge.pw_wholepoll_k15_fractions_rounded_and_adde.main.body.getD i (.Pass ⟨0, 0, 0, 0⟩)
/-- the built-in names are the built-in things -/
structure Txt (mg : Str → Option Value) : Prop where
  abs : mg "abs" = none
  int : mg "int" = none
  len : mg "len" = none
  list : mg "list" = none
  range : mg "range" = none
  repr : mg "repr" = none
  sum : mg "sum" = none
  enumerate : mg "enumerate" = none
  isinstance : mg "isinstance" = none
  bool : mg "bool" = none
  str : mg "str" = none
  tuple : mg "tuple" = none
  sorted : mg "sorted" = none
  set : mg "set" = none
  zip : mg "zip" = none
abbrev sLBag : Stmt := top 16
abbrev scLBagN : List Str := ["_law_script", "_law_cell"]
theorem scLBag : FnScope ["_law_script", "_law_cell"] ["_law_script"] (defScope sLBag) :=
  ⟨rfl, rfl, rfl, by decide +kernel, rfl, by decide +kernel, by decide +kernel⟩
abbrev sLTake : Stmt := top 17
abbrev scLTakeN : List Str := ["_law_bag_here", "_law_many", "_law_cell", "_law_mixed", "_law_drawn", "_law_early", "_law_second"]
theorem scLTake : FnScope ["_law_bag_here", "_law_many", "_law_cell", "_law_mixed", "_law_drawn", "_law_early", "_law_second"] ["_law_bag_here", "_law_many"] (defScope sLTake) :=
  ⟨rfl, rfl, rfl, by decide +kernel, rfl, by decide +kernel, by decide +kernel⟩
abbrev sLOne : Stmt := top 19
abbrev scLOneN : List Str := ["_law_bag_here", "_law_some"]
theorem scLOne : FnScope ["_law_bag_here", "_law_some"] ["_law_bag_here", "_law_some"] (defScope sLOne) :=
  ⟨rfl, rfl, rfl, by decide +kernel, rfl, by decide +kernel, by decide +kernel⟩
theorem head_cell {cs : List Int} (h : ∀ c ∈ cs, 0 ≤ c) (lo : Option Int) : ∃ c : Int, 0 ≤ c ∧ (cutV (cs.map V.int) lo none ++ [V.int 0])[0]? = some (.int c) := by
  match e : cutV (cs.map V.int) lo none with
  | [] => exact ⟨0, Int.le_refl 0, rfl⟩
  | v :: vs =>
    have hv : v ∈ cs.map V.int := by
      have : v ∈ cutV (cs.map V.int) lo none := by rw [e]; exact List.mem_cons_self ..
      unfold cutV at this
      exact List.mem_of_mem_drop (List.mem_of_mem_take this)
    obtain ⟨c, hc, rfl⟩ := List.mem_map.mp hv
    exact ⟨c, h c hc, rfl⟩
section
variable {P : Program} {w : World} {K : PySem.W.Frag} {mg : Str → Option Value} {base : Heap}
theorem ok_take {f : Addr} {fd : FuncData} (F : Fun K "_law_take" "_law_take" sLTake f fd) (T : Txt mg) :
    FnOk P w K mg base CX0 1 f fd ["_law_bag_here", "_law_many"] spTake := by
  refine F.ok scLTake (fun vs H Q E h => ?_) (fun cdv A outer s H vs Q E hr h => ?_)
  · obtain ⟨b, n, rfl, _⟩ := h
    rfl
  · obtain ⟨b, n, rfl, ⟨l, z, m, k, cs, B⟩, hn0, hn9, go⟩ := h
    refine ⟨_, (C8.pss_cut (ps_if (pt_cmpR op_eq (pe_ix ix_list (pv 0) pe_int (fun _ _ => rfl)) pe_int (nomark _))
      (pss_cons (ps_set (i := 2) scLTake.nd rfl (.inl rfl) (pe_ix ix_list (pe_op op_cat (pe_slice sl_list (pe_ix ix_list (pv 0) pe_int (fun _ _ => rfl)) (po_some (pe_ix ix_list (pv 0) pe_int (fun _ _ => rfl))) po_none) (pe_lst (pa_cons pe_int pa_nil))) pe_int (fun _ _ => rfl)))
      (pss_cons (ps_augS (pv 0) pe_int My.get_list pe_int ip_add set_list)
      (pss_cons (ps_asg (pe_op op_mul (pv 2) (pe_callTy call_int1 (by rfl) T.int (by decide +kernel) (pa_cons (pe_cmpR op_ge (pv 2) (pe_op op_pow pe_int pe_int) (nomark _)) pa_nil))) (pg_sub (pv 0) pe_int set_list))
      (pss_cons (ps_set (i := 3) scLTake.nd rfl (.inl rfl) (pe_op op_add (pe_op op_add (pe_op op_mul (pe_ix ix_list (pv 0) pe_int (fun _ _ => rfl)) pe_int) (pe_op op_modN (pe_callTy call_int1 (by rfl) T.int (by decide +kernel) (pa_cons (pv 2) pa_nil)) pe_int)) (pe_op op_mul pe_int (pe_ix ix_list (pv 0) pe_int (fun _ _ => rfl)))))
      (pss_one (ps_asg (pe_op op_modN (pe_callTy call_int1 (by rfl) T.int (by decide +kernel) (pa_cons (pv 3) pa_nil)) pe_int) (pg_sub (pv 0) pe_int set_list)))))))
      pss_nil)
    (pss_cons (ps_if (pt_cmpR op_gt (pe_ix ix_list (pv 0) pe_int (fun _ _ => rfl)) pe_int (nomark _))
      (pss_cons (ps_asg (pe_tup (pa_cons (pe_op op_modN (pe_callTy call_int1 (by rfl) T.int (by decide +kernel) (pa_cons (pe_ix ix_list (pv 0) pe_int (fun _ _ => rfl)) pa_nil)) (pv 1)) (pa_cons (pe_op op_fdivW (pe_callTy call_int1 (by rfl) T.int (by decide +kernel) (pa_cons (pe_ix ix_list (pv 0) pe_int (fun _ _ => rfl)) pa_nil)) (pv 1)) pa_nil))) (pg_tup (by rfl) (pgs_cons (pg_name (i := 4) scLTake.nd rfl (.inl rfl)) (pgs_cons (pg_sub (pv 0) pe_int set_list) pgs_nil))))
      (pss_one (ps_ret (pv 4))))
      pss_nil)
    (pss_cons (ps_set (i := 5) scLTake.nd rfl (.inl rfl) (pe_op op_modN (pe_callTy call_int1 (by rfl) T.int (by decide +kernel) (pa_cons (pe_op op_mul (pe_op op_add (pe_ix ix_list (pv 0) pe_int (fun _ _ => rfl)) pe_int) pe_int) pa_nil)) pe_int))
    (pss_cons (ps_set (i := 6) scLTake.nd rfl (.inl rfl) (pe_op op_modN (pe_callTy call_int1 (by rfl) T.int (by decide +kernel) (pa_cons (pe_op op_mul (pe_op op_modN (pe_callTy call_int1 (by rfl) T.int (by decide +kernel) (pa_cons (pe_op op_mul (pv 5) (pv 5)) pa_nil)) pe_int) pe_int) pa_nil)) pe_int))
    (pss_one (ps_ret (pe_op op_modN (pe_callTy call_int1 (by rfl) T.int (by decide +kernel) (pa_cons (pe_op op_fdivW (pv 6) pe_int) pa_nil)) (pv 1)))))))), ?_⟩
    refine ⟨fun σ' H' => ∃ (c m3 : Option V) (z' m' : Int) (k' : Nat), σ' = [some (.ref b), some (.int n), c, m3, none, none, none] ∧ BagAt H' b l z' m' k' cs ∧ Keep b H H', ?_, ?_⟩
    · refine ⟨_, rfl, b, _, 0, _, rfl, rfl, SqL.of B.ob, atI_nat (j := 0) rfl, rfl, _, rfl, ite2 (fun e => ?_) (fun e => ?_)⟩
      · obtain ⟨c, hc0, hc⟩ := head_cell B.c0 (some (k : Int))
        refine ⟨_, rfl, b, _, 3, _, rfl, rfl, SqL.of B.ob, atI_nat (j := 3) rfl, _, rfl, b, _, 2, _, rfl, rfl, SqL.of B.ob, atI_nat (j := 2) rfl, _, rfl, l, _, rfl, SqL.of B.cl, fun p hp => ?_⟩
        refine ⟨by show 1 ≤ sizeLine; decide, fun q hq => ?_⟩
        have np : p ≠ q := ne_of_none upd_same hq
        refine ⟨p, q, _, _, rfl, rfl, by rw [upd_ne np]; exact upd_same, upd_same, ?_, fun r hr' => ?_⟩
        · have h1 := cutV_length (cs.map V.int) (some (k : Int)) none
          have h2 := B.len
          rw [List.length_map] at h1
          show _ + 1 ≤ sizeLine
          rw [sizeLine_eq]
          omega
        have s1 : Same H (upd (upd (upd H p (.lst (cutV (cs.map V.int) (some (k : Int)) none))) q (.lst [V.int 0])) r (.lst (cutV (cs.map V.int) (some (k : Int)) none ++ [V.int 0]))) :=
          ((Same.new hp).trans (Same.new hq)).trans (Same.new hr')
        have B1 := B.same s1
        refine ⟨r, _, 0, _, rfl, rfl, SqL.of upd_same, atI_nat (j := 0) hc, ?_⟩
        refine ⟨_, rfl, b, _, 2, _, rfl, rfl, SqL.of B1.ob, rfl, _, _, rfl, rfl, b, _, 2, 2, rfl, rfl, B1.ob, rfl, ?_⟩
        have B2 := B1.put (k' := k + 1) B.z0 B.m0 B.m1
        refine ⟨_, rfl, _, rfl, _, _, rfl, rfl, ⟨by decide, by decide, by decide⟩, _, _, rfl, rfl, .inr ⟨_, rfl, _, _, rfl, rfl, .inr ⟨by split <;> decide, by split <;> decide⟩, _, rfl, b, _, 0, 0, rfl, rfl, B2.ob, rfl, ?_⟩⟩
        have h0 : 0 ≤ c * (if decide ((10 : Int) ^ (18 : Int).toNat ≤ c) = true then 1 else 0) := Int.mul_nonneg hc0 (by split <;> decide)
        have B3 := B2.put (k' := k + 1) h0 B.m0 B.m1
        rw [upd_upd] at B3
        refine ⟨_, rfl, b, _, 1, _, rfl, rfl, SqL.of upd_same, atI_nat (j := 1) rfl, _, _, rfl, rfl, .inr ⟨by decide, by decide⟩, _, rfl, .inl ⟨_, rfl, _, _, rfl, rfl, (show (2147483647 : Int) ≠ 0 by decide), _, _, rfl, rfl, _, rfl, b, _, 2, _, rfl, rfl, SqL.of upd_same, atI_nat (j := 2) rfl,
          _, _, rfl, rfl, .inl ⟨by decide, by decide⟩, _, _, rfl, rfl, ?_⟩⟩
        refine ⟨_, rfl, .inl ⟨_, rfl, _, _, rfl, rfl, (show (2147483647 : Int) ≠ 0 by decide), _, rfl, b, _, 1, 1, rfl, rfl, upd_same, rfl, ?_⟩⟩
        have hm := fmod_pos (a := m * 48271 + c.fmod 2147483647 + 7919 * ((k + 1 : Nat) : Int)) (n := 2147483647) (by decide)
        have B4 := B3.put (k' := k + 1) h0 hm.1 hm.2
        rw [upd_upd] at B4
        refine ⟨_, _, c * (if decide ((10 : Int) ^ (18 : Int).toNat ≤ c) = true then 1 else 0), (m * 48271 + c.fmod 2147483647 + 7919 * ((k + 1 : Nat) : Int)).fmod 2147483647, k + 1, rfl, ?_, ?_⟩
        · rw [upd_upd, upd_upd]
          exact B4
        · rw [upd_upd, upd_upd]
          exact (Keep.of s1).trans (keep_upd B1)
      · exact ⟨_, _, z, m, k, rfl, B, .refl⟩
    · rintro σ' H' ⟨c, m3, z', m', k', rfl, B', kp⟩
      refine ⟨_, rfl, b, _, 0, _, rfl, rfl, SqL.of B'.ob, atI_nat (j := 0) rfl, _, _, rfl, rfl, _, rfl, ite2 (fun e => ?_) (fun e => ?_)⟩
      · have hz : 0 < z' := of_decide_eq_true e
        refine ⟨_, rfl, b, _, 0, _, rfl, rfl, SqL.of B'.ob, atI_nat (j := 0) rfl, .inl ⟨_, rfl, _, rfl, _, _, rfl, rfl, Int.ne_of_gt hn0, _, rfl, b, _, 0, _, rfl, rfl, SqL.of B'.ob, atI_nat (j := 0) rfl, .inl ⟨_, rfl, _, rfl, _, _, rfl, rfl, wide_div hn0 hn9 (by decide) (by decide), by show 2 ≤ sizeLine; decide, fun t ht => ?_⟩⟩⟩
        have B1 := B'.same (Same.new (o := HO.tup [V.int (z'.fmod n), V.int (z' / n)]) ht)
        refine ⟨t, _, rfl, SqT.of upd_same, rfl, _, _, rfl, _, _, rfl, _, rfl, b, _, 0, 0, rfl, rfl, B1.ob, rfl, rfl, _, rfl, ?_⟩
        have hm := fmod_pos (a := z') hn0
        have hq : 0 ≤ z' / n := Int.ediv_nonneg (Int.le_of_lt hz) (Int.le_of_lt hn0)
        exact go _ _ hm.1 hm.2 ⟨_, _, _, _, _, B1.put (k' := k') hq B1.m0 B1.m1⟩ ((kp.new ht).trans (keep_upd B1))
      · refine ⟨_, rfl, b, _, 1, _, rfl, rfl, SqL.of B'.ob, atI_nat (j := 1) rfl, _, _, rfl, rfl, _, _, rfl, rfl, .inr ⟨by decide, by decide⟩, .inl ⟨_, rfl, _, _, rfl, rfl, (show (1000000007 : Int) ≠ 0 by decide), ?_⟩⟩
        have h1 := fmod_pos (a := (m' + 1) * 39373) (n := 1000000007) (by decide)
        refine ⟨_, rfl, _, rfl, _, _, rfl, rfl, .inl ⟨Int.lt_of_lt_of_le (by decide) h1.1, Int.lt_of_lt_of_le h1.2 (by decide)⟩, .inl ⟨_, rfl, _, _, rfl, rfl, (show (998244353 : Int) ≠ 0 by decide), _, _, rfl, rfl, .inr ⟨by decide, by decide⟩, .inl ⟨_, rfl, _, _, rfl, rfl, (show (998244353 : Int) ≠ 0 by decide), ?_⟩⟩⟩
        refine ⟨_, rfl, _, _, rfl, rfl, wide_div (b := 3) (by decide) (by decide) (by decide) (by decide), .inl ⟨_, rfl, _, rfl, _, _, rfl, rfl, Int.ne_of_gt hn0, ?_⟩⟩
        have hm := fmod_pos (a := ((((m' + 1) * 39373).fmod 1000000007 * ((m' + 1) * 39373).fmod 1000000007).fmod 998244353 * 30011).fmod 998244353 / 7) hn0
        exact go _ _ hm.1 hm.2 ⟨_, _, _, _, _, B'⟩ kp
theorem ok_bag {f : Addr} {fd : FuncData} (F : Fun K "_law_bag" "_law_bag" sLBag f fd) (T : Txt mg) :
    FnOk P w K mg base CX0 1 f fd ["_law_script"] (spBag K) := by
  refine F.ok scLBag (fun vs H Q E h => ?_) (fun cdv A outer s H vs Q E hr h => ?_)
  · obtain ⟨a, ns, rfl, _⟩ := h
    rfl
  · obtain ⟨a, ns, rfl, hS, hl, go⟩ := h
    refine ⟨_, (pss_one (ps_ret (pe_lst (pa_cons pe_int (pa_cons pe_int (pa_cons pe_int (pa_cons (pe_lc rfl scLBag.nd (pi_list (pe_slice sl_list (pv 0) po_none (po_some pe_int))) (blkOk_by (N := scLBagN) (sc := defScope sLBag) (own := [("_law_cell", 1)]) (by decide +kernel)) (fun _ _ _ _ _ => pg_name (i := 1) scLBag.nd rfl (.inl rfl)) (fun _ _ _ _ _ => pts_nil) (fun _ _ _ _ _ => (pe_callB call_abs (by rfl) T.abs (by decide +kernel) (pa_cons (pv 1) pa_nil)))) pa_nil))))))), ?_⟩
    refine ⟨_, rfl, _, rfl, a, _, rfl, hS, fun p hp => ⟨p, rfl, ⟨_, SqL.of upd_same⟩, fun D hD => ?_⟩⟩
    have cut_map : ∃ cs : List Int, cutV (ns.map V.int) none (some 63) = cs.map V.int ∧ cs.length ≤ 63 := by
      refine ⟨(ns.drop (HT.sIx (ns.map V.int).length 0 none)).take (HT.sIx (ns.map V.int).length (ns.map V.int).length (some 63) - HT.sIx (ns.map V.int).length 0 none), ?_, ?_⟩
      · unfold cutV
        rw [List.map_take, List.map_drop]
      · rw [List.length_take, List.length_drop]
        omega
    obtain ⟨cs, ec, hcl⟩ := cut_map
    have hpD : p ≠ D := ne_of_none upd_same hD
    refine lc_list (K := K) (a := p) (xs := cutV (ns.map V.int) none (some 63)) (fun i H' => ∃ acc : List Int, H' D = some (.lst (acc.map V.int)) ∧ acc.length = i ∧ (∀ c ∈ acc, 0 ≤ c) ∧ (∀ a o, H a = some o → H' a = some o) ∧ H' p = some (.lst (cutV (ns.map V.int) none (some 63))))
      ⟨[], upd_same, rfl, fun c hc => absurd hc (by simp), fun a o e => by rw [upd_ne (ne_of_none (Same.new hp a o e) hD)]; exact Same.new hp a o e, by rw [upd_ne hpD]; exact upd_same⟩
      (fun i H' _ ⟨_, _, _, _, _, h5⟩ => SqL.of h5) ?_ ?_
    · rintro i x H' hi ⟨acc, h1, h2, h3, h4, h5⟩
      have hil : i < cs.length := by
        have := (List.getElem?_eq_some_iff.mp hi).1
        rw [ec, List.length_map] at this
        exact this
      obtain ⟨c, rfl⟩ : ∃ c, x = V.int c := by
        rw [ec, List.getElem?_map] at hi
        obtain ⟨c, _, hc⟩ := Option.map_eq_some_iff.mp hi
        exact ⟨c, hc.symm⟩
      refine ⟨rfl, _, rfl, _, rfl, acc.map V.int, h1, ?_, acc ++ [if c < 0 then -c else c], ?_, ?_, ?_, ?_, ?_⟩
      · rw [List.length_map, sizeLine_eq]
        omega
      · rw [List.map_append]
        exact upd_same
      · rw [List.length_append, h2]
        rfl
      · intro e he
        rcases List.mem_append.mp he with h | h
        · exact h3 e h
        · have : e = (if c < 0 then -c else c) := by simpa using h
          subst this
          split <;> omega
      · intro a o e
        rw [upd_ne (ne_of_none (Same.new hp a o e) hD)]
        exact h4 a o e
      · rw [upd_ne hpD]
        exact h5
    · rintro H' ⟨acc, h1, h2, h3, h4, h5⟩
      refine ⟨by show 4 ≤ sizeLine; decide, fun b hb => ?_⟩
      have hDb : D ≠ b := ne_of_none h1 hb
      have hHb : H b = none := by
        match e : H b with
        | none => rfl
        | some o =>
          rw [h4 b o e] at hb
          cases hb
      refine go b _ hHb ⟨D, 0, 1234567891, 0, acc, upd_same, by rw [upd_ne hDb]; exact h1, Int.le_refl 0, by decide, by decide, h3, ?_⟩ fun a o e => ?_
      · rw [h2, ec, List.length_map]
        exact hcl
      · rw [upd_ne (ne_of_none e hHb)]
        exact h4 a o e
theorem ok_one {f : Addr} {fd : FuncData} (F : Fun K "_law_one" "_law_one" sLOne f fd) (T : Txt mg) (DLTake : Df K mg "_law_take" sLTake ["_law_bag_here", "_law_many"]) :
    FnOk P w K mg base CX0 2 f fd ["_law_bag_here", "_law_some"] spOne := by
  have GLTake : FnOk P w K mg base CX0 1 DLTake.f DLTake.fd ["_law_bag_here", "_law_many"] spTake := ok_take DLTake.F T
  refine F.ok scLOne (fun vs H Q E h => ?_) (fun cdv A outer s H vs Q E hr h => ?_)
  · obtain ⟨b, l, xs, rfl, _⟩ := h
    rfl
  · obtain ⟨b, l, xs, rfl, B, hl, nlb, h0, h1, go⟩ := h
    refine ⟨_, (pss_one (ps_ret (pe_ix ix_list (pv 1) (pe_call GLTake (hr.mono (by decide)) rfl DLTake.mg DLTake.kp DLTake.b .nil pass0 (pa_cons (pv 0) (pa_cons (pe_callB call_len (by rfl) T.len PySem.boot_len (pa_cons (pv 1) pa_nil)) pa_nil))) (fun _ _ => rfl)))), ?_⟩
    refine ⟨_, rfl, _, rfl, _, rfl, _, _, rfl, .inl ⟨_, SqL.of hl, rfl⟩, b, (xs.length : Int), rfl, B, by omega, ?_, fun r H' r0 r1 B' kp => ?_⟩
    · show ((xs.length : Int)).natAbs < 2 ^ 9000
      rw [Int.natAbs_natCast]
      exact Nat.lt_of_le_of_lt h1 (Nat.lt_of_lt_of_le (by decide : 100000 < 2 ^ 20) (Nat.pow_le_pow_right (by decide) (by decide)))
    · obtain ⟨j, rfl⟩ : ∃ j : Nat, r = (j : Int) := ⟨r.toNat, by omega⟩
      have hj : j < xs.length := by omega
      exact ⟨l, xs, _, _, rfl, rfl, SqL.of (kp l _ hl nlb), atI_nat (List.getElem?_eq_getElem hj), go _ _ (List.getElem_mem hj) B' kp⟩
end
end My

/-! Drawn figures. -/
namespace My
open PySem L2 PySem.Spec PyProof.Rows
abbrev sLFigures : Stmt := top 21
abbrev scLFiguresN : List Str := ["_law_bag_here", "_law_most", "_law_way", "_law_wide"]
theorem scLFigures : FnScope ["_law_bag_here", "_law_most", "_law_way", "_law_wide"] ["_law_bag_here", "_law_most"] (defScope sLFigures) :=
  ⟨rfl, rfl, rfl, by decide +kernel, rfl, by decide +kernel, by decide +kernel⟩
abbrev sLSigned : Stmt := top 22
abbrev scLSignedN : List Str := ["_law_bag_here", "_law_most"]
theorem scLSigned : FnScope ["_law_bag_here", "_law_most"] ["_law_bag_here", "_law_most"] (defScope sLSigned) :=
  ⟨rfl, rfl, rfl, by decide +kernel, rfl, by decide +kernel, by decide +kernel⟩
abbrev sLDivisor : Stmt := top 23
abbrev scLDivisorN : List Str := ["_law_one_here", "_law_other", "_law_high", "_law_low", "_law_turn"]
theorem scLDivisor : FnScope ["_law_one_here", "_law_other", "_law_high", "_law_low", "_law_turn"] ["_law_one_here", "_law_other"] (defScope sLDivisor) :=
  ⟨rfl, rfl, rfl, by decide +kernel, rfl, by decide +kernel, by decide +kernel⟩
section
variable {P : Program} {w : World} {K : PySem.W.Frag} {mg : Str → Option Value} {base : Heap}
theorem ok_figures {f : Addr} {fd : FuncData} (F : Fun K "_law_figures" "_law_figures" sLFigures f fd) (T : Txt mg) (DLTake : Df K mg "_law_take" sLTake ["_law_bag_here", "_law_many"]) :
    FnOk P w K mg base CX0 2 f fd ["_law_bag_here", "_law_most"] spFigures := by
  have GLTake := ok_take (P := P) (w := w) (base := base) DLTake.F T
  refine F.ok scLFigures (fun vs H Q E h => ?_) (fun cdv A outer s H vs Q E hr h => ?_)
  · obtain ⟨b, m, rfl, _⟩ := h
    rfl
  · obtain ⟨b, m, rfl, B, h0, h6, go⟩ := h
    have p3 : 1000 ≤ 10 ^ (m + 3) := by
      have : 10 ^ 3 ≤ 10 ^ (m + 3) := Nat.pow_le_pow_right (by decide) (by omega)
      exact this
    refine ⟨_, (pss_cons (ps_set (i := 2) scLFigures.nd rfl (.inl rfl) (pe_call GLTake (hr.mono (by decide)) rfl DLTake.mg DLTake.kp DLTake.b .nil pass0 (pa_cons (pv 0) (pa_cons pe_int pa_nil))))
    (pss_cons (ps_if (pt_cmpR My.op_ltC (pv 2) pe_int (nomark _))
      (pss_one (ps_ret (pe_call GLTake (hr.mono (by decide)) rfl DLTake.mg DLTake.kp DLTake.b .nil pass0 (pa_cons (pv 0) (pa_cons (pe_ix ix_list (pe_lst (pa_cons pe_int (pa_cons pe_int (pa_cons pe_int pa_nil)))) (pv 2) (fun _ _ => rfl)) pa_nil)))))
      pss_nil)
    (pss_cons (ps_set (i := 3) scLFigures.nd rfl (.inl rfl) (pe_callTy call_int_str (by rfl) T.int (by decide +kernel) (pa_cons (pe_op op_add_str pe_str (pe_op My.op_repS pe_str (pe_call GLTake (hr.mono (by decide)) rfl DLTake.mg DLTake.kp DLTake.b .nil pass0 (pa_cons (pv 0) (pa_cons (pv 1) pa_nil))))) pa_nil)))
    (pss_cons (ps_if (pt_cmpR My.op_eqC (pv 2) pe_int (nomark _))
      (pss_one (ps_ret (pe_call GLTake (hr.mono (by decide)) rfl DLTake.mg DLTake.kp DLTake.b .nil pass0 (pa_cons (pv 0) (pa_cons (pe_op My.op_mulC pe_int (pv 3)) pa_nil)))))
      pss_nil)
    (pss_one (ps_ret (pe_op My.op_subC (pe_op My.op_addC (pv 3) (pe_call GLTake (hr.mono (by decide)) rfl DLTake.mg DLTake.kp DLTake.b .nil pass0 (pa_cons (pv 0) (pa_cons pe_int pa_nil)))) (pe_call GLTake (hr.mono (by decide)) rfl DLTake.mg DLTake.kp DLTake.b .nil pass0 (pa_cons (pv 0) (pa_cons pe_int pa_nil)))))))))), ?_⟩
    refine ⟨_, rfl, b, 5, rfl, B, by decide, small64 (by decide), fun r1 H1 r10 r15 B1 k1 => ?_⟩
    obtain ⟨w1, rfl⟩ : ∃ w1 : Nat, r1 = (w1 : Int) := ⟨r1.toNat, by omega⟩
    refine ⟨_, rfl, _, _, _, rfl, rfl, rfl, _, rfl, ite2 (fun e => ?_) (fun e => ?_)⟩
    · have hw : w1 < 3 := by
        have := of_decide_eq_true e
        omega
      obtain ⟨n, hn, n0, n1⟩ := way_tab w1 hw
      refine ⟨_, rfl, by show 3 ≤ sizeLine; decide, fun l hl => ⟨_, rfl, l, _, _, _, rfl, rfl, SqL.of upd_same, atI_nat hn, b, n, rfl, B1.same (Same.new hl), by omega, small64 (by omega), fun r H2 r0 rn B2 k2 => ?_⟩⟩
      have := go r.toNat H2 (by omega) B2 ((k1.new hl).trans k2)
      rwa [Int.toNat_of_nonneg r0] at this
    · refine ⟨_, rfl, _, rfl, b, (m : Int), rfl, B1, by omega, small64 (by omega), fun r H2 r0 rn B2 k2 => ?_⟩
      obtain ⟨k, rfl⟩ : ∃ k : Nat, r = (k : Int) := ⟨r.toNat, by omega⟩
      have hk : k < m := by omega
      refine ⟨48, k, by decide, rfl, by omega, _, _, rfl, rfl, ?_, ?_⟩
      · show 1 + ((List.replicate k 48).toArray).size ≤ sizeLine
        rw [List.size_toArray, List.length_replicate, sizeLine_eq]
        omega
      rw [pw_cat k]
      have hten : 10 ^ k * 10 ≤ 10 ^ m := by
        rw [← Nat.pow_succ]
        exact Nat.pow_le_pow_right (by decide) (by omega)
      have hm3 : 10 ^ (m + 3) = 10 ^ m * 1000 := by rw [Nat.pow_add]
      have hk1 : 1 ≤ 10 ^ k := Nat.pow_pos (by decide)
      have hsm : 10 * 10 ^ k < 2 ^ (4 * 601) := by
        have h1 : 10 ^ m ≤ 10 ^ 600 := Nat.pow_le_pow_right (by decide) h6
        have h2 : (10 : Nat) ^ 600 < 10 ^ 601 := Nat.pow_lt_pow_right (by decide) (by decide)
        exact bits_of (Nat.lt_of_le_of_lt (by omega) h2)
      refine ⟨_, _, rfl, pw_int (k := k) (by omega), by rw [pw_len]; omega, ?_⟩
      refine ⟨_, rfl, _, rfl, rfl, _, rfl, ite2 (fun e => ?_) (fun e => ?_)⟩
      · refine ⟨_, rfl, _, rfl, _, _, ((10 * 10 ^ k : Nat) : Int), rfl, rfl, .inl (.inl ⟨by decide, by decide⟩), by rw [Int.natCast_mul]; rfl, b, _, rfl, B2, by omega, small_of (k := 4 * 601) (by rw [Int.natAbs_natCast]; exact hsm) (by decide), fun r H3 r0 rn B3 k3 => ?_⟩
        have := go r.toNat H3 (by omega) B3 ((k1.trans k2).trans k3)
        rwa [Int.toNat_of_nonneg r0] at this
      · refine ⟨_, rfl, _, rfl, b, 100, rfl, B2, by decide, small64 (by decide), fun r H3 r0 rn B3 k3 => ?_⟩
        refine ⟨_, _, _, rfl, rfl, rfl, _, rfl, b, 2, rfl, B3, by decide, small64 (by decide), fun r' H4 r0' rn' B4 k4 => ?_⟩
        have := go (10 ^ k + r.toNat - r'.toNat) H4 (by omega) B4 (((k1.trans k2).trans k3).trans k4)
        refine ⟨_, _, ((10 ^ k + r.toNat - r'.toNat : Nat) : Int), rfl, rfl, ?_, this⟩
        show ((10 ^ k : Nat) : Int) + r - r' = _
        generalize 10 ^ k = g at hk1 ⊢
        omega
theorem ok_signed {f : Addr} {fd : FuncData} (F : Fun K "_law_signed" "_law_signed" sLSigned f fd) (T : Txt mg) (DLTake : Df K mg "_law_take" sLTake ["_law_bag_here", "_law_many"]) (DLFigures : Df K mg "_law_figures" sLFigures ["_law_bag_here", "_law_most"]) :
    FnOk P w K mg base CX0 3 f fd ["_law_bag_here", "_law_most"] spSigned := by
  have GLTake := ok_take (P := P) (w := w) (base := base) DLTake.F T
  have GLFigures := ok_figures (P := P) (w := w) (base := base) DLFigures.F T DLTake
  refine F.ok scLSigned (fun vs H Q E h => ?_) (fun cdv A outer s H vs Q E hr h => ?_)
  · obtain ⟨b, m, rfl, _⟩ := h
    rfl
  · obtain ⟨b, m, rfl, B, h0, h6, go⟩ := h
    refine ⟨_, (pss_one (ps_ret (pe_op My.op_mulC (pe_ix ix_list (pe_lst (pa_cons pe_int (pa_cons (pe_un un_neg pe_int) pa_nil))) (pe_call GLTake (hr.mono (by decide)) rfl DLTake.mg DLTake.kp DLTake.b .nil pass0 (pa_cons (pv 0) (pa_cons pe_int pa_nil))) (fun _ _ => rfl)) (pe_call GLFigures (hr.mono (by decide)) rfl DLFigures.mg DLFigures.kp DLFigures.b .nil pass0 (pa_cons (pv 0) (pa_cons (pv 1) pa_nil)))))), ?_⟩
    refine ⟨_, rfl, by show 2 ≤ sizeLine; decide, fun l hl => ⟨_, rfl, b, 2, rfl, B.same (Same.new hl), by decide, small64 (by decide), fun r1 H1 r10 r12 B1 k1 => ?_⟩⟩
    obtain ⟨ob, eb⟩ := B.some
    have nl : l ≠ b := (ne_of_none eb hl).symm
    have hl1 := k1 l _ upd_same nl
    obtain ⟨sg, hs, hsg⟩ : ∃ sg : Int, atI ([V.int 1, .int (-1)] : List V) r1 = some (.int sg) ∧ (sg = 1 ∨ sg = -1) := by
      by_cases e : r1 = 0
      · subst e
        exact ⟨1, rfl, .inl rfl⟩
      · have : r1 = 1 := by omega
        subst this
        exact ⟨-1, rfl, .inr rfl⟩
    refine ⟨l, _, r1, _, rfl, rfl, SqL.of hl1, hs, _, rfl, _, rfl, b, m, rfl, B1, h0, h6, fun r H2 hr2 B2 k2 => ?_⟩
    refine ⟨_, _, sg * (r : Int), rfl, rfl, .inl (.inl ?_), rfl, go _ H2 ?_ B2 ((((Keep.refl).new hl).trans k1).trans k2)⟩
    · rcases hsg with rfl | rfl <;> exact ⟨by decide, by decide⟩
    · rcases hsg with rfl | rfl <;> omega
theorem ok_ldivisor {f : Addr} {fd : FuncData} (F : Fun K "_law_divisor" "_law_divisor" sLDivisor f fd) (T : Txt mg) : FnOk P w K mg base CX0 1 f fd ["_law_one_here", "_law_other"] spLDivisor := by
  refine F.ok scLDivisor (fun vs H Q E h => ?_) (fun cdv A outer s H vs Q E hr h => ?_)
  · obtain ⟨a, b, rfl, _⟩ := h
    rfl
  · obtain ⟨a, b, rfl, ha, hb, go⟩ := h
    refine ⟨_, (pss_cons (ps_par (i := 2) (j := 3) rfl scLDivisor.nd rfl rfl (by decide) rfl rfl (pa_cons (pe_callB call_abs (by rfl) T.abs (by decide +kernel) (pa_cons (pv 0) pa_nil)) (pa_cons (pe_callB call_abs (by rfl) T.abs (by decide +kernel) (pa_cons (pv 1) pa_nil)) pa_nil)) (by rfl))
    (pss_cons (ps_for PassesOwn.never rfl (pi_range1 (by rfl) T.range (pa_cons pe_int pa_nil)) (pg_name (i := 4) scLDivisor.nd rfl (.inl rfl))
      (pss_cons (ps_if (pt_cmpR My.op_eqC (pv 3) pe_int (nomark _))
        (pss_one (ps_ret (pv 2)))
        pss_nil)
      (pss_one (ps_par (i := 2) (j := 3) rfl scLDivisor.nd rfl rfl (by decide) rfl rfl (pa_cons (pv 3) (pa_cons (pe_op My.op_modC (pe_callTy call_int1 (by rfl) T.int (by decide +kernel) (pa_cons (pv 2) pa_nil)) (pe_callTy call_int1 (by rfl) T.int (by decide +kernel) (pa_cons (pv 3) pa_nil))) pa_nil)) (by rfl)))))
    (pss_one (ps_ret (pv 2))))), ?_⟩
    have ea : (if a < 0 then -a else a) = ((a.natAbs : Nat) : Int) := by split <;> omega
    have eb : (if b < 0 then -b else b) = ((b.natAbs : Nat) : Int) := by split <;> omega
    refine ⟨_, rfl, _, rfl, _, rfl, _, rfl, _, _, rfl, ?_⟩
    rw [ea, eb]
    refine ⟨12000, rfl, by decide, by decide, for_range (n := 12000) (fun i σ H' => ∃ (h l : Nat) (v : Option V), σ = [some (.int a), some (.int b), some (.int (h : Int)), some (.int (l : Int)), v] ∧ H' = H ∧ Nat.gcd h l = Nat.gcd a.natAbs b.natAbs ∧ Left 10000 i h l)
      ⟨a.natAbs, b.natAbs, none, rfl, rfl, rfl, Left.start ?_⟩ ?_ ?_⟩
    · rw [show (10000 : Nat) = 5000 + 5000 from rfl, Nat.pow_add]
      exact Nat.mul_lt_mul'' ha hb
    · rintro i σ H' hi ⟨h, l, v, rfl, rfl, hg, hL⟩
      refine ⟨_, rfl, _, rfl, rfl, _, rfl, ite2 (fun e => ?_) (fun e => ?_)⟩
      · have hl : l = 0 := by
          have := int_of_dec e
          omega
        subst hl
        refine ⟨_, rfl, ?_⟩
        rw [Nat.gcd_zero_right] at hg
        rw [hg]
        exact go
      · have hl : 0 < l := by
          rcases Nat.eq_zero_or_pos l with z | z
          · subst z
            exact absurd (decide_eq_true rfl) e
          · exact z
        refine ⟨_, rfl, _, rfl, .inl ⟨_, rfl, _, rfl, .inl ⟨_, rfl, _, _, ((h % l : Nat) : Int), rfl, rfl, Int.natCast_pos.mpr hl, (Int.natCast_emod h l).symm, _, _, rfl, ?_⟩⟩⟩
        refine ⟨l, h % l, _, rfl, rfl, ?_, hL.step hl⟩
        rw [← hg, Nat.gcd_comm l, ← Nat.gcd_rec, Nat.gcd_comm]
    · rintro σ H' ⟨h, l, v, rfl, rfl, hg, hL⟩
      have hl := hL.done (by decide)
      subst hl
      refine ⟨_, rfl, ?_⟩
      rw [Nat.gcd_zero_right] at hg
      rw [hg]
      exact go
end
end My

/-! Drawn fractions. -/
namespace My
open PySem L2 PySem.Spec PyProof.Rows
abbrev sLLowest : Stmt := top 24
abbrev scLLowestN : List Str := ["_law_top", "_law_bottom", "_law_both"]
theorem scLLowest : FnScope ["_law_top", "_law_bottom", "_law_both"] ["_law_top", "_law_bottom"] (defScope sLLowest) :=
  ⟨rfl, rfl, rfl, by decide +kernel, rfl, by decide +kernel, by decide +kernel⟩
abbrev sLFraction : Stmt := top 25
abbrev scLFractionN : List Str := ["_law_bag_here", "_law_most"]
theorem scLFraction : FnScope ["_law_bag_here", "_law_most"] ["_law_bag_here", "_law_most"] (defScope sLFraction) :=
  ⟨rfl, rfl, rfl, by decide +kernel, rfl, by decide +kernel, by decide +kernel⟩
section
variable {P : Program} {w : World} {K : PySem.W.Frag} {mg : Str → Option Value} {base : Heap}
theorem ok_lowest {f : Addr} {fd : FuncData} (F : Fun K "_law_lowest" "_law_lowest" sLLowest f fd) (T : Txt mg) (DLDivisor : Df K mg "_law_divisor" sLDivisor ["_law_one_here", "_law_other"]) : FnOk P w K mg base CX0 2 f fd ["_law_top", "_law_bottom"] spLowest := by
  have GLDivisor := ok_ldivisor (P := P) (w := w) (base := base) DLDivisor.F T
  refine F.ok scLLowest (fun vs H Q E h => ?_) (fun cdv A outer s H vs Q E hr h => ?_)
  · obtain ⟨t, b, rfl, _⟩ := h
    rfl
  · obtain ⟨t, b, rfl, hb, ht5, hb5, go⟩ := h
    refine ⟨_, (pss_cons (ps_set (i := 2) scLLowest.nd rfl (.inl rfl) (pe_op My.op_mulC (pe_call GLDivisor (hr.mono (by decide)) rfl DLDivisor.mg DLDivisor.kp DLDivisor.b .nil pass0 (pa_cons (pv 0) (pa_cons (pv 1) pa_nil))) (pe_ifExp (pt_cmpR My.op_gtC (pv 1) pe_int (nomark _)) pe_int (pe_un un_neg pe_int))))
    (pss_one (ps_ret (pe_tup (pa_cons (pe_op My.op_fdivZ (pv 0) (pv 2)) (pa_cons (pe_op My.op_fdivZ (pv 1) (pv 2)) pa_nil)))))), ?_⟩
    have hz : (dv t b).natAbs < 2 ^ 9000 := Nat.lt_of_le_of_lt (dv_le hb) (Nat.lt_of_lt_of_le hb5 (Nat.pow_le_pow_right (by decide) (by decide)))
    have fin : ∀ g : Int, g = dv t b → ∃ v, some (some (V.int t)) = some (some v) ∧ ∃ v', some (some (V.int g)) = some (some v') ∧ rDivZ v v' H fun x H1 =>
        ∃ v, some (some (V.int b)) = some (some v) ∧ ∃ v', some (some (V.int g)) = some (some v') ∧ rDivZ v v' H1 fun y H2 => [x, y].length ≤ sizeLine ∧ ∀ p, H2 p = none → Q (.ref p) (upd H2 p (.tup [x, y])) := by
      rintro g rfl
      obtain ⟨e1, e2⟩ := divInt_fd (t := t) hb
      exact ⟨_, rfl, _, rfl, _, _, _, rfl, rfl, dv_ne hb, hz, e1, _, rfl, _, rfl, _, _, _, rfl, rfl, dv_ne hb, hz, e2, by show 2 ≤ sizeLine; decide, fun p hp => go p _ hp upd_same (Same.new hp)⟩
    refine ⟨_, rfl, _, rfl, t, b, rfl, ht5, hb5, _, rfl, _, _, _, rfl, rfl, rfl, _, rfl, ite2 (fun e => ?_) (fun e => ?_)⟩
    · have h0 : 0 < b := of_decide_eq_true e
      refine ⟨_, _, _, rfl, rfl, .inl (.inr ⟨by decide, by decide⟩), rfl, fin _ ?_⟩
      unfold dv
      rw [if_neg (by omega)]
      exact Int.mul_one _
    · have h0 : b < 0 := by
        have h1 : ¬ 0 < b := fun z => e (decide_eq_true z)
        omega
      refine ⟨_, rfl, _, _, _, rfl, rfl, .inl (.inr ⟨by decide, by decide⟩), rfl, fin _ ?_⟩
      unfold dv
      rw [if_pos h0]
      show ((t.natAbs.gcd b.natAbs : Nat) : Int) * (-1) = _
      omega
theorem ok_lfraction {f : Addr} {fd : FuncData} (F : Fun K "_law_fraction" "_law_fraction" sLFraction f fd) (T : Txt mg) (DLTake : Df K mg "_law_take" sLTake ["_law_bag_here", "_law_many"]) (DLFigures : Df K mg "_law_figures" sLFigures ["_law_bag_here", "_law_most"])
    (DLSigned : Df K mg "_law_signed" sLSigned ["_law_bag_here", "_law_most"]) (DLDivisor : Df K mg "_law_divisor" sLDivisor ["_law_one_here", "_law_other"]) (DLLowest : Df K mg "_law_lowest" sLLowest ["_law_top", "_law_bottom"]) :
    FnOk P w K mg base CX0 4 f fd ["_law_bag_here", "_law_most"] spFrac := by
  have GLFigures := ok_figures (P := P) (w := w) (base := base) DLFigures.F T DLTake
  have GLSigned := ok_signed (P := P) (w := w) (base := base) DLSigned.F T DLTake DLFigures
  have GLLowest := ok_lowest (P := P) (w := w) (base := base) DLLowest.F T DLDivisor
  refine F.ok scLFraction (fun vs H Q E h => ?_) (fun cdv A outer s H vs Q E hr h => ?_)
  · obtain ⟨b, m, rfl, _⟩ := h
    rfl
  · obtain ⟨b, m, rfl, B, h0, h6, go⟩ := h
    refine ⟨_, (pss_one (ps_ret (pe_call GLLowest (hr.mono (by decide)) rfl DLLowest.mg DLLowest.kp DLLowest.b .nil pass0 (pa_cons (pe_call GLSigned (hr.mono (by decide)) rfl DLSigned.mg DLSigned.kp DLSigned.b .nil pass0 (pa_cons (pv 0) (pa_cons (pv 1) pa_nil))) (pa_cons (pe_op My.op_addC pe_int (pe_call GLFigures (hr.mono (by decide)) rfl DLFigures.mg DLFigures.kp DLFigures.b .nil pass0 (pa_cons (pv 0) (pa_cons (pv 1) pa_nil)))) pa_nil))))), ?_⟩
    refine ⟨_, rfl, _, rfl, b, m, rfl, B, h0, h6, fun t H1 ht B1 k1 => ?_⟩
    refine ⟨_, rfl, _, rfl, b, m, rfl, B1, h0, h6, fun r H2 hr2 B2 k2 => ?_⟩
    have hle : 4 * (m + 3) + 1 ≤ 5000 := by omega
    have hp5 : (2 : Nat) ^ (4 * (m + 3) + 1) ≤ 2 ^ 5000 := Nat.pow_le_pow_right (by decide) hle
    have e2 : (2 : Nat) ^ (4 * (m + 3) + 1) = 2 ^ (4 * (m + 3)) * 2 := Nat.pow_succ ..
    have hb1 : t.natAbs < 2 ^ (4 * (m + 3)) := bits_of ht
    have hb2 : r < 2 ^ (4 * (m + 3)) := bits_of hr2
    have hpos : 0 < 2 ^ (4 * (m + 3)) := Nat.pow_pos (by decide)
    have hd : (1 + (r : Int)).natAbs < 2 ^ (4 * (m + 3) + 1) := by
      rw [e2]
      omega
    have ht2 : t.natAbs < 2 ^ (4 * (m + 3) + 1) := by
      rw [e2]
      omega
    have hne : (1 + (r : Int)) ≠ 0 := by omega
    refine ⟨_, _, 1 + (r : Int), rfl, rfl, rfl, t, _, rfl, hne, Nat.lt_of_lt_of_le ht2 hp5, Nat.lt_of_lt_of_le hd hp5, fun p H3 hp hp3 s3 => ?_⟩
    obtain ⟨ob, eb⟩ := B2.some
    have nb : p ≠ b := (ne_of_none eb hp).symm
    exact go p _ H3 (keep_none (k1.trans k2) hp nb) hp3 (bq_divInt hne ht2 hd) (B2.same s3) ((k1.trans k2).trans (.of s3))
end
end My

/-! Two things alike, in their texts too. -/
namespace My
open PySem L2 PySem.Spec PyProof.Rows
abbrev sLAlike : Stmt := top 18
abbrev scLAlikeN : List Str := ["_law_found", "_law_due"]
theorem scLAlike : FnScope ["_law_found", "_law_due"] ["_law_found", "_law_due"] (defScope sLAlike) :=
  ⟨rfl, rfl, rfl, by decide +kernel, rfl, by decide +kernel, by decide +kernel⟩
section
variable {P : Program} {w : World} {K : PySem.W.Frag} {mg : Str → Option Value} {base : Heap}
theorem ok_alike {f : Addr} {fd : FuncData} (F : Fun K "_law_alike" "_law_alike" sLAlike f fd) (T : Txt mg) :
    FnG P w K mg base 1 f fd ["_law_found", "_law_due"] (spAlike K) := by
  refine okG F scLAlike (fun vs H Q E h => ?_) (fun cdv A outer s H vs Q E hr hg h => ?_)
  · obtain ⟨x, y, d, rfl, _⟩ := h
    rfl
  · obtain ⟨x, y, d, rfl, hx, hy, hf, go⟩ := h
    refine ⟨_, (pss_one (ps_ret (pe_and (pe_cmpR (op_eqD hr.units) (pv 0) (pv 1) (nomark _)) (pe_one (pe_cmpR op_eq (pe_callB (My.call_repr hg hr.units) (by rfl) T.repr (by decide +kernel) (pa_cons (pv 0) pa_nil)) (pe_callB (My.call_repr hg hr.units) (by rfl) T.repr (by decide +kernel) (pa_cons (pv 1) pa_nil)) (nomark _)))))), ?_⟩
    have sd := shaped_of hf (by decide)
    refine ⟨_, rfl, _, rfl, d, d, hx, hy, sd, sd, _, rfl, ?_⟩
    rw [SeqAt.eqv_refl d hf.lay]
    refine iteT ⟨_, rfl, _, d, rfl, hx, hf, _, rfl, _, d, rfl, hy, hf, rfl, ?_⟩
    rw [decide_eq_true rfl]
    exact go
end
end My

/-! A fraction of two whole numbers. -/
namespace My
open PySem L2 PySem.Spec PyProof.Rows
abbrev sIsWhole : Stmt := top 5
abbrev scIsWholeN : List Str := ["thing"]
theorem scIsWhole : FnScope ["thing"] ["thing"] (defScope sIsWhole) :=
  ⟨rfl, rfl, rfl, by decide +kernel, rfl, by decide +kernel, by decide +kernel⟩
abbrev sDivisor : Stmt := top 6
abbrev scDivisorN : List Str := ["one", "other"]
theorem scDivisor : FnScope ["one", "other"] ["one", "other"] (defScope sDivisor) :=
  ⟨rfl, rfl, rfl, by decide +kernel, rfl, by decide +kernel, by decide +kernel⟩
abbrev sFraction : Stmt := top 10
abbrev scFractionN : List Str := ["top", "bottom", "shared"]
theorem scFraction : FnScope ["top", "bottom", "shared"] ["top", "bottom"] (defScope sFraction) :=
  ⟨rfl, rfl, rfl, by decide +kernel, rfl, by decide +kernel, by decide +kernel⟩
def spIsInt : Sp := fun vs H Q _ => ∃ i : Int, vs = [.int i] ∧ Q (.bl true) H
def spDivisor : Sp := fun vs H Q _ => ∃ a b : Int, vs = [.int a, .int b] ∧ Q (.int ((Nat.gcd a.natAbs b.natAbs : Nat) : Int)) H
def spFraction : Sp := fun vs H Q _ => ∃ t b : Int, vs = [.int t, .int b] ∧ b ≠ 0 ∧ Small b ∧
  ∀ p H', H p = none → FracAt H' (.ref p) (Rat.divInt t b) → Same H H' → Q (.ref p) H'
section
variable {P : Program} {w : World} {K : PySem.W.Frag} {mg : Str → Option Value} {base : Heap}
theorem ok_is_whole {f : Addr} {fd : FuncData} (F : Fun K "is_whole" "is_whole" sIsWhole f fd) (T : Txt mg) : FnOk P w K mg base CX0 1 f fd ["thing"] spIsInt := by
  refine F.ok scIsWhole (fun vs H Q E h => ?_) (fun cdv A outer s H vs Q E hr h => ?_)
  · obtain ⟨i, rfl, _⟩ := h
    rfl
  · obtain ⟨i, rfl, go⟩ := h
    refine ⟨_, (pss_one (ps_ret (pe_and (pe_callB call_isi (by rfl) T.isinstance (by decide +kernel) (pa_cons (pv 0) (pa_cons (pe_bltn (v := .ty "int") (u := .type "int") (by rfl) T.int (by decide +kernel) rfl) pa_nil))) (pe_one (pe_not (pe_callB call_isi (by rfl) T.isinstance (by decide +kernel) (pa_cons (pv 0) (pa_cons (pe_bltn (v := .ty "bool") (u := .type "bool") (by rfl) T.bool (by decide +kernel) rfl) pa_nil)))))))), ?_⟩
    refine ⟨_, rfl, _, _, _, _, true, rfl, .ty _, .base (.int i), kit_ty (by decide +kernel), _, rfl, iteT ?_⟩
    exact ⟨_, rfl, _, _, _, _, false, rfl, .ty _, .base (.int i), kit_ty (by decide +kernel), _, rfl, go⟩
theorem ok_divisor {f : Addr} {fd : FuncData} (F : Fun K "divisor" "divisor" sDivisor f fd) (TG : mg "gcd" = some (.builtin "math.gcd")) : FnOk P w K mg base CX0 1 f fd ["one", "other"] spDivisor := by
  refine F.ok scDivisor (fun vs H Q E h => ?_) (fun cdv A outer s H vs Q E hr h => ?_)
  · obtain ⟨a, b, rfl, _⟩ := h
    rfl
  · obtain ⟨a, b, rfl, go⟩ := h
    refine ⟨_, (pss_one (ps_ret (pe_callBfun cr_gcd (by rfl) TG (pa_cons (pv 0) (pa_cons (pv 1) pa_nil))))), ?_⟩
    exact ⟨_, rfl, _, rfl, a, b, rfl, go⟩
theorem ok_fraction {f : Addr} {fd : FuncData} (F : Fun K "fraction" "fraction" sFraction f fd) (T : Txt mg) (TG : mg "gcd" = some (.builtin "math.gcd")) (DIsWhole : Df K mg "is_whole" sIsWhole ["thing"]) (DDivisor : Df K mg "divisor" sDivisor ["one", "other"]) :
    FnOk P w K mg base CX0 2 f fd ["top", "bottom"] spFraction := by
  have GIsWhole := ok_is_whole (P := P) (w := w) (base := base) DIsWhole.F T
  have GDivisor := ok_divisor (P := P) (w := w) (base := base) DDivisor.F TG
  refine F.ok scFraction (fun vs H Q E h => ?_) (fun cdv A outer s H vs Q E hr h => ?_)
  · obtain ⟨t, b, rfl, _⟩ := h
    rfl
  · obtain ⟨t, b, rfl, hb, hs, go⟩ := h
    refine ⟨_, (pss_cons (ps_if (PW.pt (pw_or (pt_not (pt_val (pe_call GIsWhole (hr.mono (by decide)) rfl DIsWhole.mg DIsWhole.kp DIsWhole.b .nil pass0 (pa_cons (pv 0) pa_nil)))) (pw_or1 (pt_not (pt_val (pe_call GIsWhole (hr.mono (by decide)) rfl DIsWhole.mg DIsWhole.kp DIsWhole.b .nil pass0 (pa_cons (pv 1) pa_nil)))))))
      (pss_one ps_never)
      pss_nil)
    (pss_cons (ps_if (pt_cmpR My.op_eqC (pv 1) pe_int (nomark _))
      (pss_one ps_never)
      pss_nil)
    (pss_cons (ps_set (i := 2) scFraction.nd rfl (.inl rfl) (pe_call GDivisor (hr.mono (by decide)) rfl DDivisor.mg DDivisor.kp DDivisor.b .nil pass0 (pa_cons (pv 0) (pa_cons (pv 1) pa_nil))))
    (pss_cons (ps_if (pt_cmpR My.op_ltC (pv 1) pe_int (nomark _))
      (pss_one (ps_set (i := 2) scFraction.nd rfl (.inl rfl) (pe_un un_neg (pv 2))))
      pss_nil)
    (pss_one (ps_ret (pe_tup (pa_cons (pe_op My.op_fdivZ (pv 0) (pv 2)) (pa_cons (pe_op My.op_fdivZ (pv 1) (pv 2)) pa_nil))))))))), ?_⟩
    refine ⟨_, rfl, t, rfl, _, rfl, iteF ⟨_, rfl, b, rfl, _, rfl, iteF ?_⟩⟩
    refine ⟨_, rfl, false, rfl, ?_, _, rfl, iteF ?_⟩
    · exact decide_eq_false fun z => hb (V.int.inj z)
    have hz : (dv t b).natAbs < 2 ^ 9000 := Nat.lt_of_le_of_lt (dv_le hb) hs
    obtain ⟨e1, e2⟩ := divInt_fd (t := t) hb
    have fin : ∀ g : Int, g = dv t b → ∃ v, some (some (V.int t)) = some (some v) ∧ ∃ v', some (some (V.int g)) = some (some v') ∧ rDivZ v v' H fun x H1 =>
        ∃ v, some (some (V.int b)) = some (some v) ∧ ∃ v', some (some (V.int g)) = some (some v') ∧ rDivZ v v' H1 fun y H2 => [x, y].length ≤ sizeLine ∧ ∀ p, H2 p = none → Q (.ref p) (upd H2 p (.tup [x, y])) := by
      rintro g rfl
      exact ⟨_, rfl, _, rfl, _, _, _, rfl, rfl, dv_ne hb, hz, e1, _, rfl, _, rfl, _, _, _, rfl, rfl, dv_ne hb, hz, e2, by show 2 ≤ sizeLine; decide, fun p hp => go p _ hp ⟨p, rfl, upd_same⟩ (Same.new hp)⟩
    refine ⟨_, rfl, _, rfl, t, b, rfl, _, rfl, _, _, _, rfl, rfl, rfl, _, rfl, ite2 (fun e => ?_) (fun e => ?_)⟩
    · have h0 : b < 0 := of_decide_eq_true e
      refine ⟨_, rfl, _, rfl, fin _ ?_⟩
      unfold dv
      rw [if_pos h0]
    · have h0 : ¬ b < 0 := fun z => e (decide_eq_true z)
      refine fin _ ?_
      unfold dv
      rw [if_neg h0]
def spBin (C : Rat → Rat → Prop) (g : Rat → Rat → Rat) : Sp := fun vs H Q _ => ∃ (x y : V) (q r : Rat), vs = [x, y] ∧ FracAt H x q ∧ FracAt H y r ∧ Bq 4000 q ∧ Bq 4000 r ∧ C q r ∧
  ∀ p H', H p = none → FracAt H' (.ref p) (g q r) → Same H H' → Q (.ref p) H'
def spUnder : Sp := fun vs H Q _ => ∃ (x y : V) (q r : Rat), vs = [x, y] ∧ FracAt H x q ∧ FracAt H y r ∧ Bq 4000 q ∧ Bq 4000 r ∧ Q (.bl (decide (q < r))) H
theorem nn {q r : Rat} (hq : Bq 4000 q) (hr : Bq 4000 r) : MulOk q.num r.num := mulok_of hq.n hr.n (by decide) (by decide) (by decide)
theorem nd {q r : Rat} (hq : Bq 4000 q) (hr : Bq 4000 r) : MulOk q.num (r.den : Int) := mulok_of hq.n (by rw [den_abs]; exact hr.d) (by decide) (by decide) (by decide)
theorem dn {q r : Rat} (hq : Bq 4000 q) (hr : Bq 4000 r) : MulOk (q.den : Int) r.num := mulok_of (by rw [den_abs]; exact hq.d) hr.n (by decide) (by decide) (by decide)
theorem dd {q r : Rat} (hq : Bq 4000 q) (hr : Bq 4000 r) : MulOk (q.den : Int) (r.den : Int) := mulok_of (by rw [den_abs]; exact hq.d) (by rw [den_abs]; exact hr.d) (by decide) (by decide) (by decide)
theorem dd_small {q r : Rat} (hq : Bq 4000 q) (hr : Bq 4000 r) : Small ((q.den : Int) * (r.den : Int)) :=
  small_of (mul_lt (by rw [den_abs]; exact hq.d) (by rw [den_abs]; exact hr.d)) (by decide)
theorem dd_ne {q r : Rat} : (q.den : Int) * (r.den : Int) ≠ 0 := Int.mul_ne_zero (den0 q) (den0 r)
end
end My

/-! plus -/
namespace My
open PySem L2 PySem.Spec PyProof.Rows
abbrev sPlus : Stmt := top 11
abbrev scPlusN : List Str := ["one", "other"]
theorem scPlus : FnScope ["one", "other"] ["one", "other"] (defScope sPlus) :=
  ⟨rfl, rfl, rfl, by decide +kernel, rfl, by decide +kernel, by decide +kernel⟩
section
variable {P : Program} {w : World} {K : PySem.W.Frag} {mg : Str → Option Value} {base : Heap}
theorem ok_plus {f : Addr} {fd : FuncData} (F : Fun K "plus" "plus" sPlus f fd) (T : Txt mg) (TG : mg "gcd" = some (.builtin "math.gcd")) (DIsWhole : Df K mg "is_whole" sIsWhole ["thing"])
    (DDivisor : Df K mg "divisor" sDivisor ["one", "other"]) (DFraction : Df K mg "fraction" sFraction ["top", "bottom"]) : FnOk P w K mg base CX0 3 f fd ["one", "other"] (spBin (fun _ _ => True) (fun q r => q + r)) := by
  have GFraction := ok_fraction (P := P) (w := w) (base := base) DFraction.F T TG DIsWhole DDivisor
  refine F.ok scPlus (fun vs H Q E h => ?_) (fun cdv A outer s H vs Q E hr h => ?_)
  · obtain ⟨x, y, q, r, rfl, _⟩ := h
    rfl
  · obtain ⟨x, y, q, r, rfl, ⟨a, rfl, ha⟩, ⟨b, rfl, hb⟩, hq, hr', hc, go⟩ := h
    refine ⟨_, (pss_one (ps_ret (pe_call GFraction (hr.mono (by decide)) rfl DFraction.mg DFraction.kp DFraction.b .nil pass0 (pa_cons (pe_op My.op_addC (pe_op My.op_mulC (pe_ix ix_tup (pv 0) pe_int (fun _ _ => rfl)) (pe_ix ix_tup (pv 1) pe_int (fun _ _ => rfl))) (pe_op My.op_mulC (pe_ix ix_tup (pv 1) pe_int (fun _ _ => rfl)) (pe_ix ix_tup (pv 0) pe_int (fun _ _ => rfl)))) (pa_cons (pe_op My.op_mulC (pe_ix ix_tup (pv 0) pe_int (fun _ _ => rfl)) (pe_ix ix_tup (pv 1) pe_int (fun _ _ => rfl))) pa_nil))))), ?_⟩
    refine ⟨_, rfl, a, _, 0, _, rfl, rfl, SqT.of ha, atI_nat (j := 0) rfl, _, rfl, b, _, 1, _, rfl, rfl, SqT.of hb, atI_nat (j := 1) rfl, _, _, _, rfl, rfl, nd hq hr', rfl, _, rfl, b, _, 0, _, rfl, rfl, SqT.of hb, atI_nat (j := 0) rfl, _, rfl, a, _, 1, _, rfl, rfl, SqT.of ha, atI_nat (j := 1) rfl, _, _, _, rfl, rfl, nd hr' hq, rfl, _, _, _, rfl, rfl, rfl, _, rfl, a, _, 1, _, rfl, rfl, SqT.of ha, atI_nat (j := 1) rfl, _, rfl, b, _, 1, _, rfl, rfl, SqT.of hb, atI_nat (j := 1) rfl, _, _, _, rfl, rfl, dd hq hr', rfl, _, _, rfl, dd_ne, dd_small hq hr', fun p H' hp f s1 => ?_⟩
    refine go p H' hp ?_ s1
    exact (congrArg (FracAt H' (.ref p)) (q_add q r)).mp f
end
end My

/-! rounded -/
namespace My
open PySem L2 PySem.Spec PyProof.Rows
abbrev sDown : Stmt := top 7
abbrev scDownN : List Str := ["top", "bottom"]
theorem scDown : FnScope ["top", "bottom"] ["top", "bottom"] (defScope sDown) :=
  ⟨rfl, rfl, rfl, by decide +kernel, rfl, by decide +kernel, by decide +kernel⟩
abbrev sUp : Stmt := top 8
abbrev scUpN : List Str := ["top", "bottom"]
theorem scUp : FnScope ["top", "bottom"] ["top", "bottom"] (defScope sUp) :=
  ⟨rfl, rfl, rfl, by decide +kernel, rfl, by decide +kernel, by decide +kernel⟩
abbrev sLeastFrom : Stmt := top 12
abbrev scLeastFromN : List Str := ["one"]
theorem scLeastFrom : FnScope ["one"] ["one"] (defScope sLeastFrom) :=
  ⟨rfl, rfl, rfl, by decide +kernel, rfl, by decide +kernel, by decide +kernel⟩
abbrev sLeastAbove : Stmt := top 13
abbrev scLeastAboveN : List Str := ["one"]
theorem scLeastAbove : FnScope ["one"] ["one"] (defScope sLeastAbove) :=
  ⟨rfl, rfl, rfl, by decide +kernel, rfl, by decide +kernel, by decide +kernel⟩
def spDown : Sp := fun vs H Q _ => ∃ t b : Int, vs = [.int t, .int b] ∧ 0 < b ∧ b.natAbs < 2 ^ 8000 ∧ Q (.int (t / b)) H
def spUp : Sp := fun vs H Q _ => ∃ t b : Int, vs = [.int t, .int b] ∧ 0 < b ∧ b.natAbs < 2 ^ 8000 ∧ Q (.int (-((-t) / b))) H
/-- of a tuple of two -/
def spRound (g : Int → Int → Int) : Sp := fun vs H Q _ => ∃ (a : Addr) (t b : Int), vs = [.ref a] ∧ H a = some (.tup [.int t, .int b]) ∧ 0 < b ∧ b.natAbs < 2 ^ 8000 ∧ Q (.int (g t b)) H
theorem div_c {i j : Int} (h : 0 < j) (hb : j.natAbs < 2 ^ 8000) : CDivW i j := wide_div (b := 8000) h hb (by decide) (by decide)
theorem div_le {t b : Int} (hb : 0 < b) {n : Nat} (h : t.natAbs < 2 ^ n) : (t / b).natAbs < 2 ^ (n + 1) ∧ (-((-t) / b)).natAbs < 2 ^ (n + 1) := by
  have h2 : 2 ^ (n + 1) = 2 ^ n + 2 ^ n := by rw [Nat.pow_succ]; omega
  have key : ∀ u : Int, u.natAbs < 2 ^ n → (u / b).natAbs < 2 ^ (n + 1) := by
    intro u hu
    have e1 := Int.emod_add_mul_ediv u b
    have e2 := Int.emod_nonneg u (show b ≠ 0 by omega)
    have e3 := Int.emod_lt_of_pos u hb
    by_cases hn : u < 0
    · have h4 : u / b < 0 := Int.ediv_neg_of_neg_of_pos hn hb
      have h5 : u ≤ u / b := by
        generalize u / b = q at *
        have h6 : 0 ≤ (b - 1) * (-q - 1) := Int.mul_nonneg (by omega) (by omega)
        have h7 : (b - 1) * (-q - 1) = -(b * q) - b + q + 1 := by grind
        omega
      rw [h2]
      omega
    · have h4 : 0 ≤ u / b := Int.ediv_nonneg (by omega) (by omega)
      have h5 : u / b ≤ u := Int.ediv_le_self _ (by omega)
      rw [h2]
      omega
  refine ⟨key t h, ?_⟩
  rw [Int.natAbs_neg]
  exact key (-t) (by rw [Int.natAbs_neg]; exact h)
theorem up_spec {t b : Int} (hb : 0 < b) : (-((-t) / b) - 1) * b < t ∧ t ≤ -((-t) / b) * b := by
  have e1 := Int.emod_add_mul_ediv (-t) b
  have e2 := Int.emod_nonneg (-t) (show b ≠ 0 by omega)
  have e3 := Int.emod_lt_of_pos (-t) hb
  generalize (-t) / b = q at *
  have e4 : (-q - 1) * b = -(b * q) - b := by rw [Int.sub_mul, Int.neg_mul, Int.mul_comm q b, Int.one_mul]
  have e5 : -q * b = -(b * q) := by rw [Int.neg_mul, Int.mul_comm q b]
  rw [e4, e5]
  omega
theorem down_spec {t b : Int} (hb : 0 < b) : t / b * b ≤ t ∧ t < (t / b + 1) * b := by
  have e1 := Int.emod_add_mul_ediv t b
  have e2 := Int.emod_nonneg t (show b ≠ 0 by omega)
  have e3 := Int.emod_lt_of_pos t hb
  generalize t / b = q at *
  have e4 : (q + 1) * b = b * q + b := by rw [Int.add_mul, Int.mul_comm q b, Int.one_mul]
  have e5 : q * b = b * q := Int.mul_comm _ _
  rw [e4, e5]
  omega
section
variable {P : Program} {w : World} {K : PySem.W.Frag} {mg : Str → Option Value} {base : Heap}
theorem ok_down {f : Addr} {fd : FuncData} (F : Fun K "down" "down" sDown f fd) : FnOk P w K mg base CX0 1 f fd ["top", "bottom"] spDown := by
  refine F.ok scDown (fun vs H Q E h => ?_) (fun cdv A outer s H vs Q E hr h => ?_)
  · obtain ⟨a, b, rfl, _⟩ := h
    rfl
  · obtain ⟨a, b, rfl, hb, hs, go⟩ := h
    refine ⟨_, (pss_one (ps_ret (pe_op op_fdivW (pv 0) (pv 1)))), ?_⟩
    exact ⟨_, rfl, _, rfl, _, _, rfl, rfl, div_c hb hs, go⟩
theorem ok_up {f : Addr} {fd : FuncData} (F : Fun K "up" "up" sUp f fd) : FnOk P w K mg base CX0 1 f fd ["top", "bottom"] spUp := by
  refine F.ok scUp (fun vs H Q E h => ?_) (fun cdv A outer s H vs Q E hr h => ?_)
  · obtain ⟨a, b, rfl, _⟩ := h
    rfl
  · obtain ⟨a, b, rfl, hb, hs, go⟩ := h
    refine ⟨_, (pss_one (ps_ret (pe_un un_neg (pe_op op_fdivW (pe_un un_neg (pv 0)) (pv 1))))), ?_⟩
    exact ⟨_, rfl, _, rfl, _, rfl, _, _, rfl, rfl, div_c hb hs, _, rfl, go⟩
theorem ok_least_from {f : Addr} {fd : FuncData} (F : Fun K "least_from" "least_from" sLeastFrom f fd) (DUp : Df K mg "up" sUp ["top", "bottom"]) : FnOk P w K mg base CX0 2 f fd ["one"] (spRound fun t b => -((-t) / b)) := by
  have GUp := ok_up (P := P) (w := w) (mg := mg) (base := base) DUp.F
  refine F.ok scLeastFrom (fun vs H Q E h => ?_) (fun cdv A outer s H vs Q E hr h => ?_)
  · obtain ⟨a, t, b, rfl, _⟩ := h
    rfl
  · obtain ⟨a, t, b, rfl, ha, hb, hs, go⟩ := h
    refine ⟨_, (pss_one (ps_ret (pe_call GUp (hr.mono (by decide)) rfl DUp.mg DUp.kp DUp.b .nil pass0 (pa_cons (pe_ix ix_tup (pv 0) pe_int (fun _ _ => rfl)) (pa_cons (pe_ix ix_tup (pv 0) pe_int (fun _ _ => rfl)) pa_nil))))), ?_⟩
    exact ⟨_, rfl, a, _, 0, _, rfl, rfl, SqT.of ha, atI_nat (j := 0) rfl, _, rfl, a, _, 1, _, rfl, rfl, SqT.of ha, atI_nat (j := 1) rfl, t, b, rfl, hb, hs, go⟩
theorem ok_least_above {f : Addr} {fd : FuncData} (F : Fun K "least_above" "least_above" sLeastAbove f fd) (DDown : Df K mg "down" sDown ["top", "bottom"]) : FnOk P w K mg base CX0 2 f fd ["one"] (spRound fun t b => t / b + 1) := by
  have GDown := ok_down (P := P) (w := w) (mg := mg) (base := base) DDown.F
  refine F.ok scLeastAbove (fun vs H Q E h => ?_) (fun cdv A outer s H vs Q E hr h => ?_)
  · obtain ⟨a, t, b, rfl, _⟩ := h
    rfl
  · obtain ⟨a, t, b, rfl, ha, hb, hs, go⟩ := h
    refine ⟨_, (pss_one (ps_ret (pe_op My.op_addC (pe_call GDown (hr.mono (by decide)) rfl DDown.mg DDown.kp DDown.b .nil pass0 (pa_cons (pe_ix ix_tup (pv 0) pe_int (fun _ _ => rfl)) (pa_cons (pe_ix ix_tup (pv 0) pe_int (fun _ _ => rfl)) pa_nil))) pe_int))), ?_⟩
    exact ⟨_, rfl, a, _, 0, _, rfl, rfl, SqT.of ha, atI_nat (j := 0) rfl, _, rfl, a, _, 1, _, rfl, rfl, SqT.of ha, atI_nat (j := 1) rfl, t, b, rfl, hb, hs, _, _, _, rfl, rfl, rfl, go⟩
end
end My
/-! total -/
namespace My
open PySem L2 PySem.Spec PyProof.Rows
abbrev sTotal : Stmt := top 14
abbrev scTotalN : List Str := ["some", "so_far", "one"]
theorem scTotal : FnScope ["some", "so_far", "one"] ["some"] (defScope sTotal) :=
  ⟨rfl, rfl, rfl, by decide +kernel, rfl, by decide +kernel, by decide +kernel⟩
abbrev sLSumOf : Stmt := top 26
abbrev scLSumOfN : List Str := ["_law_some", "_law_top", "_law_bottom", "_law_one_here"]
theorem scLSumOf : FnScope ["_law_some", "_law_top", "_law_bottom", "_law_one_here"] ["_law_some"] (defScope sLSumOf) :=
  ⟨rfl, rfl, rfl, by decide +kernel, rfl, by decide +kernel, by decide +kernel⟩
def qsum (qs : List Rat) : Rat := qs.foldl (· + ·) 0
theorem qsum_from (qs : List Rat) : ∀ a : Rat, qs.foldl (· + ·) a = a + qsum qs := by
  induction qs with
  | nil =>
    intro a
    show a = a + 0
    rw [Rat.add_zero]
  | cons q qs ih =>
    intro a
    have e1 : qsum (q :: qs) = qs.foldl (· + ·) (0 + q) := rfl
    rw [List.foldl_cons, ih, e1, ih, Rat.zero_add, Rat.add_assoc]
theorem qsum_cons (q : Rat) (qs : List Rat) : qsum (q :: qs) = q + qsum qs := by
  have e1 : qsum (q :: qs) = qs.foldl (· + ·) (0 + q) := rfl
  rw [e1, qsum_from, Rat.zero_add]
theorem qsum_append (qs rs : List Rat) : qsum (qs ++ rs) = qsum qs + qsum rs := by
  have e1 : qsum (qs ++ rs) = rs.foldl (· + ·) (qsum qs) := List.foldl_append
  rw [e1, qsum_from]
theorem qsum_one (q : Rat) : qsum [q] = q := by
  rw [qsum_cons]
  show q + 0 = q
  rw [Rat.add_zero]
theorem qsum_reverse : ∀ (qs : List Rat), qsum qs.reverse = qsum qs
  | [] => rfl
  | q :: qs => by
    rw [List.reverse_cons, qsum_append, qsum_reverse qs, qsum_one, qsum_cons, Rat.add_comm]
/-- fractions, of W bits together -/
inductive Frw (H : Hp) : List V → List Rat → Nat → Prop
  | nil : Frw H [] [] 0
  | cons {x : V} {xs : List V} {q : Rat} {qs : List Rat} {m W : Nat} : FracAt H x q → Bq m q → m ≤ 1000 → Frw H xs qs W → Frw H (x :: xs) (q :: qs) (m + 1 + W)
theorem Frw.same {H H' : Hp} (s : Same H H') : ∀ {xs : List V} {qs : List Rat} {W : Nat}, Frw H xs qs W → Frw H' xs qs W
  | _, _, _, .nil => .nil
  | _, _, _, .cons h b l t => .cons (h.same s) b l (t.same s)
theorem Frw.len {H : Hp} : ∀ {xs : List V} {qs : List Rat} {W : Nat}, Frw H xs qs W → xs.length = qs.length
  | _, _, _, .nil => rfl
  | _, _, _, .cons _ _ _ t => by rw [List.length_cons, List.length_cons, t.len]
theorem Frw.app {H : Hp} : ∀ {xs ys : List V} {qs rs : List Rat} {W U : Nat}, Frw H xs qs W → Frw H ys rs U → Frw H (xs ++ ys) (qs ++ rs) (W + U)
  | _, _, _, _, _, _, .nil, g => by rw [Nat.zero_add]; exact g
  | _, _, _, _, _, _, .cons h b l t, g => by rw [Nat.add_assoc]; exact .cons h b l (t.app g)
theorem Frw.one {H : Hp} {x : V} {q : Rat} {m : Nat} (h : FracAt H x q) (b : Bq m q) (l : m ≤ 1000) : Frw H [x] [q] (m + 1) := .cons h b l .nil
theorem Frw.rev {H : Hp} : ∀ {xs : List V} {qs : List Rat} {W : Nat}, Frw H xs qs W → Frw H xs.reverse qs.reverse W
  | _, _, _, .nil => .nil
  | _, _, _, .cons (m := m) (W := W) h b l t => by
    rw [List.reverse_cons, List.reverse_cons, Nat.add_comm (m + 1) W]
    exact t.rev.app (.one h b l)
theorem Frw.next {H : Hp} {xs : List V} {qs : List Rat} {W i : Nat} {x : V} (f : Frw H (xs.drop i) (qs.drop i) W) (hx : xs[i]? = some x) : ∃ q m W', FracAt H x q ∧ Bq m q ∧ W = m + 1 + W' ∧ Frw H (xs.drop (i + 1)) (qs.drop (i + 1)) W' ∧ qs.take (i + 1) = qs.take i ++ [q] := by
  obtain ⟨hi, e⟩ := List.getElem?_eq_some_iff.mp hx
  have hl := f.len
  rw [List.length_drop, List.length_drop] at hl
  have hq : i < qs.length := by omega
  rw [List.drop_eq_getElem_cons hi, List.drop_eq_getElem_cons hq, e] at f
  cases f with
  | @cons _ _ _ _ m W' h b _ t => exact ⟨_, m, W', h, b, rfl, t, by rw [List.take_succ, List.getElem?_eq_getElem hq]; rfl⟩
theorem frac_new0 {H : Hp} {p : Addr} (_ : H p = none) : FracAt (upd H p (.tup [.int 0, .int 1])) (.ref p) (0 : Rat) := ⟨p, rfl, upd_same⟩
theorem bq_0 : Bq 2 (0 : Rat) := ⟨by decide, by decide⟩
theorem same_none {H H' : Hp} (s : Same H H') {p : Addr} (h : H' p = none) : H p = none := by
  match e : H p with
  | none => rfl
  | some o =>
    rw [s p o e] at h
    cases h
/-- a total of a list of fractions -/
def spTotal : Sp := fun vs H Q _ => ∃ (a : Addr) (xs : List V) (qs : List Rat) (W : Nat), vs = [.ref a] ∧ H a = some (.lst xs) ∧ Frw H xs qs W ∧ W ≤ 3900 ∧
  ∀ p H', H p = none → FracAt H' (.ref p) (qsum qs) → Same H H' → Q (.ref p) H'
theorem div_step {t b : Int} {q : Rat} (hb : b ≠ 0) : Rat.divInt (t * (q.den : Int) + q.num * b) (b * (q.den : Int)) = Rat.divInt t b + q := by
  have h := Rat.divInt_add_divInt t q.num hb (den0 q)
  rw [Rat.num_divInt_den] at h
  rw [h]
section
variable {P : Program} {w : World} {K : PySem.W.Frag} {mg : Str → Option Value} {base : Heap}
theorem ok_total {f : Addr} {fd : FuncData} (F : Fun K "total" "total" sTotal f fd) (T : Txt mg) (TG : mg "gcd" = some (.builtin "math.gcd")) (DIsWhole : Df K mg "is_whole" sIsWhole ["thing"])
    (DDivisor : Df K mg "divisor" sDivisor ["one", "other"]) (DFraction : Df K mg "fraction" sFraction ["top", "bottom"]) (DPlus : Df K mg "plus" sPlus ["one", "other"]) : FnOk P w K mg base CX0 4 f fd ["some"] spTotal := by
  have GPlus := ok_plus (P := P) (w := w) (base := base) DPlus.F T TG DIsWhole DDivisor DFraction
  refine F.ok scTotal (fun vs H Q E h => ?_) (fun cdv A outer s H vs Q E hr h => ?_)
  · obtain ⟨a, xs, qs, W, rfl, _⟩ := h
    rfl
  · obtain ⟨a, xs, qs, W, rfl, ha, hf, hW, go⟩ := h
    refine ⟨_, (pss_cons (ps_set (i := 1) scTotal.nd rfl (.inl rfl) (pe_tup (pa_cons pe_int (pa_cons pe_int pa_nil))))
    (pss_cons (ps_for PassesOwn.never rfl (pi_list (pv 0)) (pg_name (i := 2) scTotal.nd rfl (.inl rfl))
      (pss_one (ps_set (i := 1) scTotal.nd rfl (.inl rfl) (pe_call GPlus (hr.mono (by decide)) rfl DPlus.mg DPlus.kp DPlus.b .nil pass0 (pa_cons (pv 1) (pa_cons (pv 2) pa_nil))))))
    (pss_one (ps_ret (pv 1))))), ?_⟩
    have hlen := hf.len
    refine ⟨by show 2 ≤ sizeLine; decide, fun p0 hp0 => ?_⟩
    have t0 := Same.new (o := .tup [.int 0, .int 1]) hp0
    refine ⟨_, rfl, a, rfl, ⟨xs, SqL.of (t0 _ _ ha)⟩, for_list (K := K) (a := a) (xs := xs) (fun i σ H' => ∃ (p : Addr) (v : Option V) (W1 W2 : Nat), σ = [some (.ref a), some (.ref p), v] ∧ H p = none ∧ FracAt H' (.ref p) (qsum (qs.take i)) ∧ Bq (2 + W1) (qsum (qs.take i)) ∧ Frw H (xs.drop i) (qs.drop i) W2 ∧ W1 + W2 = W ∧ Same H H')
      ⟨p0, none, 0, W, rfl, hp0, frac_new0 hp0, bq_0, hf, Nat.zero_add _, t0⟩ (fun i σ H' _ ⟨_, _, _, _, _, _, _, _, _, _, s'⟩ => SqL.of (s' _ _ ha)) ?_ ?_⟩
    · rintro i x σ H' hi ⟨p, v, W1, W2, rfl, hp, hfp, hbp, fr, hw, s'⟩
      obtain ⟨q, m, W', hx, hbq, rfl, fr', et⟩ := fr.next hi
      refine ⟨_, rfl, _, rfl, _, _, _, q, rfl, hfp, hx.same s', hbp.up (by omega), hbq.up (by omega), trivial, fun p1 H1 hp1 f1 t1 => ?_⟩
      have e : qsum (qs.take (i + 1)) = qsum (qs.take i) + q := by rw [et, qsum_append, qsum_one]
      refine ⟨p1, _, W1 + (m + 1), W', rfl, s'.free hp1, by rw [e]; exact f1, ?_, fr', by omega, s'.trans t1⟩
      rw [e]
      exact (hbp.add hbq).up (by omega)
    · rintro σ H' ⟨p, v, W1, W2, rfl, hp, hfp, hbp, fr, hw, s'⟩
      rw [hlen, List.take_of_length_le (Nat.le_refl _)] at hfp
      exact ⟨_, rfl, go p H' hp hfp s'⟩
/-- as spTotal, over one bottom -/
theorem ok_sum_of {f : Addr} {fd : FuncData} (F : Fun K "_law_sum_of" "_law_sum_of" sLSumOf f fd) (T : Txt mg) (DLDivisor : Df K mg "_law_divisor" sLDivisor ["_law_one_here", "_law_other"]) (DLLowest : Df K mg "_law_lowest" sLLowest ["_law_top", "_law_bottom"]) :
    FnOk P w K mg base CX0 3 f fd ["_law_some"] spTotal := by
  have GLLowest := ok_lowest (P := P) (w := w) (base := base) DLLowest.F T DLDivisor
  refine F.ok scLSumOf (fun vs H Q E h => ?_) (fun cdv A outer s H vs Q E hr h => ?_)
  · obtain ⟨a, xs, qs, W, rfl, _⟩ := h
    rfl
  · obtain ⟨a, xs, qs, W, rfl, ha, hf, hW, go⟩ := h
    refine ⟨_, (pss_cons (ps_asg (pe_tup (pa_cons pe_int (pa_cons pe_int pa_nil))) (pg_tup (by rfl) (pgs_cons (pg_name (i := 1) scLSumOf.nd rfl (.inl rfl)) (pgs_cons (pg_name (i := 2) scLSumOf.nd rfl (.inl rfl)) pgs_nil))))
    (pss_cons (ps_for PassesOwn.never rfl (pi_list (pv 0)) (pg_name (i := 3) scLSumOf.nd rfl (.inl rfl))
      (pss_cons (ps_set (i := 1) scLSumOf.nd rfl (.inl rfl) (pe_op My.op_addC (pe_op My.op_mulC (pv 1) (pe_ix ix_tup (pv 3) pe_int (fun _ _ => rfl))) (pe_op My.op_mulC (pe_ix ix_tup (pv 3) pe_int (fun _ _ => rfl)) (pv 2))))
      (pss_one (ps_set (i := 2) scLSumOf.nd rfl (.inl rfl) (pe_op My.op_mulC (pv 2) (pe_ix ix_tup (pv 3) pe_int (fun _ _ => rfl)))))))
    (pss_one (ps_ret (pe_call GLLowest (hr.mono (by decide)) rfl DLLowest.mg DLLowest.kp DLLowest.b .nil pass0 (pa_cons (pv 1) (pa_cons (pv 2) pa_nil))))))), ?_⟩
    have hlen := hf.len
    refine ⟨by show 2 ≤ sizeLine; decide, fun p0 hp0 => ?_⟩
    have t0 := Same.new (o := .tup [.int 0, .int 1]) hp0
    refine ⟨p0, _, rfl, SqT.of upd_same, rfl, _, _, rfl, _, _, rfl, rfl, ?_⟩
    have ha0 := t0 _ _ ha
    have hf0 := hf.same t0
    refine ⟨_, rfl, a, rfl, ⟨xs, SqL.of ha0⟩, for_list (K := K) (a := a) (xs := xs) (fun i σ H' => ∃ (t b : Int) (v : Option V) (W1 W2 : Nat), σ = [some (.ref a), some (.int t), some (.int b), v] ∧ H' = upd H p0 (.tup [.int 0, .int 1]) ∧ b ≠ 0 ∧ Rat.divInt t b = qsum (qs.take i) ∧ t.natAbs < 2 ^ (2 + W1) ∧ b.natAbs < 2 ^ (2 + W1) ∧ Frw (upd H p0 (.tup [.int 0, .int 1])) (xs.drop i) (qs.drop i) W2 ∧ W1 + W2 = W)
      ⟨0, 1, none, 0, W, rfl, rfl, by decide, show Rat.divInt 0 1 = 0 by decide +kernel, by decide, by decide, hf0, Nat.zero_add _⟩ (fun i σ H' _ ⟨_, _, _, _, _, _, e, _⟩ => by rw [e]; exact SqL.of ha0) ?_ ?_⟩
    · rintro i x σ H' hi ⟨t, b, v, W1, W2, rfl, rfl, hb, hd, ht, hb2, fr, hw⟩
      obtain ⟨q, m, W', ⟨p, rfl, hp⟩, hbq, rfl, fr', et⟩ := fr.next hi
      have hm : 0 < m := by
        rcases Nat.eq_zero_or_pos m with z | z
        · subst z
          have := hbq.d
          have := q.den_pos
          omega
        · exact z
      have hdq : ((q.den : Int)).natAbs < 2 ^ m := by rw [den_abs]; exact hbq.d
      have l1 := mul_lt ht hdq
      have l2 := mul_lt hbq.n hb2
      have l3 := mul_lt hb2 hdq
      refine ⟨_, rfl, _, rfl, p, _, 1, _, rfl, rfl, SqT.of hp, atI_nat (j := 1) rfl, _, _, t * (q.den : Int), rfl, rfl, mulok_of ht hdq (by omega) hm (by omega), rfl, _, rfl, p, _, 0, _, rfl, rfl, SqT.of hp, atI_nat (j := 0) rfl, _, rfl, _, _, q.num * b, rfl, rfl, mulok_of hbq.n hb2 hm (by omega) (by omega), rfl, _, _, t * (q.den : Int) + q.num * b, rfl, rfl, rfl, ?_⟩
      refine ⟨_, rfl, _, rfl, p, _, 1, _, rfl, rfl, SqT.of hp, atI_nat (j := 1) rfl, _, _, b * (q.den : Int), rfl, rfl, mulok_of hb2 hdq (by omega) hm (by omega), rfl, ?_⟩
      rw [Nat.add_comm m (2 + W1)] at l2
      refine ⟨t * (q.den : Int) + q.num * b, b * (q.den : Int), _, W1 + (m + 1), W', rfl, rfl, Int.mul_ne_zero hb (den0 q), ?_, ?_, ?_, fr', by omega⟩
      · rw [div_step hb, hd, et, qsum_append, qsum_one]
      · exact Nat.lt_of_lt_of_le (add_lt l1 l2) (Nat.pow_le_pow_right (by decide) (by omega))
      · exact Nat.lt_of_lt_of_le l3 (Nat.pow_le_pow_right (by decide) (by omega))
    · rintro σ H' ⟨t, b, v, W1, W2, rfl, rfl, hb, hd, ht, hb2, fr, hw⟩
      rw [hlen, List.take_of_length_le (Nat.le_refl _)] at hd
      have h5 : 2 + W1 ≤ 5000 := by omega
      refine ⟨_, rfl, _, rfl, t, b, rfl, hb, Nat.lt_of_lt_of_le ht (Nat.pow_le_pow_right (by decide) h5), Nat.lt_of_lt_of_le hb2 (Nat.pow_le_pow_right (by decide) h5), fun p H1 hp hp1 s1 => go p H1 (same_none t0 hp) ⟨p, rfl, ?_⟩ (t0.trans s1)⟩
      rw [← hd]
      exact hp1
end
end My

/-! The law. -/
namespace My
open PySem L2 PySem.Spec PyProof.Rows
abbrev sLIsWhole : Stmt := top 20
abbrev scLIsWholeN : List Str := ["_law_thing"]
theorem scLIsWhole : FnScope ["_law_thing"] ["_law_thing"] (defScope sLIsWhole) :=
  ⟨rfl, rfl, rfl, by decide +kernel, rfl, by decide +kernel, by decide +kernel⟩
abbrev sLaw : Stmt := top 27
abbrev scLawN : List Str := ["_law_script", "_law_bag_here", "_law_turn", "_law_most", "_law_one_here", "_law_some", "_law_low", "_law_high", "_law_rows", "_law_k", "_law_way", "_law_shown", "_law_due", "_law_found"]
theorem scLaw : FnScope ["_law_script", "_law_bag_here", "_law_turn", "_law_most", "_law_one_here", "_law_some", "_law_low", "_law_high", "_law_rows", "_law_k", "_law_way", "_law_shown", "_law_due", "_law_found"] ["_law_script"] (defScope sLaw) :=
  ⟨rfl, rfl, rfl, by decide +kernel, rfl, by decide +kernel, by decide +kernel⟩
def spLaw (K : PySem.W.Frag) : Sp := fun vs H Q _ => ∃ (a : Addr) (ns : List Int), vs = [.ref a] ∧ SqL K H a (ns.map V.int) ∧ ns.length ≤ 63 ∧ ∀ H', Q (.bl true) H'
theorem up5 {n m : Nat} {x : Nat} (h : x < 2 ^ n) (l : n ≤ m) : x < 2 ^ m := Nat.lt_of_lt_of_le h (Nat.pow_le_pow_right (by decide) l)
def qD (q : Rat) : PyData := .tuple [.int q.num, .int (q.den : Int)]
theorem fine_i {i : Int} (h : i.natAbs < 2 ^ 1920) : Fine 0 1921 (.int i) := Fine.int (by
  by_cases h0 : i.natAbs = 0
  · rw [h0]
    decide
  · exact (Nat.log2_lt h0).mpr h)
theorem fine_q {q : Rat} (h : Bq 1920 q) : Fine 1 3849 (qD q) :=
  (Fine.tuple (.cons (fine_i h.n) (.cons (fine_i (by rw [den_abs]; exact h.d)) .nil))).up (by decide) (by decide)
theorem dp_q {K : PySem.W.Frag} {H : Hp} {x : V} {q : Rat} (h : FracAt H x q) : Dp K H x (qD q) := h.dp
theorem fine_q2 {q : Rat} (h : Bq 1920 q) : Fine 60 16000000 (.list [qD q, qD q]) := (Fine.list (.cons (fine_q h) (.cons (fine_q h) (FineL.nil.up (Nat.zero_le _) (Nat.le_refl 0))))).up (by decide) (by decide)
theorem Frw.dp {K : PySem.W.Frag} {H : Hp} : ∀ {xs : List V} {qs : List Rat} {W : Nat}, Frw H xs qs W → DpAll K H xs (qs.map qD)
  | _, _, _, .nil => .nil
  | _, _, _, .cons h _ _ t => .cons (dp_q h) t.dp
theorem Frw.bq {H : Hp} : ∀ {xs : List V} {qs : List Rat} {W : Nat}, Frw H xs qs W → ∀ q ∈ qs, Bq 1000 q
  | _, _, _, .nil, _, h => absurd h (by simp)
  | _, _, _, .cons _ b l t, q, h => by
    rcases List.mem_cons.mp h with rfl | h
    · exact b.up l
    · exact t.bq q h
theorem Frw.le {H : Hp} : ∀ {xs : List V} {qs : List Rat} {W : Nat}, Frw H xs qs W → xs.length ≤ W
  | _, _, _, .nil => Nat.le_refl _
  | _, _, _, .cons _ _ _ t => by
    have := t.le
    rw [List.length_cons]
    omega
theorem Frw.fine {H : Hp} {xs : List V} {qs : List Rat} {W : Nat} (f : Frw H xs qs W) (h : W ≤ 3900) : Fine 60 16000000 (.list (qs.map qD)) := by
  have a : FineL 1 ((qs.map qD).length * (3849 + 2)) (qs.map qD) := FineL.all fun d hd => by
    obtain ⟨q, hq, rfl⟩ := List.mem_map.mp hd
    exact fine_q ((f.bq q hq).up (by decide))
  have b := f.le
  have c := f.len
  refine (Fine.list a).up (by decide) ?_
  rw [List.length_map]
  omega
theorem Frw.keep {H H' : Hp} {b : Addr} (B : Bag H b) (k : Keep b H H') : ∀ {xs : List V} {qs : List Rat} {W : Nat}, Frw H xs qs W → Frw H' xs qs W
  | _, _, _, .nil => .nil
  | _, _, _, .cons ⟨a, e, h⟩ q l t => .cons ⟨a, e, by
    obtain ⟨_, _, _, _, _, B'⟩ := B
    exact k a _ h (ne_of h B'.ob (by intro z; cases z))⟩ q l (Frw.keep B k t)
theorem FracAt.updL {H : Hp} {x : V} {q : Rat} {D : Addr} {ys : List V} {o : HO} (f : FracAt H x q) (hD : H D = some (.lst ys)) : FracAt (upd H D o) x q := by
  obtain ⟨a, rfl, h⟩ := f
  exact ⟨a, rfl, by rw [upd_ne (ne_of h hD (by intro z; cases z))]; exact h⟩
theorem Frw.updL {H : Hp} {D : Addr} {ys : List V} {o : HO} (hD : H D = some (.lst ys)) : ∀ {xs : List V} {qs : List Rat} {W : Nat}, Frw H xs qs W → Frw (upd H D o) xs qs W
  | _, _, _, .nil => .nil
  | _, _, _, .cons h b l t => .cons (h.updL hD) b l (Frw.updL hD t)
theorem cop1 (k : Nat) : Nat.Coprime k (2 * k + 1) := by
  show Nat.gcd k (2 * k + 1) = 1
  rw [Nat.gcd_rec]
  rcases Nat.eq_zero_or_pos k with h | h
  · subst h
    rfl
  · by_cases h1 : k = 1
    · subst h1
      rfl
    · have : (2 * k + 1) % k = 1 := by
        rw [Nat.add_mod, Nat.mul_mod_left, Nat.zero_add, Nat.mod_mod]
        exact Nat.mod_eq_of_lt (by omega)
      rw [this]
      exact Nat.gcd_one_left _
theorem cop2 (k : Nat) : Nat.Coprime (2 * k + 1) 2 := by
  show Nat.gcd (2 * k + 1) 2 = 1
  rw [Nat.gcd_comm, Nat.gcd_rec]
  have : (2 * k + 1) % 2 = 1 := by omega
  rw [this]
  rfl
def q1 (k : Nat) : Rat := ⟨(k : Int), 2 * k + 1, by omega, cop1 k⟩
def q2 (k : Nat) : Rat := ⟨((2 * k + 1 : Nat) : Int), 2, by decide, cop2 k⟩
theorem bq1 {k : Nat} (h : k < 40) : Bq 7 (q1 k) := ⟨by show ((k : Int)).natAbs < 2 ^ 7; omega, by show 2 * k + 1 < 2 ^ 7; omega⟩
theorem bq2 {k : Nat} (h : k < 293) : Bq 10 (q2 k) := ⟨by show (((2 * k + 1 : Nat) : Int)).natAbs < 2 ^ 10; omega, by show 2 < 2 ^ 10; decide⟩
theorem sum2 : (qsum ((List.range 293).map q2)).num.natAbs < 2 ^ 20 ∧ (qsum ((List.range 293).map q2)).den < 2 ^ 20 := by decide +kernel
theorem bqs1 : ∀ n, n ≤ 40 → Bq (2 + 8 * n) (qsum ((List.range n).map q1))
  | 0, _ => bq_0
  | n + 1, h => by
    rw [List.range_succ, List.map_append, qsum_append, List.map_cons, List.map_nil, qsum_one]
    exact ((bqs1 n (by omega)).add (bq1 (k := n) (by omega))).up (by omega)
/-- rows of fractions -/
structure Rows (H : Hp) (b A : Addr) (xs : List V) (qs : List Rat) (W S : Nat) : Prop where
  at_ : H A = some (.lst xs)
  f : Frw H xs qs W
  s : Bq S (qsum qs)
theorem small8 {n : Int} (h : n.natAbs < 2 ^ 8) : n.natAbs < 2 ^ 8000 := Nat.lt_of_lt_of_le h (Nat.pow_le_pow_right (by decide) (by decide))
section
variable {P : Program} {w : World} {K : PySem.W.Frag} {mg : Str → Option Value} {base : Heap}
theorem ok__law_is_whole {f : Addr} {fd : FuncData} (F : Fun K "_law_is_whole" "_law_is_whole" sLIsWhole f fd) (T : Txt mg) : FnOk P w K mg base CX0 1 f fd ["_law_thing"] spIsInt := by
  refine F.ok scLIsWhole (fun vs H Q E h => ?_) (fun cdv A outer s H vs Q E hr h => ?_)
  · obtain ⟨i, rfl, _⟩ := h
    rfl
  · obtain ⟨i, rfl, go⟩ := h
    refine ⟨_, (pss_one (ps_ret (pe_and (pe_callB call_isi (by rfl) T.isinstance (by decide +kernel) (pa_cons (pv 0) (pa_cons (pe_bltn (v := .ty "int") (u := .type "int") (by rfl) T.int (by decide +kernel) rfl) pa_nil))) (pe_one (pe_not (pe_callB call_isi (by rfl) T.isinstance (by decide +kernel) (pa_cons (pv 0) (pa_cons (pe_bltn (v := .ty "bool") (u := .type "bool") (by rfl) T.bool (by decide +kernel) rfl) pa_nil)))))))), ?_⟩
    refine ⟨_, rfl, _, _, _, _, true, rfl, .ty _, .base (.int i), kit_ty (by decide +kernel), _, rfl, iteT ?_⟩
    exact ⟨_, rfl, _, _, _, _, false, rfl, .ty _, .base (.int i), kit_ty (by decide +kernel), _, rfl, go⟩
theorem ok_law {f : Addr} {fd : FuncData} (F : Fun K "law" "law" sLaw f fd) (T : Txt mg) (TG : mg "gcd" = some (.builtin "math.gcd"))
    (DIsWhole : Df K mg "is_whole" sIsWhole ["thing"]) (DDivisor : Df K mg "divisor" sDivisor ["one", "other"]) (DDown : Df K mg "down" sDown ["top", "bottom"]) (DUp : Df K mg "up" sUp ["top", "bottom"]) (DFraction : Df K mg "fraction" sFraction ["top", "bottom"]) (DPlus : Df K mg "plus" sPlus ["one", "other"])
    (DLeastFrom : Df K mg "least_from" sLeastFrom ["one"]) (DLeastAbove : Df K mg "least_above" sLeastAbove ["one"]) (DTotal : Df K mg "total" sTotal ["some"])
    (DLBag : Df K mg "_law_bag" sLBag ["_law_script"]) (DLTake : Df K mg "_law_take" sLTake ["_law_bag_here", "_law_many"]) (DLAlike : Df K mg "_law_alike" sLAlike ["_law_found", "_law_due"]) (DLOne : Df K mg "_law_one" sLOne ["_law_bag_here", "_law_some"])
    (DLIsWhole : Df K mg "_law_is_whole" sLIsWhole ["_law_thing"]) (DLFigures : Df K mg "_law_figures" sLFigures ["_law_bag_here", "_law_most"]) (DLSigned : Df K mg "_law_signed" sLSigned ["_law_bag_here", "_law_most"])
    (DLDivisor : Df K mg "_law_divisor" sLDivisor ["_law_one_here", "_law_other"]) (DLLowest : Df K mg "_law_lowest" sLLowest ["_law_top", "_law_bottom"]) (DLFraction : Df K mg "_law_fraction" sLFraction ["_law_bag_here", "_law_most"]) (DLSumOf : Df K mg "_law_sum_of" sLSumOf ["_law_some"]) :
    FnG P w K mg base 7 f fd ["_law_script"] (spLaw K) := by
  have GLBag := ok_bag (P := P) (w := w) (base := base) DLBag.F T
  have GLTake := ok_take (P := P) (w := w) (base := base) DLTake.F T
  have GLAlike := ok_alike (P := P) (w := w) (base := base) DLAlike.F T
  have GLOne := ok_one (P := P) (w := w) (base := base) DLOne.F T DLTake
  have GLIsWhole := ok__law_is_whole (P := P) (w := w) (base := base) DLIsWhole.F T
  have GLFraction := ok_lfraction (P := P) (w := w) (base := base) DLFraction.F T DLTake DLFigures DLSigned DLDivisor DLLowest
  have GFraction := ok_fraction (P := P) (w := w) (base := base) DFraction.F T TG DIsWhole DDivisor
  have GTotal := ok_total (P := P) (w := w) (base := base) DTotal.F T TG DIsWhole DDivisor DFraction DPlus
  have GLSumOf := ok_sum_of (P := P) (w := w) (base := base) DLSumOf.F T DLDivisor DLLowest
  have GLeastFrom := ok_least_from (P := P) (w := w) (base := base) DLeastFrom.F DUp
  have GLeastAbove := ok_least_above (P := P) (w := w) (base := base) DLeastAbove.F DDown
  refine okG F scLaw (fun vs H Q E h => ?_) (fun cdv A outer s H vs Q E hr hg h => ?_)
  · obtain ⟨a, ns, rfl, _⟩ := h
    rfl
  · obtain ⟨a, ns, rfl, hS, hl, go⟩ := h
    refine ⟨_, (pss_cons (ps_set (i := 1) scLaw.nd rfl (.inr rfl) (pe_call GLBag (hr.mono (by decide)) rfl DLBag.mg DLBag.kp DLBag.b .nil pass0 (pa_cons (pv 0) pa_nil)))
    (pss_cons (ps_for PassesOwn.never rfl (pi_range1 (by rfl) T.range (pa_cons pe_int pa_nil)) (pg_name (i := 2) scLaw.nd rfl (.inl rfl))
      (pss_cons (ps_set (i := 3) scLaw.nd rfl (.inr rfl) (pe_call GLOne (hr.mono (by decide)) rfl DLOne.mg DLOne.kp DLOne.b .nil pass0 (pa_cons (pv 1) (pa_cons (pe_lst (pa_cons pe_int (pa_cons pe_int (pa_cons pe_int (pa_cons pe_int pa_nil))))) pa_nil))))
      (pss_cons (ps_set (i := 4) scLaw.nd rfl (.inl rfl) (pe_call GLFraction (hr.mono (by decide)) rfl DLFraction.mg DLFraction.kp DLFraction.b .nil pass0 (pa_cons (pv 1) (pa_cons (pv 3) pa_nil))))
      (pss_cons (ps_for PassesOwn.never rfl (pi_tup (pe_tup (pa_cons (pv 4) (pa_cons (pe_tup (pa_cons (pe_ix ix_tup (pv 4) pe_int (fun _ _ => rfl)) (pa_cons pe_int pa_nil))) (pa_cons (pe_call GFraction (hr.mono (by decide)) rfl DFraction.mg DFraction.kp DFraction.b .nil pass0 (pa_cons (pe_op My.op_addC (pe_op My.op_mulC (pe_ix ix_tup (pv 4) pe_int (fun _ _ => rfl)) (pe_ix ix_tup (pv 4) pe_int (fun _ _ => rfl))) pe_int) (pa_cons (pe_ix ix_tup (pv 4) pe_int (fun _ _ => rfl)) pa_nil))) pa_nil))))) (pg_name (i := 5) scLaw.nd rfl (.inl rfl))
        (pss_cons (ps_par (i := 6) (j := 7) rfl scLaw.nd rfl rfl (by decide) rfl rfl (pa_cons (pe_call GLeastFrom (hr.mono (by decide)) rfl DLeastFrom.mg DLeastFrom.kp DLeastFrom.b .nil pass0 (pa_cons (pv 5) pa_nil)) (pa_cons (pe_call GLeastAbove (hr.mono (by decide)) rfl DLeastAbove.mg DLeastAbove.kp DLeastAbove.b .nil pass0 (pa_cons (pv 5) pa_nil)) pa_nil)) (by rfl))
        (pss_cons (ps_if (PW.pt (pw_or (pt_not (pt_val (pe_call GLIsWhole (hr.mono (by decide)) rfl DLIsWhole.mg DLIsWhole.kp DLIsWhole.b .nil pass0 (pa_cons (pv 6) pa_nil)))) (pw_or1 (pt_not (pt_chain My.op_ltC My.op_leC (pe_op My.op_mulC (pe_op My.op_subC (pv 6) pe_int) (pe_ix ix_tup (pv 5) pe_int (fun _ _ => rfl))) (pe_ix ix_tup (pv 5) pe_int (fun _ _ => rfl)) (pe_op My.op_mulC (pv 6) (pe_ix ix_tup (pv 5) pe_int (fun _ _ => rfl))))))))
          (pss_one (ps_ret pe_bl))
          pss_nil)
        (pss_one (ps_if (PW.pt (pw_or (pt_not (pt_val (pe_call GLIsWhole (hr.mono (by decide)) rfl DLIsWhole.mg DLIsWhole.kp DLIsWhole.b .nil pass0 (pa_cons (pv 7) pa_nil)))) (pw_or1 (pt_not (pt_chain My.op_leC My.op_ltC (pe_op My.op_mulC (pe_op My.op_subC (pv 7) pe_int) (pe_ix ix_tup (pv 5) pe_int (fun _ _ => rfl))) (pe_ix ix_tup (pv 5) pe_int (fun _ _ => rfl)) (pe_op My.op_mulC (pv 7) (pe_ix ix_tup (pv 5) pe_int (fun _ _ => rfl))))))))
          (pss_one (ps_ret pe_bl))
          pss_nil)))))
      (pss_cons (ps_setLc (i := 8) rfl scLaw.nd rfl rfl (sw_true rfl rfl rfl (by decide +kernel)) (pi_range1 (by rfl) T.range (pa_cons (pe_call GLTake (hr.mono (by decide)) rfl DLTake.mg DLTake.kp DLTake.b .nil pass0 (pa_cons (pv 1) (pa_cons pe_int pa_nil))) pa_nil)) (blkOk_by (N := scLawN) (sc := defScope sLaw) (own := [("_law_k", 9)]) (by decide +kernel)) (fun _ _ _ _ _ => pg_name (i := 9) scLaw.nd rfl (.inl rfl)) (fun _ _ _ _ _ => pts_nil) (fun _ _ _ _ _ => (pe_call GLFraction (hr.mono (by decide)) rfl DLFraction.mg DLFraction.kp DLFraction.b .nil pass0 (pa_cons (pv 1) (pa_cons (pe_op My.op_addC pe_int (pe_op My.op_fdivC (pv 3) pe_int)) pa_nil)))))
      (pss_cons (ps_set (i := 10) scLaw.nd rfl (.inl rfl) (pe_call GLTake (hr.mono (by decide)) rfl DLTake.mg DLTake.kp DLTake.b .nil pass0 (pa_cons (pv 1) (pa_cons pe_int pa_nil))))
      (C8.pss_cut (ps_if (pt_cmpR My.op_eqC (pv 10) pe_int (nomark _))
        (pss_one (ps_set (i := 8) scLaw.nd rfl (.inl rfl) (pe_op op_cat (pv 8) (pe_lc rfl scLaw.nd (pi_range1 (by rfl) T.range (pa_cons pe_int pa_nil)) (blkOk_by (N := scLawN) (sc := defScope sLaw) (own := [("_law_k", 9)]) (by decide +kernel)) (fun _ _ _ _ _ => pg_name (i := 9) scLaw.nd rfl (.inl rfl)) (fun _ _ _ _ _ => pts_nil) (fun _ _ _ _ _ => (pe_tup (pa_cons (pv 9) (pa_cons (pe_op My.op_addC (pe_op My.op_mulC pe_int (pv 9)) pe_int) pa_nil))))))))
        pss_nil)
      (C8.pss_cut (ps_if (pt_cmpR My.op_eqC (pv 10) pe_int (nomark _))
        (pss_one (ps_set (i := 8) scLaw.nd rfl (.inl rfl) (pe_op op_cat (pv 8) (pe_lc rfl scLaw.nd (pi_range1 (by rfl) T.range (pa_cons pe_int pa_nil)) (blkOk_by (N := scLawN) (sc := defScope sLaw) (own := [("_law_k", 9)]) (by decide +kernel)) (fun _ _ _ _ _ => pg_name (i := 9) scLaw.nd rfl (.inl rfl)) (fun _ _ _ _ _ => pts_nil) (fun _ _ _ _ _ => (pe_tup (pa_cons (pe_op My.op_addC (pe_op My.op_mulC pe_int (pv 9)) pe_int) (pa_cons pe_int pa_nil))))))))
        pss_nil)
      (pss_cons (ps_par (i := 11) (j := 12) rfl scLaw.nd rfl rfl (by decide) rfl rfl (pa_cons (pe_callB (My.call_repr hg hr.units) (by rfl) T.repr (by decide +kernel) (pa_cons (pv 8) pa_nil)) (pa_cons (pe_call GLSumOf (hr.mono (by decide)) rfl DLSumOf.mg DLSumOf.kp DLSumOf.b .nil pass0 (pa_cons (pv 8) pa_nil)) pa_nil)) (by rfl))
      (pss_one (ps_if (PW.pt (pw_or (pt_not (pt_val (My.pe_callG GLAlike (hr.mono (by decide)) hg rfl DLAlike.mg DLAlike.kp DLAlike.b (pa_cons (pe_lst (pa_cons (pe_call GTotal (hr.mono (by decide)) rfl DTotal.mg DTotal.kp DTotal.b .nil pass0 (pa_cons (pv 8) pa_nil)) (pa_cons (pe_call GTotal (hr.mono (by decide)) rfl DTotal.mg DTotal.kp DTotal.b .nil pass0 (pa_cons (pe_revL (pv 8)) pa_nil)) pa_nil))) (pa_cons (pe_lst (pa_cons (pv 12) (pa_cons (pv 12) pa_nil))) pa_nil))))) (pw_or1 (pt_cmpR My.op_neC (pe_callB (My.call_repr hg hr.units) (by rfl) T.repr (by decide +kernel) (pa_cons (pv 8) pa_nil)) (pv 11) (nomark _)))))
        (pss_one (ps_ret pe_bl))
        pss_nil)))))))))))
    (pss_cons (ps_set (i := 13) scLaw.nd rfl (.inl rfl) (pe_lst (pa_cons (pe_call GLeastFrom (hr.mono (by decide)) rfl DLeastFrom.mg DLeastFrom.kp DLeastFrom.b .nil pass0 (pa_cons (pe_tup (pa_cons pe_int (pa_cons pe_int pa_nil))) pa_nil)) (pa_cons (pe_call GLeastAbove (hr.mono (by decide)) rfl DLeastAbove.mg DLeastAbove.kp DLeastAbove.b .nil pass0 (pa_cons (pe_tup (pa_cons pe_int (pa_cons pe_int pa_nil))) pa_nil)) (pa_cons (pe_call GLeastFrom (hr.mono (by decide)) rfl DLeastFrom.mg DLeastFrom.kp DLeastFrom.b .nil pass0 (pa_cons (pe_tup (pa_cons pe_int (pa_cons pe_int pa_nil))) pa_nil)) pa_nil)))))
    (pss_cons (ps_set (i := 13) scLaw.nd rfl (.inl rfl) (pe_op op_cat (pv 13) (pe_lst (pa_cons (pe_call GLeastAbove (hr.mono (by decide)) rfl DLeastAbove.mg DLeastAbove.kp DLeastAbove.b .nil pass0 (pa_cons (pe_tup (pa_cons pe_int (pa_cons pe_int pa_nil))) pa_nil)) (pa_cons (pe_call GLeastFrom (hr.mono (by decide)) rfl DLeastFrom.mg DLeastFrom.kp DLeastFrom.b .nil pass0 (pa_cons (pe_tup (pa_cons (pe_un un_neg pe_int) (pa_cons pe_int pa_nil))) pa_nil)) pa_nil)))))
    (pss_one (ps_ret (My.pe_callG GLAlike (hr.mono (by decide)) hg rfl DLAlike.mg DLAlike.kp DLAlike.b (pa_cons (pe_op op_cat (pv 13) (pe_lst (pa_cons (pe_call GLeastAbove (hr.mono (by decide)) rfl DLeastAbove.mg DLeastAbove.kp DLeastAbove.b .nil pass0 (pa_cons (pe_tup (pa_cons (pe_un un_neg pe_int) (pa_cons pe_int pa_nil))) pa_nil)) (pa_cons (pe_call GTotal (hr.mono (by decide)) rfl DTotal.mg DTotal.kp DTotal.b .nil pass0 (pa_cons (pe_lst pa_nil) pa_nil)) pa_nil)))) (pa_cons (pe_lst (pa_cons pe_int (pa_cons pe_int (pa_cons pe_int (pa_cons pe_int (pa_cons pe_int (pa_cons pe_int (pa_cons (pe_tup (pa_cons pe_int (pa_cons pe_int pa_nil))) pa_nil)))))))) pa_nil))))))))), ?_⟩
    refine ⟨_, rfl, a, ns, rfl, hS, hl, fun b H1 _ B1 _ => ?_⟩
    refine ⟨6, rfl, by decide, by decide, for_range (n := 6) (fun i σ H' => ∃ v2 v3 v4 v5 v6 v7 v8 v9 v10 v11 v12 v13 : Option V, σ = [some (.ref a), some (.ref b), v2, v3, v4, v5, v6, v7, v8, v9, v10, v11, v12, v13] ∧ Bag H' b)
      ⟨_, _, _, _, _, _, _, _, _, _, _, _, rfl, B1⟩ ?_ ?_⟩
    · rintro i σ H2 hi ⟨v2, v3, v4, v5, v6, v7, v8, v9, v10, v11, v12, v13, rfl, B2⟩
      refine ⟨_, rfl, by show 4 ≤ sizeLine; decide, fun l hl => ?_⟩
      refine ⟨b, l, _, rfl, B2.same (Same.new hl), upd_same, B2.ne hl, by show 0 < 4; decide, by show 4 ≤ 100000; decide, fun v H3 hv B3 k3 => ?_⟩
      obtain ⟨m, rfl, hm0, hm⟩ : ∃ m : Nat, v = .int (m : Int) ∧ 0 < m ∧ m ≤ 99 := by
        rcases List.mem_cons.mp hv with rfl | hv
        · exact ⟨2, rfl, by decide, by decide⟩
        rcases List.mem_cons.mp hv with rfl | hv
        · exact ⟨2, rfl, by decide, by decide⟩
        rcases List.mem_cons.mp hv with rfl | hv
        · exact ⟨9, rfl, by decide, by decide⟩
        · rw [List.mem_singleton.mp hv]
          exact ⟨99, rfl, by decide, by decide⟩
      refine ⟨_, rfl, _, rfl, b, m, rfl, B3, hm0, by omega, fun p q H4 hp hp4 bq B4 k4 => ?_⟩
      have bq := bq.up (m := 409) (by omega)
      have hdq : ((q.den : Int)).natAbs < 2 ^ 409 := by rw [den_abs]; exact bq.d
      refine ⟨_, rfl, _, rfl, p, _, 0, _, rfl, rfl, SqT.of hp4, atI_nat (j := 0) rfl, by show 2 ≤ sizeLine; decide, fun p1 hp1 => ?_⟩
      have t1 := Same.new (o := .tup [.int q.num, .int 1]) hp1
      have p41 := t1 _ _ hp4
      have l1 := mul_lt bq.n hdq
      refine ⟨_, rfl, p, _, 0, _, rfl, rfl, SqT.of p41, atI_nat (j := 0) rfl, _, rfl, p, _, 1, _, rfl, rfl, SqT.of p41, atI_nat (j := 1) rfl, _, _, q.num * (q.den : Int), rfl, rfl, mulok_of bq.n hdq (by decide) (by decide) (by decide), rfl, _, _, q.num * (q.den : Int) + 1, rfl, rfl, rfl,
        _, rfl, p, _, 1, _, rfl, rfl, SqT.of p41, atI_nat (j := 1) rfl, _, _, rfl, den0 q, small_of hdq (by decide), fun p2 H5 hp2 f2 s5 => ?_⟩
      have l2 := add_lt l1 (b := 1) (Nat.lt_of_lt_of_le (by decide : (1 : Int).natAbs < 2 ^ 1) (Nat.pow_le_pow_right (by decide) (by decide)))
      have bq3 := bq_divInt (den0 q) l2 (up5 hdq (by decide))
      generalize Rat.divInt (q.num * (q.den : Int) + 1) (q.den : Int) = q3 at f2 bq3
      clear l1 l2
      refine ⟨by show 3 ≤ sizeLine; decide, fun t ht => ?_⟩
      have t5 := Same.new (o := .tup [.ref p, .ref p1, .ref p2]) ht
      obtain ⟨_, e2, hp25⟩ := f2
      cases e2
      have trip : ∀ r ∈ [V.ref p, .ref p1, .ref p2], ∃ (pr : Addr) (u y : Int), r = .ref pr ∧ upd H5 t (.tup [.ref p, .ref p1, .ref p2]) pr = some (.tup [.int u, .int y]) ∧ 0 < y ∧ u.natAbs < 2 ^ 900 ∧ y.natAbs < 2 ^ 900 := by
        intro r hr
        rcases List.mem_cons.mp hr with rfl | hr
        · exact ⟨p, _, _, rfl, t5 _ _ (s5 _ _ p41), Int.natCast_pos.mpr q.den_pos, up5 bq.n (by decide), up5 hdq (by decide)⟩
        rcases List.mem_cons.mp hr with rfl | hr
        · exact ⟨p1, _, _, rfl, t5 _ _ (s5 _ _ upd_same), by decide, up5 bq.n (by decide), Nat.lt_of_lt_of_le (by decide : (1 : Int).natAbs < 2 ^ 1) (Nat.pow_le_pow_right (by decide) (by decide))⟩
        · rw [List.mem_singleton.mp hr]
          exact ⟨p2, _, _, rfl, t5 _ _ hp25, Int.natCast_pos.mpr q3.den_pos, up5 bq3.n (by decide), up5 (by rw [den_abs]; exact bq3.d) (by decide)⟩
      have B6 := ((B4.same t1).same s5).same t5
      refine ⟨t, rfl, ⟨_, SqT.of upd_same⟩, ?_⟩
      have htt : upd H5 t (.tup [.ref p, .ref p1, .ref p2]) t = some (.tup [.ref p, .ref p1, .ref p2]) := upd_same
      generalize upd H5 t (.tup [.ref p, .ref p1, .ref p2]) = H6 at trip B6 htt ⊢
      refine for_tup (K := K) (a := t) (xs := [.ref p, .ref p1, .ref p2]) (fun i σ H' => ∃ w2 w4 w5 w6 w7 w8 w9 w10 w11 w12 w13 : Option V, σ = [some (.ref a), some (.ref b), w2, some (.int (m : Int)), w4, w5, w6, w7, w8, w9, w10, w11, w12, w13] ∧ H' = H6)
        ⟨_, _, _, _, _, _, _, _, _, _, _, rfl, rfl⟩ (fun i σ H' _ ⟨_, _, _, _, _, _, _, _, _, _, _, _, s⟩ => by rw [s]; exact SqT.of htt) ?_ ?_
      · rintro j r σ H' hj ⟨w2, w4, w5, w6, w7, w8, w9, w10, w11, w12, w13, rfl, rfl⟩
        obtain ⟨pr, u, y, rfl, hpr, hy, hu, hy2⟩ := trip r (List.mem_of_getElem? hj)
        have h8 := up5 (m := 8000) hy2 (by decide)
        have hy3 := up5 (m := 901) hy2 (by decide)
        obtain ⟨l1, l2⟩ := div_le hy hu
        obtain ⟨u1, u2⟩ := up_spec (t := u) hy
        obtain ⟨d1, d2⟩ := down_spec (t := u) hy
        have one1 : (1 : Int).natAbs < 2 ^ 901 := Nat.lt_of_lt_of_le (by decide : (1 : Int).natAbs < 2 ^ 1) (Nat.pow_le_pow_right (by decide) (by decide))
        refine ⟨_, rfl, pr, u, y, rfl, hpr, hy, h8, _, rfl, pr, u, y, rfl, hpr, hy, h8, _, _, rfl, ?_⟩
        refine ⟨_, rfl, _, rfl, _, rfl, iteF ?_⟩
        refine ⟨_, rfl, _, _, _, rfl, rfl, rfl, _, rfl, pr, _, 1, _, rfl, rfl, SqT.of hpr, atI_nat (j := 1) rfl, _, _, _, rfl, rfl, mulok_of (sub_lt l2 one1) hy3 (by decide) (by decide) (by decide), rfl, _, rfl, pr, _, 0, _, rfl, rfl, SqT.of hpr, atI_nat (j := 0) rfl, _, _, true, rfl, rfl, decide_eq_true u1, _, rfl, iteT ?_⟩
        refine ⟨_, rfl, _, rfl, pr, _, 1, _, rfl, rfl, SqT.of hpr, atI_nat (j := 1) rfl, _, _, _, rfl, rfl, mulok_of l2 hy3 (by decide) (by decide) (by decide), rfl, _, _, true, rfl, rfl, decide_eq_true u2, _, rfl, iteF ?_⟩
        refine ⟨_, rfl, _, rfl, _, rfl, iteF ?_⟩
        refine ⟨_, rfl, _, _, u / y, rfl, rfl, Int.add_sub_cancel _ _, _, rfl, pr, _, 1, _, rfl, rfl, SqT.of hpr, atI_nat (j := 1) rfl, _, _, _, rfl, rfl, mulok_of l1 hy3 (by decide) (by decide) (by decide), rfl, _, rfl, pr, _, 0, _, rfl, rfl, SqT.of hpr, atI_nat (j := 0) rfl, _, _, true, rfl, rfl, decide_eq_true d1, _, rfl, iteT ?_⟩
        refine ⟨_, rfl, _, rfl, pr, _, 1, _, rfl, rfl, SqT.of hpr, atI_nat (j := 1) rfl, _, _, _, rfl, rfl, mulok_of (add_lt l1 one1) hy3 (by decide) (by decide) (by decide), rfl, _, _, true, rfl, rfl, decide_eq_true d2, _, rfl, iteF ?_⟩
        exact ⟨_, _, _, _, _, _, _, _, _, _, _, rfl, rfl⟩
      · rintro σ H' ⟨w2, w4, w5, w6, w7, w8, w9, w10, w11, w12, w13, rfl, rfl⟩
        clear trip
        refine ⟨_, rfl, b, 8, rfl, B6, by decide, small64 (by decide), fun r H7 r0 r8 B7 k7 => ?_⟩
        obtain ⟨n, rfl⟩ : ∃ n : Nat, r = (n : Int) := ⟨r.toNat, by omega⟩
        have hn : n < 8 := by omega
        refine ⟨_, rfl, by omega, by omega, fun D hD => ?_⟩
        have nDb := B7.ne hD
        refine lc_range (lo := 0) (n := n) (fun i H' => ∃ xs qs W, H' D = some (.lst xs) ∧ Frw H' xs qs W ∧ W ≤ i * 38 ∧ xs.length = i ∧ Bq (2 + W) (qsum qs) ∧ Bag H' b ∧ Keep b H7 H') ⟨[], [], 0, upd_same, .nil, by decide, rfl, bq_0, B7.same (Same.new hD), (Keep.refl).new hD⟩ ?_ ?_
        · rintro j H' hj ⟨xs, qs, W, h1, h2, h3, h4, hbs, h5, h6⟩
          refine ⟨rfl, _, rfl, _, rfl, _, _, ((m / 20 : Nat) : Int), rfl, rfl, wide_div (b := 8) (by decide) (by decide) (by decide) (by decide), by show (m : Int) / 20 = _; omega, _, _, ((2 + m / 20 : Nat) : Int), rfl, rfl, by show (2 : Int) + ((m / 20 : Nat) : Int) = _; omega, b, 2 + m / 20, rfl, h5, by omega, by omega, fun pn qn H8 hpn hpn8 bqn B8 k8 => ?_⟩
          have hD8 := k8 D _ h1 nDb
          have bqn := bqn.up (m := 37) (by omega)
          refine ⟨xs, hD8, by rw [h4, sizeLine_eq]; omega, xs ++ [.ref pn], qs ++ [qn], W + 38, upd_same, ?_, by omega, by rw [List.length_append, h4]; rfl, ?_, Bag.mutK B7 hD (h6.trans k8) B8, Keep.mut hD nDb (h6.trans k8)⟩
          · exact (Frw.updL hD8 (h2.keep h5 k8)).app (.one (FracAt.updL ⟨pn, rfl, hpn8⟩ hD8) bqn (by decide))
          · rw [qsum_append, qsum_one]
            exact (hbs.add bqn).up (by omega)
        rintro H8 ⟨xs, qs, W, h1, h2, h3, _, hbs, B8, k8⟩
        have hW : W ≤ 266 := by
          have : n * 38 ≤ 7 * 38 := Nat.mul_le_mul_right _ (by omega)
          omega
        refine ⟨_, rfl, b, 24, rfl, B8, by decide, small64 (by decide), fun r H9 r0 r24 B9 k9 => ?_⟩
        have rows9 : Rows H9 b D xs qs W (2 + W) := ⟨k9 D _ h1 (B7.ne hD), h2.keep B8 k9, hbs⟩
        clear h1 h2 hbs
        refine ⟨fun σ' H' => ∃ (A : Addr) (xs : List V) (qs : List Rat) (W S : Nat) (w9 : Option V), σ' = [some (.ref a), some (.ref b), w2, some (.int (m : Int)), w4, w5, w6, w7, some (.ref A), w9, some (.int r), w11, w12, w13] ∧ Rows H' b A xs qs W S ∧ W ≤ 586 ∧ S ≤ 591 ∧ Bag H' b, ?_, ?_⟩
        · refine ⟨_, rfl, _, rfl, rfl, _, rfl, ite2 (fun e => ?_) (fun e => ?_)⟩
          · refine ⟨_, rfl, 40, rfl, by decide, by decide, fun D2 hD2 => ?_⟩
            refine lc_range (lo := 0) (n := 40) (fun i H' => ∃ ys, H' D2 = some (.lst ys) ∧ Frw H' ys ((List.range i).map q1) (i * 8) ∧ ys.length = i ∧ Same H9 H') ⟨[], upd_same, .nil, rfl, Same.new hD2⟩ ?_ ?_
            · rintro j H' hj ⟨ys, h1, h2, h3, h4⟩
              refine ⟨rfl, _, rfl, _, rfl, _, _, ((2 * j : Nat) : Int), rfl, rfl, .inl (.inl ⟨by decide, by decide⟩), by show (2 : Int) * (0 + (j : Int)) = _; omega, _, _, ((2 * j + 1 : Nat) : Int), rfl, rfl, by show ((2 * j : Nat) : Int) + 1 = _; omega, by show 2 ≤ sizeLine; decide, fun pn hpn => ?_⟩
              have tn := Same.new (o := .tup [.int (0 + (j : Int)), .int ((2 * j + 1 : Nat) : Int)]) hpn
              have fn : FracAt (upd H' pn (.tup [.int (0 + (j : Int)), .int ((2 * j + 1 : Nat) : Int)])) (.ref pn) (q1 j) := ⟨pn, rfl, by rw [upd_same, Int.zero_add] <;> rfl⟩
              have h1' := tn _ _ h1
              refine ⟨ys, h1', by rw [h3, sizeLine_eq]; omega, ys ++ [.ref pn], upd_same, ?_, by rw [List.length_append, h3]; rfl, Same.mut hD2 (h4.trans tn)⟩
              rw [List.range_succ, List.map_append, show (j + 1) * 8 = j * 8 + 8 from Nat.succ_mul ..]
              exact Frw.updL h1' ((h2.same tn).app (.one fn (bq1 hj) (by decide)))
            rintro H10 ⟨ys, h1, h2, h3, h4⟩
            have hxs := rows9.f.le
            refine ⟨D, D2, _, _, rfl, rfl, h4 _ _ rows9.at_, h1, by rw [h3, sizeLine_eq]; omega, fun C hC => ?_⟩
            have tc := Same.new (o := .lst (xs ++ ys)) hC
            refine ⟨C, xs ++ ys, qs ++ (List.range 40).map q1, W + 40 * 8, (2 + W) + 322 + 1, _, rfl, ⟨upd_same, ((rows9.f.same h4).app h2).same tc, ?_⟩, by omega, by omega, (B9.same h4).same tc⟩
            rw [qsum_append]
            exact rows9.s.add (bqs1 40 (Nat.le_refl _))
          · exact ⟨D, xs, qs, W, 2 + W, _, rfl, rows9, by omega, by omega, B9⟩
        rintro σ' H10 ⟨A, xs, qs, W, S, w9', rfl, R, hW, hS', B10⟩
        refine ⟨fun σ' H' => ∃ (A : Addr) (xs : List V) (qs : List Rat) (W S : Nat) (w9 : Option V), σ' = [some (.ref a), some (.ref b), w2, some (.int (m : Int)), w4, w5, w6, w7, some (.ref A), w9, some (.int r), w11, w12, w13] ∧ Rows H' b A xs qs W S ∧ W ≤ 3809 ∧ S ≤ 612 ∧ Bag H' b, ?_, ?_⟩
        · refine ⟨_, rfl, _, rfl, rfl, _, rfl, ite2 (fun e => ?_) (fun e => ?_)⟩
          · refine ⟨_, rfl, 293, rfl, by decide, by decide, fun D2 hD2 => ?_⟩
            refine lc_range (lo := 0) (n := 293) (fun i H' => ∃ ys, H' D2 = some (.lst ys) ∧ Frw H' ys ((List.range i).map q2) (i * 11) ∧ ys.length = i ∧ Same H10 H') ⟨[], upd_same, .nil, rfl, Same.new hD2⟩ ?_ ?_
            · rintro j H' hj ⟨ys, h1, h2, h3, h4⟩
              refine ⟨rfl, _, rfl, _, _, ((2 * j : Nat) : Int), rfl, rfl, .inl (.inl ⟨by decide, by decide⟩), by show (2 : Int) * (0 + (j : Int)) = _; omega, _, _, ((2 * j + 1 : Nat) : Int), rfl, rfl, by show ((2 * j : Nat) : Int) + 1 = _; omega, by show 2 ≤ sizeLine; decide, fun pn hpn => ?_⟩
              have tn := Same.new (o := .tup [.int ((2 * j + 1 : Nat) : Int), .int 2]) hpn
              have fn : FracAt (upd H' pn (.tup [.int ((2 * j + 1 : Nat) : Int), .int 2])) (.ref pn) (q2 j) := ⟨pn, rfl, upd_same⟩
              have h1' := tn _ _ h1
              refine ⟨ys, h1', by rw [h3, sizeLine_eq]; omega, ys ++ [.ref pn], upd_same, ?_, by rw [List.length_append, h3]; rfl, Same.mut hD2 (h4.trans tn)⟩
              rw [List.range_succ, List.map_append, show (j + 1) * 11 = j * 11 + 11 from Nat.succ_mul ..]
              exact Frw.updL h1' ((h2.same tn).app (.one fn (bq2 hj) (by decide)))
            rintro H12 ⟨ys, h1, h2, h3, h4⟩
            have hxs := R.f.le
            refine ⟨A, D2, _, _, rfl, rfl, h4 _ _ R.at_, h1, by rw [h3, sizeLine_eq]; omega, fun C hC => ?_⟩
            have tc := Same.new (o := .lst (xs ++ ys)) hC
            refine ⟨C, xs ++ ys, qs ++ (List.range 293).map q2, W + 293 * 11, S + 20 + 1, _, rfl, ⟨upd_same, ((R.f.same h4).app h2).same tc, ?_⟩, by omega, by omega, (B10.same h4).same tc⟩
            rw [qsum_append]
            exact R.s.add ⟨sum2.1, sum2.2⟩
          · exact ⟨A, xs, qs, W, S, _, rfl, R, by omega, by omega, B10⟩
        rintro σ' H11 ⟨A, xs, qs, W, S, w9', rfl, R, hW, hS', B11⟩
        have hA := R.at_
        have fA := R.f
        have bs : Bq 1920 (qsum qs) := R.s.up (by omega)
        have fine := fA.fine (by omega)
        refine ⟨_, rfl, _, _, rfl, .lst (SqL.of hA) fA.dp, fine, _, rfl, A, xs, qs, W, rfl, hA, fA, by omega, fun p1 H12 hp1 f1 s1 => ⟨_, _, rfl, ?_⟩⟩
        refine ⟨_, rfl, A, xs, qs, W, rfl, s1 _ _ hA, fA.same s1, by omega, fun p2 H13 hp2 f2 s2 => ?_⟩
        refine ⟨_, rfl, A, xs, rfl, SqL.of (s2 _ _ (s1 _ _ hA)), fun R2 hR2 => ?_⟩
        have t2 := Same.new (o := .lst xs.reverse) hR2
        refine ⟨R2, xs.reverse, qs.reverse, W, rfl, upd_same, ((((fA.same s1).same s2).same t2)).rev, by omega, fun p3 H14 hp3 f3 s3 => ?_⟩
        rw [qsum_reverse] at f3
        refine ⟨by show 2 ≤ sizeLine; decide, fun l1 hl1 => ?_⟩
        have t3 := Same.new (o := .lst [.ref p2, .ref p3]) hl1
        refine ⟨_, rfl, _, rfl, by show 2 ≤ sizeLine; decide, fun l2 hl2 => ?_⟩
        have t4 := Same.new (o := .lst [.ref p1, .ref p1]) hl2
        have u2 := ((t2.trans s3).trans t3).trans t4
        have d1 := dp_q (K := K) ((f1.same s2).same u2)
        refine ⟨_, _, .list [qD (qsum qs), qD (qsum qs)], rfl, .lst (SqL.of (t4 _ _ upd_same)) (.cons (dp_q (f2.same u2)) (.cons (dp_q ((f3.same t3).same t4)) .nil)), .lst (SqL.of upd_same) (.cons d1 (.cons d1 .nil)), fine_q2 bs, _, rfl, iteF ?_⟩
        have uu := (s1.trans s2).trans u2
        refine ⟨_, rfl, _, _, rfl, .lst (SqL.of (uu _ _ hA)) (fA.same uu).dp, fine, _, rfl, true, rfl, decide_eq_true rfl, _, rfl, iteF ?_⟩
        exact ⟨_, _, _, _, _, _, _, _, _, _, _, _, rfl, B11.same uu⟩
    · rintro σ H2 ⟨v2, v3, v4, v5, v6, v7, v8, v9, v10, v11, v12, v13, rfl, B2⟩
      refine ⟨by show 2 ≤ sizeLine; decide, fun g1 hg1 => ?_⟩
      refine ⟨g1, 7, 2, rfl, upd_same, by decide, small8 (by decide), by show 2 ≤ sizeLine; decide, fun g2 hg2 => ?_⟩
      refine ⟨g2, 7, 2, rfl, upd_same, by decide, small8 (by decide), by show 2 ≤ sizeLine; decide, fun g3 hg3 => ?_⟩
      refine ⟨g3, 6, 1, rfl, upd_same, by decide, small8 (by decide), by show 3 ≤ sizeLine; decide, fun l1 hl1 => ?_⟩
      refine ⟨_, rfl, by show 2 ≤ sizeLine; decide, fun g4 hg4 => ?_⟩
      refine ⟨g4, 6, 1, rfl, upd_same, by decide, small8 (by decide), _, rfl, by show 2 ≤ sizeLine; decide, fun g5 hg5 => ?_⟩
      refine ⟨g5, -1, 2, rfl, upd_same, by decide, small8 (by decide), by show 2 ≤ sizeLine; decide, fun l2 hl2 => ?_⟩
      have w2 := ((Same.new (o := .tup [.int 6, .int 1]) hg4).trans (Same.new (o := .tup [.int (-1), .int 2]) hg5)).trans (Same.new (o := .lst [.int (6 / 1 + 1), .int (-((-(-1)) / 2))]) hl2)
      refine ⟨l1, l2, _, _, rfl, rfl, w2 _ _ upd_same, upd_same, by show 5 ≤ sizeLine; decide, fun l3 hl3 => ?_⟩
      refine ⟨_, rfl, _, rfl, by show 2 ≤ sizeLine; decide, fun g6 hg6 => ?_⟩
      refine ⟨g6, -1, 2, rfl, upd_same, by decide, small8 (by decide), by show 0 ≤ sizeLine; decide, fun l4 hl4 => ?_⟩
      refine ⟨l4, [], [], 0, rfl, upd_same, .nil, by decide, fun p H3 hp f3 s3 => ?_⟩
      refine ⟨by show 2 ≤ sizeLine; decide, fun l5 hl5 => ?_⟩
      have w3 := (((Same.new (o := .tup [.int (-1), .int 2]) hg6).trans (Same.new (o := .lst []) hl4)).trans s3).trans (Same.new (o := .lst [.int (-1 / 2 + 1), .ref p]) hl5)
      refine ⟨l3, l5, _, _, rfl, rfl, w3 _ _ upd_same, upd_same, by show 7 ≤ sizeLine; decide, fun l6 hl6 => ?_⟩
      refine ⟨by show 2 ≤ sizeLine; decide, fun g7 hg7 => ?_⟩
      refine ⟨by show 7 ≤ sizeLine; decide, fun l7 hl7 => ?_⟩
      have f4 := ((f3.same (Same.new (o := .lst [.int (-1 / 2 + 1), .ref p]) hl5)).same (Same.new (o := .lst [.int 4, .int 4, .int 6, .int 7, .int 0, .int 0, .ref p]) hl6))
      have r7 := Same.new (o := .tup [.int 0, .int 1]) hg7
      have r8 := Same.new (o := .lst [.int 4, .int 4, .int 6, .int 7, .int 0, .int 0, .ref g7]) hl7
      have f5 : Dp K _ (.ref p) (.tuple [.int 0, .int 1]) := dp_q (q := 0) ((f4.same r7).same r8)
      refine ⟨_, _, .list [.int 4, .int 4, .int 6, .int 7, .int 0, .int 0, .tuple [.int 0, .int 1]], rfl, .lst (SqL.of (r8 _ _ (r7 _ _ upd_same))) (.cons (.int 4) (.cons (.int 4) (.cons (.int 6) (.cons (.int 7) (.cons (.int 0) (.cons (.int 0) (.cons f5 .nil))))))),
        .lst (SqL.of upd_same) (.cons (.int 4) (.cons (.int 4) (.cons (.int 6) (.cons (.int 7) (.cons (.int 0) (.cons (.int 0) (.cons (.tup (SqT.of (r8 _ _ upd_same)) (.cons (.int 0) (.cons (.int 1) .nil))) .nil))))))), fineNow (by decide +kernel), go _⟩
end
theorem all_mk {l : PySem.W.OpenLaw} {w : World} {K : PySem.W.Frag} {h : Heap} {mg : Str → Option Value} {fa : Addr} (X : K.In h) (G : h.Ns mainGlobals mg) (hfa : mg "law" = some (.ref fa))
    {f0 : Addr} {od0 an0 : Option Addr} {sl0 : Array (Option Value)} {oc0 kV0 dc0 pm0 cd0 ct0 : Value}
    {f1 : Addr} {od1 an1 : Option Addr} {sl1 : Array (Option Value)} {oc1 kV1 dc1 pm1 cd1 ct1 : Value}
    {f2 : Addr} {od2 an2 : Option Addr} {sl2 : Array (Option Value)} {oc2 kV2 dc2 pm2 cd2 ct2 : Value}
    {f3 : Addr} {od3 an3 : Option Addr} {sl3 : Array (Option Value)} {oc3 kV3 dc3 pm3 cd3 ct3 : Value}
    {f4 : Addr} {od4 an4 : Option Addr} {sl4 : Array (Option Value)} {oc4 kV4 dc4 pm4 cd4 ct4 : Value}
    {f5 : Addr} {od5 an5 : Option Addr} {sl5 : Array (Option Value)} {oc5 kV5 dc5 pm5 cd5 ct5 : Value}
    {f6 : Addr} {od6 an6 : Option Addr} {sl6 : Array (Option Value)} {oc6 kV6 dc6 pm6 cd6 ct6 : Value}
    {f7 : Addr} {od7 an7 : Option Addr} {sl7 : Array (Option Value)} {oc7 kV7 dc7 pm7 cd7 ct7 : Value}
    {f8 : Addr} {od8 an8 : Option Addr} {sl8 : Array (Option Value)} {oc8 kV8 dc8 pm8 cd8 ct8 : Value}
    {f9 : Addr} {od9 an9 : Option Addr} {sl9 : Array (Option Value)} {oc9 kV9 dc9 pm9 cd9 ct9 : Value}
    {f10 : Addr} {od10 an10 : Option Addr} {sl10 : Array (Option Value)} {oc10 kV10 dc10 pm10 cd10 ct10 : Value}
    {f11 : Addr} {od11 an11 : Option Addr} {sl11 : Array (Option Value)} {oc11 kV11 dc11 pm11 cd11 ct11 : Value}
    {f12 : Addr} {od12 an12 : Option Addr} {sl12 : Array (Option Value)} {oc12 kV12 dc12 pm12 cd12 ct12 : Value}
    {f13 : Addr} {od13 an13 : Option Addr} {sl13 : Array (Option Value)} {oc13 kV13 dc13 pm13 cd13 ct13 : Value}
    {f14 : Addr} {od14 an14 : Option Addr} {sl14 : Array (Option Value)} {oc14 kV14 dc14 pm14 cd14 ct14 : Value}
    {f15 : Addr} {od15 an15 : Option Addr} {sl15 : Array (Option Value)} {oc15 kV15 dc15 pm15 cd15 ct15 : Value}
    {f16 : Addr} {od16 an16 : Option Addr} {sl16 : Array (Option Value)} {oc16 kV16 dc16 pm16 cd16 ct16 : Value}
    {f17 : Addr} {od17 an17 : Option Addr} {sl17 : Array (Option Value)} {oc17 kV17 dc17 pm17 cd17 ct17 : Value}
    {f18 : Addr} {od18 an18 : Option Addr} {sl18 : Array (Option Value)} {oc18 kV18 dc18 pm18 cd18 ct18 : Value}
    {f19 : Addr} {od19 an19 : Option Addr} {sl19 : Array (Option Value)} {oc19 kV19 dc19 pm19 cd19 ct19 : Value}
    {fL : Addr} {odL anL : Option Addr} {slL : Array (Option Value)} {ocL kVL dcL pmL cdL ctL : Value}
    (a0 : PySem.W.nsIn K mainGlobals "is_whole" = some (some (.ref f0)))
    (l0 : K.lookup f0 = some ⟨oc0, od0, .func (PySem.W.fnOf "is_whole" "is_whole" (defArgs sIsWhole) (defBody sIsWhole) (defScope sIsWhole) .none kV0 dc0 pm0 an0 cd0 ct0), sl0⟩)
    (c0 : PySem.W.codeIn K cd0 "is_whole" = true) (k0 : PySem.W.keepIn K (.ref f0) = true)
    (a1 : PySem.W.nsIn K mainGlobals "divisor" = some (some (.ref f1)))
    (l1 : K.lookup f1 = some ⟨oc1, od1, .func (PySem.W.fnOf "divisor" "divisor" (defArgs sDivisor) (defBody sDivisor) (defScope sDivisor) .none kV1 dc1 pm1 an1 cd1 ct1), sl1⟩)
    (c1 : PySem.W.codeIn K cd1 "divisor" = true) (k1 : PySem.W.keepIn K (.ref f1) = true)
    (a2 : PySem.W.nsIn K mainGlobals "down" = some (some (.ref f2)))
    (l2 : K.lookup f2 = some ⟨oc2, od2, .func (PySem.W.fnOf "down" "down" (defArgs sDown) (defBody sDown) (defScope sDown) .none kV2 dc2 pm2 an2 cd2 ct2), sl2⟩)
    (c2 : PySem.W.codeIn K cd2 "down" = true) (k2 : PySem.W.keepIn K (.ref f2) = true)
    (a3 : PySem.W.nsIn K mainGlobals "up" = some (some (.ref f3)))
    (l3 : K.lookup f3 = some ⟨oc3, od3, .func (PySem.W.fnOf "up" "up" (defArgs sUp) (defBody sUp) (defScope sUp) .none kV3 dc3 pm3 an3 cd3 ct3), sl3⟩)
    (c3 : PySem.W.codeIn K cd3 "up" = true) (k3 : PySem.W.keepIn K (.ref f3) = true)
    (a4 : PySem.W.nsIn K mainGlobals "fraction" = some (some (.ref f4)))
    (l4 : K.lookup f4 = some ⟨oc4, od4, .func (PySem.W.fnOf "fraction" "fraction" (defArgs sFraction) (defBody sFraction) (defScope sFraction) .none kV4 dc4 pm4 an4 cd4 ct4), sl4⟩)
    (c4 : PySem.W.codeIn K cd4 "fraction" = true) (k4 : PySem.W.keepIn K (.ref f4) = true)
    (a5 : PySem.W.nsIn K mainGlobals "plus" = some (some (.ref f5)))
    (l5 : K.lookup f5 = some ⟨oc5, od5, .func (PySem.W.fnOf "plus" "plus" (defArgs sPlus) (defBody sPlus) (defScope sPlus) .none kV5 dc5 pm5 an5 cd5 ct5), sl5⟩)
    (c5 : PySem.W.codeIn K cd5 "plus" = true) (k5 : PySem.W.keepIn K (.ref f5) = true)
    (a6 : PySem.W.nsIn K mainGlobals "least_from" = some (some (.ref f6)))
    (l6 : K.lookup f6 = some ⟨oc6, od6, .func (PySem.W.fnOf "least_from" "least_from" (defArgs sLeastFrom) (defBody sLeastFrom) (defScope sLeastFrom) .none kV6 dc6 pm6 an6 cd6 ct6), sl6⟩)
    (c6 : PySem.W.codeIn K cd6 "least_from" = true) (k6 : PySem.W.keepIn K (.ref f6) = true)
    (a7 : PySem.W.nsIn K mainGlobals "least_above" = some (some (.ref f7)))
    (l7 : K.lookup f7 = some ⟨oc7, od7, .func (PySem.W.fnOf "least_above" "least_above" (defArgs sLeastAbove) (defBody sLeastAbove) (defScope sLeastAbove) .none kV7 dc7 pm7 an7 cd7 ct7), sl7⟩)
    (c7 : PySem.W.codeIn K cd7 "least_above" = true) (k7 : PySem.W.keepIn K (.ref f7) = true)
    (a8 : PySem.W.nsIn K mainGlobals "total" = some (some (.ref f8)))
    (l8 : K.lookup f8 = some ⟨oc8, od8, .func (PySem.W.fnOf "total" "total" (defArgs sTotal) (defBody sTotal) (defScope sTotal) .none kV8 dc8 pm8 an8 cd8 ct8), sl8⟩)
    (c8 : PySem.W.codeIn K cd8 "total" = true) (k8 : PySem.W.keepIn K (.ref f8) = true)
    (a9 : PySem.W.nsIn K mainGlobals "_law_bag" = some (some (.ref f9)))
    (l9 : K.lookup f9 = some ⟨oc9, od9, .func (PySem.W.fnOf "_law_bag" "_law_bag" (defArgs sLBag) (defBody sLBag) (defScope sLBag) .none kV9 dc9 pm9 an9 cd9 ct9), sl9⟩)
    (c9 : PySem.W.codeIn K cd9 "_law_bag" = true) (k9 : PySem.W.keepIn K (.ref f9) = true)
    (a10 : PySem.W.nsIn K mainGlobals "_law_take" = some (some (.ref f10)))
    (l10 : K.lookup f10 = some ⟨oc10, od10, .func (PySem.W.fnOf "_law_take" "_law_take" (defArgs sLTake) (defBody sLTake) (defScope sLTake) .none kV10 dc10 pm10 an10 cd10 ct10), sl10⟩)
    (c10 : PySem.W.codeIn K cd10 "_law_take" = true) (k10 : PySem.W.keepIn K (.ref f10) = true)
    (a11 : PySem.W.nsIn K mainGlobals "_law_alike" = some (some (.ref f11)))
    (l11 : K.lookup f11 = some ⟨oc11, od11, .func (PySem.W.fnOf "_law_alike" "_law_alike" (defArgs sLAlike) (defBody sLAlike) (defScope sLAlike) .none kV11 dc11 pm11 an11 cd11 ct11), sl11⟩)
    (c11 : PySem.W.codeIn K cd11 "_law_alike" = true) (k11 : PySem.W.keepIn K (.ref f11) = true)
    (a12 : PySem.W.nsIn K mainGlobals "_law_one" = some (some (.ref f12)))
    (l12 : K.lookup f12 = some ⟨oc12, od12, .func (PySem.W.fnOf "_law_one" "_law_one" (defArgs sLOne) (defBody sLOne) (defScope sLOne) .none kV12 dc12 pm12 an12 cd12 ct12), sl12⟩)
    (c12 : PySem.W.codeIn K cd12 "_law_one" = true) (k12 : PySem.W.keepIn K (.ref f12) = true)
    (a13 : PySem.W.nsIn K mainGlobals "_law_is_whole" = some (some (.ref f13)))
    (l13 : K.lookup f13 = some ⟨oc13, od13, .func (PySem.W.fnOf "_law_is_whole" "_law_is_whole" (defArgs sLIsWhole) (defBody sLIsWhole) (defScope sLIsWhole) .none kV13 dc13 pm13 an13 cd13 ct13), sl13⟩)
    (c13 : PySem.W.codeIn K cd13 "_law_is_whole" = true) (k13 : PySem.W.keepIn K (.ref f13) = true)
    (a14 : PySem.W.nsIn K mainGlobals "_law_figures" = some (some (.ref f14)))
    (l14 : K.lookup f14 = some ⟨oc14, od14, .func (PySem.W.fnOf "_law_figures" "_law_figures" (defArgs sLFigures) (defBody sLFigures) (defScope sLFigures) .none kV14 dc14 pm14 an14 cd14 ct14), sl14⟩)
    (c14 : PySem.W.codeIn K cd14 "_law_figures" = true) (k14 : PySem.W.keepIn K (.ref f14) = true)
    (a15 : PySem.W.nsIn K mainGlobals "_law_signed" = some (some (.ref f15)))
    (l15 : K.lookup f15 = some ⟨oc15, od15, .func (PySem.W.fnOf "_law_signed" "_law_signed" (defArgs sLSigned) (defBody sLSigned) (defScope sLSigned) .none kV15 dc15 pm15 an15 cd15 ct15), sl15⟩)
    (c15 : PySem.W.codeIn K cd15 "_law_signed" = true) (k15 : PySem.W.keepIn K (.ref f15) = true)
    (a16 : PySem.W.nsIn K mainGlobals "_law_divisor" = some (some (.ref f16)))
    (l16 : K.lookup f16 = some ⟨oc16, od16, .func (PySem.W.fnOf "_law_divisor" "_law_divisor" (defArgs sLDivisor) (defBody sLDivisor) (defScope sLDivisor) .none kV16 dc16 pm16 an16 cd16 ct16), sl16⟩)
    (c16 : PySem.W.codeIn K cd16 "_law_divisor" = true) (k16 : PySem.W.keepIn K (.ref f16) = true)
    (a17 : PySem.W.nsIn K mainGlobals "_law_lowest" = some (some (.ref f17)))
    (l17 : K.lookup f17 = some ⟨oc17, od17, .func (PySem.W.fnOf "_law_lowest" "_law_lowest" (defArgs sLLowest) (defBody sLLowest) (defScope sLLowest) .none kV17 dc17 pm17 an17 cd17 ct17), sl17⟩)
    (c17 : PySem.W.codeIn K cd17 "_law_lowest" = true) (k17 : PySem.W.keepIn K (.ref f17) = true)
    (a18 : PySem.W.nsIn K mainGlobals "_law_fraction" = some (some (.ref f18)))
    (l18 : K.lookup f18 = some ⟨oc18, od18, .func (PySem.W.fnOf "_law_fraction" "_law_fraction" (defArgs sLFraction) (defBody sLFraction) (defScope sLFraction) .none kV18 dc18 pm18 an18 cd18 ct18), sl18⟩)
    (c18 : PySem.W.codeIn K cd18 "_law_fraction" = true) (k18 : PySem.W.keepIn K (.ref f18) = true)
    (a19 : PySem.W.nsIn K mainGlobals "_law_sum_of" = some (some (.ref f19)))
    (l19 : K.lookup f19 = some ⟨oc19, od19, .func (PySem.W.fnOf "_law_sum_of" "_law_sum_of" (defArgs sLSumOf) (defBody sLSumOf) (defScope sLSumOf) .none kV19 dc19 pm19 an19 cd19 ct19), sl19⟩)
    (c19 : PySem.W.codeIn K cd19 "_law_sum_of" = true) (k19 : PySem.W.keepIn K (.ref f19) = true)
    (aL : PySem.W.nsIn K mainGlobals "law" = some (some (.ref fL)))
    (lL : K.lookup fL = some ⟨ocL, odL, .func (PySem.W.fnOf "law" "law" (defArgs sLaw) (defBody sLaw) (defScope sLaw) .none kVL dcL pmL anL cdL ctL), slL⟩)
    (cL : PySem.W.codeIn K cdL "law" = true) (kL : PySem.W.keepIn K (.ref fL) = true)
    (z_abs : PySem.W.nsIn K mainGlobals "abs" = some none)
    (z_int : PySem.W.nsIn K mainGlobals "int" = some none)
    (z_len : PySem.W.nsIn K mainGlobals "len" = some none)
    (z_list : PySem.W.nsIn K mainGlobals "list" = some none)
    (z_range : PySem.W.nsIn K mainGlobals "range" = some none)
    (z_repr : PySem.W.nsIn K mainGlobals "repr" = some none)
    (z_sum : PySem.W.nsIn K mainGlobals "sum" = some none)
    (z_enumerate : PySem.W.nsIn K mainGlobals "enumerate" = some none)
    (z_isinstance : PySem.W.nsIn K mainGlobals "isinstance" = some none)
    (z_bool : PySem.W.nsIn K mainGlobals "bool" = some none)
    (z_str : PySem.W.nsIn K mainGlobals "str" = some none)
    (z_tuple : PySem.W.nsIn K mainGlobals "tuple" = some none)
    (z_sorted : PySem.W.nsIn K mainGlobals "sorted" = some none)
    (z_set : PySem.W.nsIn K mainGlobals "set" = some none)
    (z_zip : PySem.W.nsIn K mainGlobals "zip" = some none)
    (z_gcd : PySem.W.nsIn K mainGlobals "gcd" = some (some (.builtin "math.gcd")))
    : ∃ fd : FuncData, (∀ (s : Shared) (v : Value), BindsTo s fd ⟨[v], []⟩ [("_law_script", v)]) ∧ ∀ base : Heap, K.In base → base.Ns mainGlobals mg → FnG l.prog w K mg base 7 fa fd ["_law_script"] (spLaw K) := by
  have e := hfa.symm.trans (PySem.W.mg_of X G aL)
  cases e
  have T : Txt mg := ⟨PySem.W.mg_none_of X G z_abs, PySem.W.mg_none_of X G z_int, PySem.W.mg_none_of X G z_len, PySem.W.mg_none_of X G z_list, PySem.W.mg_none_of X G z_range, PySem.W.mg_none_of X G z_repr, PySem.W.mg_none_of X G z_sum, PySem.W.mg_none_of X G z_enumerate, PySem.W.mg_none_of X G z_isinstance, PySem.W.mg_none_of X G z_bool, PySem.W.mg_none_of X G z_str, PySem.W.mg_none_of X G z_tuple, PySem.W.mg_none_of X G z_sorted, PySem.W.mg_none_of X G z_set, PySem.W.mg_none_of X G z_zip⟩
  have F0 := fun_mk (st := sIsWhole) l0 c0 k0
  have b0 := F0.binds (ps := ["thing"]) fun _ _ _ _ _ _ us hl => match us, hl with | [_], _ => rfl
  have D0 : Df K mg "is_whole" sIsWhole ["thing"] := ⟨f0, _, F0, PySem.W.mg_of X G a0, k0, b0⟩
  have F1 := fun_mk (st := sDivisor) l1 c1 k1
  have b1 := F1.binds (ps := ["one", "other"]) fun _ _ _ _ _ _ us hl => match us, hl with | [_, _], _ => rfl
  have D1 : Df K mg "divisor" sDivisor ["one", "other"] := ⟨f1, _, F1, PySem.W.mg_of X G a1, k1, b1⟩
  have F2 := fun_mk (st := sDown) l2 c2 k2
  have b2 := F2.binds (ps := ["top", "bottom"]) fun _ _ _ _ _ _ us hl => match us, hl with | [_, _], _ => rfl
  have D2 : Df K mg "down" sDown ["top", "bottom"] := ⟨f2, _, F2, PySem.W.mg_of X G a2, k2, b2⟩
  have F3 := fun_mk (st := sUp) l3 c3 k3
  have b3 := F3.binds (ps := ["top", "bottom"]) fun _ _ _ _ _ _ us hl => match us, hl with | [_, _], _ => rfl
  have D3 : Df K mg "up" sUp ["top", "bottom"] := ⟨f3, _, F3, PySem.W.mg_of X G a3, k3, b3⟩
  have F4 := fun_mk (st := sFraction) l4 c4 k4
  have b4 := F4.binds (ps := ["top", "bottom"]) fun _ _ _ _ _ _ us hl => match us, hl with | [_, _], _ => rfl
  have D4 : Df K mg "fraction" sFraction ["top", "bottom"] := ⟨f4, _, F4, PySem.W.mg_of X G a4, k4, b4⟩
  have F5 := fun_mk (st := sPlus) l5 c5 k5
  have b5 := F5.binds (ps := ["one", "other"]) fun _ _ _ _ _ _ us hl => match us, hl with | [_, _], _ => rfl
  have D5 : Df K mg "plus" sPlus ["one", "other"] := ⟨f5, _, F5, PySem.W.mg_of X G a5, k5, b5⟩
  have F6 := fun_mk (st := sLeastFrom) l6 c6 k6
  have b6 := F6.binds (ps := ["one"]) fun _ _ _ _ _ _ us hl => match us, hl with | [_], _ => rfl
  have D6 : Df K mg "least_from" sLeastFrom ["one"] := ⟨f6, _, F6, PySem.W.mg_of X G a6, k6, b6⟩
  have F7 := fun_mk (st := sLeastAbove) l7 c7 k7
  have b7 := F7.binds (ps := ["one"]) fun _ _ _ _ _ _ us hl => match us, hl with | [_], _ => rfl
  have D7 : Df K mg "least_above" sLeastAbove ["one"] := ⟨f7, _, F7, PySem.W.mg_of X G a7, k7, b7⟩
  have F8 := fun_mk (st := sTotal) l8 c8 k8
  have b8 := F8.binds (ps := ["some"]) fun _ _ _ _ _ _ us hl => match us, hl with | [_], _ => rfl
  have D8 : Df K mg "total" sTotal ["some"] := ⟨f8, _, F8, PySem.W.mg_of X G a8, k8, b8⟩
  have F9 := fun_mk (st := sLBag) l9 c9 k9
  have b9 := F9.binds (ps := ["_law_script"]) fun _ _ _ _ _ _ us hl => match us, hl with | [_], _ => rfl
  have D9 : Df K mg "_law_bag" sLBag ["_law_script"] := ⟨f9, _, F9, PySem.W.mg_of X G a9, k9, b9⟩
  have F10 := fun_mk (st := sLTake) l10 c10 k10
  have b10 := F10.binds (ps := ["_law_bag_here", "_law_many"]) fun _ _ _ _ _ _ us hl => match us, hl with | [_, _], _ => rfl
  have D10 : Df K mg "_law_take" sLTake ["_law_bag_here", "_law_many"] := ⟨f10, _, F10, PySem.W.mg_of X G a10, k10, b10⟩
  have F11 := fun_mk (st := sLAlike) l11 c11 k11
  have b11 := F11.binds (ps := ["_law_found", "_law_due"]) fun _ _ _ _ _ _ us hl => match us, hl with | [_, _], _ => rfl
  have D11 : Df K mg "_law_alike" sLAlike ["_law_found", "_law_due"] := ⟨f11, _, F11, PySem.W.mg_of X G a11, k11, b11⟩
  have F12 := fun_mk (st := sLOne) l12 c12 k12
  have b12 := F12.binds (ps := ["_law_bag_here", "_law_some"]) fun _ _ _ _ _ _ us hl => match us, hl with | [_, _], _ => rfl
  have D12 : Df K mg "_law_one" sLOne ["_law_bag_here", "_law_some"] := ⟨f12, _, F12, PySem.W.mg_of X G a12, k12, b12⟩
  have F13 := fun_mk (st := sLIsWhole) l13 c13 k13
  have b13 := F13.binds (ps := ["_law_thing"]) fun _ _ _ _ _ _ us hl => match us, hl with | [_], _ => rfl
  have D13 : Df K mg "_law_is_whole" sLIsWhole ["_law_thing"] := ⟨f13, _, F13, PySem.W.mg_of X G a13, k13, b13⟩
  have F14 := fun_mk (st := sLFigures) l14 c14 k14
  have b14 := F14.binds (ps := ["_law_bag_here", "_law_most"]) fun _ _ _ _ _ _ us hl => match us, hl with | [_, _], _ => rfl
  have D14 : Df K mg "_law_figures" sLFigures ["_law_bag_here", "_law_most"] := ⟨f14, _, F14, PySem.W.mg_of X G a14, k14, b14⟩
  have F15 := fun_mk (st := sLSigned) l15 c15 k15
  have b15 := F15.binds (ps := ["_law_bag_here", "_law_most"]) fun _ _ _ _ _ _ us hl => match us, hl with | [_, _], _ => rfl
  have D15 : Df K mg "_law_signed" sLSigned ["_law_bag_here", "_law_most"] := ⟨f15, _, F15, PySem.W.mg_of X G a15, k15, b15⟩
  have F16 := fun_mk (st := sLDivisor) l16 c16 k16
  have b16 := F16.binds (ps := ["_law_one_here", "_law_other"]) fun _ _ _ _ _ _ us hl => match us, hl with | [_, _], _ => rfl
  have D16 : Df K mg "_law_divisor" sLDivisor ["_law_one_here", "_law_other"] := ⟨f16, _, F16, PySem.W.mg_of X G a16, k16, b16⟩
  have F17 := fun_mk (st := sLLowest) l17 c17 k17
  have b17 := F17.binds (ps := ["_law_top", "_law_bottom"]) fun _ _ _ _ _ _ us hl => match us, hl with | [_, _], _ => rfl
  have D17 : Df K mg "_law_lowest" sLLowest ["_law_top", "_law_bottom"] := ⟨f17, _, F17, PySem.W.mg_of X G a17, k17, b17⟩
  have F18 := fun_mk (st := sLFraction) l18 c18 k18
  have b18 := F18.binds (ps := ["_law_bag_here", "_law_most"]) fun _ _ _ _ _ _ us hl => match us, hl with | [_, _], _ => rfl
  have D18 : Df K mg "_law_fraction" sLFraction ["_law_bag_here", "_law_most"] := ⟨f18, _, F18, PySem.W.mg_of X G a18, k18, b18⟩
  have F19 := fun_mk (st := sLSumOf) l19 c19 k19
  have b19 := F19.binds (ps := ["_law_some"]) fun _ _ _ _ _ _ us hl => match us, hl with | [_], _ => rfl
  have D19 : Df K mg "_law_sum_of" sLSumOf ["_law_some"] := ⟨f19, _, F19, PySem.W.mg_of X G a19, k19, b19⟩
  have FL := fun_mk (st := sLaw) lL cL kL
  exact ⟨PySem.W.fnOf "law" "law" (defArgs sLaw) (defBody sLaw) (defScope sLaw) .none kVL dcL pmL anL cdL ctL, fun s v => .of_eq rfl, fun base _ _ =>
    ok_law FL T (PySem.W.mg_of X G z_gcd) D0 D1 D2 D3 D4 D5 D6 D7 D8 D9 D10 D11 D12 D13 D14 D15 D16 D17 D18 D19⟩
theorem walk {l : PySem.W.OpenLaw} {q : Program} {loose : List Str} {XP : (Str → Option Value) → Heap → Prop} {YP : World → Heap → Prop} {d : DefRec} {K : Params → PySem.W.Frag} (hn : l.most = some 63) (hdf : d.params.defaults = [])
    (hY : ∀ (w : World) (h : Heap), YP w h → (K w.params).In h)
    (F : ∀ (w : World) (mg : Str → Option Value) (fa : Addr) (h : Heap), (K w.params).In h → h.Ns mainGlobals mg → mg d.name = some (.ref fa) →
      ∃ fd : FuncData, (∀ (s : Shared) (u : Value), BindsTo s fd ⟨[u], []⟩ [("_law_script", u)]) ∧ ∀ base : Heap, (K w.params).In base → base.Ns mainGlobals mg → FnG l.prog w (K w.params) mg base 7 fa fd ["_law_script"] (spLaw (K w.params))) :
    PySem.W.WalkO q loose XP YP l.row.toRowW d [] (fun f vs => PySem.call f vs) :=
  walkG (k := 7) (x := "_law_script") spLaw hn hdf ⟨rfl, by decide, by decide⟩ hY F fun K H a ns hl hS => ⟨a, ns, rfl, hS, hl, fun _ => rfl⟩
end My
open PySem PySem.W PyProof.Rows
set_option maxRecDepth 100000 in
set_option maxHeartbeats 0 in
theorem PySem.Challenge.cw_wholepoll_k15_fractions_rounded_and_adde_holds : PySem.Challenge.rw_wholepoll_k15_fractions_rounded_and_adde.Holds := by
  w_on; o_law; k_head; (case hw => w_witness2)
  k_fill
  refine My.walk (l := PySem.Challenge.rw_wholepoll_k15_fractions_rounded_and_adde) rfl rfl (fun w h Y => PySem.W.kIn_of Y) ?F
  case F =>
    intro w mg fa h KX G hmg
    refine' My.all_mk KX G hmg ?a0 ?l0 ?c0 ?k0 ?a1 ?l1 ?c1 ?k1 ?a2 ?l2 ?c2 ?k2 ?a3 ?l3 ?c3 ?k3 ?a4 ?l4 ?c4 ?k4 ?a5 ?l5 ?c5 ?k5 ?a6 ?l6 ?c6 ?k6 ?a7 ?l7 ?c7 ?k7 ?a8 ?l8 ?c8 ?k8 ?a9 ?l9 ?c9 ?k9 ?a10 ?l10 ?c10 ?k10 ?a11 ?l11 ?c11 ?k11 ?a12 ?l12 ?c12 ?k12 ?a13 ?l13 ?c13 ?k13 ?a14 ?l14 ?c14 ?k14 ?a15 ?l15 ?c15 ?k15 ?a16 ?l16 ?c16 ?k16 ?a17 ?l17 ?c17 ?k17 ?a18 ?l18 ?c18 ?k18 ?a19 ?l19 ?c19 ?k19 ?aL ?lL ?cL ?kL ?z_abs ?z_int ?z_len ?z_list ?z_range ?z_repr ?z_sum ?z_enumerate ?z_isinstance ?z_bool ?z_str ?z_tuple ?z_sorted ?z_set ?z_zip ?z_gcd
    (case a0 => k_is)
    (case l0 => k_is)
    (case c0 => k_is)
    (case k0 => k_is)
    (case a1 => k_is)
    (case l1 => k_is)
    (case c1 => k_is)
    (case k1 => k_is)
    (case a2 => k_is)
    (case l2 => k_is)
    (case c2 => k_is)
    (case k2 => k_is)
    (case a3 => k_is)
    (case l3 => k_is)
    (case c3 => k_is)
    (case k3 => k_is)
    (case a4 => k_is)
    (case l4 => k_is)
    (case c4 => k_is)
    (case k4 => k_is)
    (case a5 => k_is)
    (case l5 => k_is)
    (case c5 => k_is)
    (case k5 => k_is)
    (case a6 => k_is)
    (case l6 => k_is)
    (case c6 => k_is)
    (case k6 => k_is)
    (case a7 => k_is)
    (case l7 => k_is)
    (case c7 => k_is)
    (case k7 => k_is)
    (case a8 => k_is)
    (case l8 => k_is)
    (case c8 => k_is)
    (case k8 => k_is)
    (case a9 => k_is)
    (case l9 => k_is)
    (case c9 => k_is)
    (case k9 => k_is)
    (case a10 => k_is)
    (case l10 => k_is)
    (case c10 => k_is)
    (case k10 => k_is)
    (case a11 => k_is)
    (case l11 => k_is)
    (case c11 => k_is)
    (case k11 => k_is)
    (case a12 => k_is)
    (case l12 => k_is)
    (case c12 => k_is)
    (case k12 => k_is)
    (case a13 => k_is)
    (case l13 => k_is)
    (case c13 => k_is)
    (case k13 => k_is)
    (case a14 => k_is)
    (case l14 => k_is)
    (case c14 => k_is)
    (case k14 => k_is)
    (case a15 => k_is)
    (case l15 => k_is)
    (case c15 => k_is)
    (case k15 => k_is)
    (case a16 => k_is)
    (case l16 => k_is)
    (case c16 => k_is)
    (case k16 => k_is)
    (case a17 => k_is)
    (case l17 => k_is)
    (case c17 => k_is)
    (case k17 => k_is)
    (case a18 => k_is)
    (case l18 => k_is)
    (case c18 => k_is)
    (case k18 => k_is)
    (case a19 => k_is)
    (case l19 => k_is)
    (case c19 => k_is)
    (case k19 => k_is)
    (case aL => k_is)
    (case lL => k_is)
    (case cL => k_is)
    (case kL => k_is)
    (case z_abs => k_is)
    (case z_int => k_is)
    (case z_len => k_is)
    (case z_list => k_is)
    (case z_range => k_is)
    (case z_repr => k_is)
    (case z_sum => k_is)
    (case z_enumerate => k_is)
    (case z_isinstance => k_is)
    (case z_bool => k_is)
    (case z_str => k_is)
    (case z_tuple => k_is)
    (case z_sorted => k_is)
    (case z_set => k_is)
    (case z_zip => k_is)
    (case z_gcd => k_is)

