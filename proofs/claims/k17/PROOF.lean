import PyProof.Rows.All
import Wide.All
import OpenK.AllK
import Wide.FinOn
import HandS.ForMost
import HandS.Wide
import HandS.WideBits
import HandS.Codes
import HandS.Flow
import HandS.Conv
import PySem.Challenge.RW_wholepoll_k17_sets
set_option Elab.async false
set_option maxRecDepth 100000
/-! What all my proofs share: promises under which no repr is going on, repr, an item changed by an operator, data and their texts. -/
namespace My
open PySem L2 PySem.Spec PyProof.Rows

/-! ### an item of a list, to be changed by an operator -/
def rGet0 (K : PySem.W.Frag) : V → V → Hp → VK → Prop := fun x y H Q =>
  ∃ p xs, ∃ (n : Nat) (v : V), x = .ref p ∧ y = .int n ∧ SqL K H p xs ∧ xs[n]? = some v ∧ Q v H
theorem get_list {X : Cx} : PGet X (rGet0 X.K) := by
  intro pins st σ H o i ov iv Q I ro ri h
  obtain ⟨p, xs, n, v, rfl, rfl, hq, he, q⟩ := h
  cases ro
  obtain ⟨tk, rfl⟩ := ri
  obtain ⟨its, rr, pl, hz⟩ := I.list hq
  obtain ⟨u, eu, ru⟩ := rr.get he
  have hn : n < xs.length := (List.getElem?_eq_some_iff.mp he).1
  have h63 := line63
  exact wpAny_getItem_list pl.isList (by omega) (by omega) (by simpa using eu) ⟨v, H, I, ru, q⟩

/-! ### comparisons whose answer is told by me -/
def rEqC : R2 := fun x y H Q => ∃ c : Bool, scal x y = true ∧ decide (x = y) = c ∧ Q (.bl c) H
def rNeC : R2 := fun x y H Q => ∃ c : Bool, scal x y = true ∧ decide (x = y) = c ∧ Q (.bl (!c)) H
def rIC (g : Int → Int → Bool) : R2 := fun x y H Q => ∃ i j, ∃ c : Bool, x = .int i ∧ y = .int j ∧ g i j = c ∧ Q (.bl c) H
/-- whole numbers, the answer told by me -/
def rA0 (g : Int → Int → Int) : R2 := fun x y H Q => ∃ i j k, x = .int i ∧ y = .int j ∧ g i j = k ∧ Q (.int k) H
def rA (C : Int → Int → Prop) (g : Int → Int → Int) : R2 := fun x y H Q => ∃ i j k, x = .int i ∧ y = .int j ∧ C i j ∧ g i j = k ∧ Q (.int k) H
def rInC (K : PySem.W.Frag) (neg : Bool) : R2 := fun x y H Q => ∃ p xs, ∃ c : Bool, y = .ref p ∧ (SqL K H p xs ∨ SqT K H p xs) ∧ flatV x = true ∧ xs.all flatV = true ∧ inV x xs = c ∧ Q (.bl (if neg then !c else c)) H
def rEqDC (K : PySem.W.Frag) : R2 := fun x y H Q => ∃ d e, ∃ c : Bool, Dp K H x d ∧ Dp K H y e ∧ SeqAt.shaped d = true ∧ SeqAt.shaped e = true ∧ PyData.eqv d e = c ∧ Q (.bl c) H
def rNeDC (K : PySem.W.Frag) : R2 := fun x y H Q => ∃ d e, ∃ c : Bool, Dp K H x d ∧ Dp K H y e ∧ SeqAt.shaped d = true ∧ SeqAt.shaped e = true ∧ PyData.eqv d e = c ∧ Q (.bl (!c)) H
section
variable {X : Cx}
theorem OpR.imp {f : Value → Value → Sem Value} {r r' : R2} (h : OpR X f r) (hi : ∀ x y H Q, r' x y H Q → r x y H Q) : OpR X f r' :=
  fun pins st σ H x y v u Q I rx ry q => h pins st σ H x y v u Q I rx ry (hi x y H Q q)
theorem op_eqC : OpR X (compareOp .Eq) rEqC := OpR.imp op_eq fun x y H Q ⟨c, h1, h2, q⟩ => ⟨h1, by rw [h2]; exact q⟩
theorem op_neC : OpR X (compareOp .NotEq) rNeC := OpR.imp op_ne fun x y H Q ⟨c, h1, h2, q⟩ => ⟨h1, by rw [h2]; exact q⟩
theorem op_ltC : OpR X (compareOp .Lt) (rIC fun i j => decide (i < j)) := OpR.imp op_lt fun x y H Q ⟨i, j, c, h1, h2, h3, q⟩ => ⟨i, j, h1, h2, by subst h3; exact q⟩
theorem op_leC : OpR X (compareOp .LtE) (rIC fun i j => decide (i ≤ j)) := OpR.imp op_le fun x y H Q ⟨i, j, c, h1, h2, h3, q⟩ => ⟨i, j, h1, h2, by subst h3; exact q⟩
theorem op_gtC : OpR X (compareOp .Gt) (rIC fun i j => decide (j < i)) := OpR.imp op_gt fun x y H Q ⟨i, j, c, h1, h2, h3, q⟩ => ⟨i, j, h1, h2, by subst h3; exact q⟩
theorem op_geC : OpR X (compareOp .GtE) (rIC fun i j => decide (j ≤ i)) := OpR.imp op_ge fun x y H Q ⟨i, j, c, h1, h2, h3, q⟩ => ⟨i, j, h1, h2, by subst h3; exact q⟩
theorem op_addC : OpR X (binaryOp .Add) (rA0 fun i j => i + j) := OpR.imp op_add fun x y H Q ⟨i, j, k, h1, h2, h3, q⟩ => ⟨i, j, h1, h2, by subst h3; exact q⟩
theorem op_subC : OpR X (binaryOp .Sub) (rA0 fun i j => i - j) := OpR.imp op_sub fun x y H Q ⟨i, j, k, h1, h2, h3, q⟩ => ⟨i, j, h1, h2, by subst h3; exact q⟩
def MulOk (i j : Int) : Prop := CMul i j ∨ CMulW i j
theorem op_mulC : OpR X (binaryOp .Mult) (rA MulOk fun i j => i * j) := fun pins st σ H x y v u Q I rx ry ⟨i, j, k, h1, h2, hc, h3, q⟩ =>
  hc.elim (fun c => op_mul pins st σ H x y v u Q I rx ry ⟨i, j, h1, h2, c, by subst h3; exact q⟩) fun c => op_mulW pins st σ H x y v u Q I rx ry ⟨i, j, h1, h2, c, by subst h3; exact q⟩
theorem op_modC : OpR X (binaryOp .Mod) (rA (fun _ j => 0 < j) fun i j => i % j) := OpR.imp op_modN fun x y H Q ⟨i, j, k, h1, h2, hc, h3, q⟩ =>
  ⟨i, j, h1, h2, Int.ne_of_gt hc, by subst h3; show Q (.int (i.fmod j)) H; rw [Int.fmod_eq_emod_of_nonneg i (Int.le_of_lt hc)]; exact q⟩
theorem op_fdivC : OpR X (binaryOp .FloorDiv) (rA CDivW fun i j => i / j) := OpR.imp op_fdivW fun x y H Q ⟨i, j, k, h1, h2, hc, h3, q⟩ => ⟨i, j, h1, h2, hc, by subst h3; exact q⟩
theorem op_inC : OpR X (compareOp .In) (rInC X.K false) := OpR.imp op_in_seq fun x y H Q ⟨p, xs, c, h1, h2, h3, h4, h5, q⟩ => ⟨p, xs, h1, h2, h3, h4, by subst h5; exact q⟩
theorem op_niC : OpR X (compareOp .NotIn) (rInC X.K true) := OpR.imp op_notIn_seq fun x y H Q ⟨p, xs, c, h1, h2, h3, h4, h5, q⟩ => ⟨p, xs, h1, h2, h3, h4, by subst h5; exact q⟩
theorem op_eqDC (hu : X.A.units + 64 < cLine) : OpR X (compareOp .Eq) (rEqDC X.K) := OpR.imp (op_eqD hu) fun x y H Q ⟨d, e, c, h1, h2, h3, h4, h5, q⟩ => ⟨d, e, h1, h2, h3, h4, by rw [h5]; exact q⟩
theorem op_neDC (hu : X.A.units + 64 < cLine) : OpR X (compareOp .NotEq) (rNeDC X.K) := OpR.imp (op_neD hu) fun x y H Q ⟨d, e, c, h1, h2, h3, h4, h5, q⟩ => ⟨d, e, h1, h2, h3, h4, by rw [h5]; exact q⟩
end

/-! ### data whose text is short -/
mutual
def wt : PyData → Nat
  | .none => 4
  | .bool _ => 5
  | .int _ => 1921
  | .str x => (reprText x).length
  | .list xs => wtAll xs + 2
  | .tuple xs => wtAll xs + 3
  | .dict _ => 0
def wtAll : List PyData → Nat
  | [] => 0
  | x :: xs => wt x + 2 + wtAll xs
end
/-- d: no dict within, not deeper than k, its text not longer than n -/
structure Fine (k n : Nat) (d : PyData) : Prop where
  lay : d.canLay0 = true
  sh : d.showable = true
  nd : d.hasDict = false
  dep : d.depth ≤ k
  sz : wt d ≤ n
structure FineL (k n : Nat) (ds : List PyData) : Prop where
  lay : PyData.canLayAll0 ds = true
  sh : PyData.showableAll ds = true
  nd : PyData.hasDictAll ds = false
  dep : PyData.depthAll ds ≤ k
  sz : wtAll ds ≤ n
theorem Fine.none : Fine 0 4 .none := ⟨rfl, rfl, rfl, Nat.le_refl _, Nat.le_refl _⟩
theorem Fine.bool (b : Bool) : Fine 0 5 (.bool b) := ⟨rfl, rfl, rfl, Nat.le_refl _, Nat.le_refl _⟩
theorem Fine.int {i : Int} (h : i.natAbs.log2 < 1920) : Fine 0 1921 (.int i) :=
  ⟨rfl, by show decide _ = true; exact decide_eq_true h, rfl, Nat.le_refl _, Nat.le_refl _⟩
theorem Fine.str {x : Str} (h : PyData.canLay0 (.str x) = true) : Fine 0 (reprText x).length (.str x) := ⟨h, rfl, rfl, Nat.le_refl _, Nat.le_refl _⟩
theorem Fine.up {k n k' n' : Nat} {d : PyData} (h : Fine k n d) (hk : k ≤ k') (hn : n ≤ n') : Fine k' n' d :=
  ⟨h.lay, h.sh, h.nd, Nat.le_trans h.dep hk, Nat.le_trans h.sz hn⟩
theorem FineL.nil : FineL 0 0 [] := ⟨rfl, rfl, rfl, Nat.le_refl _, Nat.le_refl _⟩
theorem FineL.up {k n k' n' : Nat} {d : List PyData} (h : FineL k n d) (hk : k ≤ k') (hn : n ≤ n') : FineL k' n' d :=
  ⟨h.lay, h.sh, h.nd, Nat.le_trans h.dep hk, Nat.le_trans h.sz hn⟩
theorem FineL.cons {k n m : Nat} {d : PyData} {ds : List PyData} (h : Fine k n d) (hs : FineL k m ds) : FineL k (n + 2 + m) (d :: ds) := by
  refine ⟨?_, ?_, ?_, ?_, ?_⟩
  · show (d.canLay0 && PyData.canLayAll0 ds) = true
    rw [h.lay, hs.lay] <;> rfl
  · show (d.showable && PyData.showableAll ds) = true
    rw [h.sh, hs.sh] <;> rfl
  · show (d.hasDict || PyData.hasDictAll ds) = false
    rw [h.nd, hs.nd] <;> rfl
  · show max d.depth (PyData.depthAll ds) ≤ k
    exact Nat.max_le.mpr ⟨h.dep, hs.dep⟩
  · show wt d + 2 + wtAll ds ≤ n + 2 + m
    have a := h.sz
    have b := hs.sz
    omega
theorem FineL.all {k n : Nat} : ∀ {ds : List PyData}, (∀ d ∈ ds, Fine k n d) → FineL k (ds.length * (n + 2)) ds
  | [], _ => FineL.nil.up (Nat.zero_le _) (Nat.zero_le _)
  | d :: ds, h => ((h d (List.mem_cons_self ..)).up (Nat.le_refl _) (Nat.le_refl _)) |> fun a =>
    (FineL.cons a (FineL.all fun e he => h e (List.mem_cons_of_mem _ he))).up (Nat.le_refl _) (by rw [List.length_cons, Nat.succ_mul]; omega)
theorem Fine.list {k n : Nat} {ds : List PyData} (h : FineL k n ds) : Fine (k + 1) (n + 2) (.list ds) :=
  ⟨h.lay, h.sh, h.nd, Nat.succ_le_succ h.dep, Nat.add_le_add_right h.sz 2⟩
theorem Fine.tuple {k n : Nat} {ds : List PyData} (h : FineL k n ds) : Fine (k + 1) (n + 3) (.tuple ds) :=
  ⟨h.lay, h.sh, h.nd, Nat.succ_le_succ h.dep, Nat.add_le_add_right h.sz 3⟩
theorem bool_text (b : Bool) : ((if b then "True" else "False" : Str)).length ≤ 5 := by cases b <;> decide
theorem int_text {i : Int} (h : i.natAbs.log2 < 1920) : (Str.ofString (toString i)).length ≤ 1921 := int_text_len_1921 h
theorem pile_le : ∀ (ts : List Str), (listText ts).length ≤ piled ts + 2 := by
  intro ts
  unfold listText
  have e2 : (Str.ofString "]").length = 1 := by decide
  have e1 : (Str.ofString "[").length = 1 := by decide
  rw [Str.length_append, e2]
  cases ts with
  | nil => simp only [textFrom, e1, piled_nil]; decide
  | cons t ts =>
    have h0 : ∀ acc : Str, textFrom 0 acc (t :: ts) = textFrom 1 (acc ++ Str.ofString "" ++ t) ts := fun _ => rfl
    rw [h0, textFrom_length_pos ts 1 _ (by decide), Str.length_append, Str.length_append, e1, piled_cons]
    have e0 : (Str.ofString "").length = 0 := by decide
    rw [e0]
    omega
theorem tup_le : ∀ (ts : List Str), (tupleText ts).length ≤ piled ts + 3 := by
  intro ts
  unfold tupleText
  have e1 : (Str.ofString "(").length = 1 := by decide
  have e3 : ((if ts.length == 1 then ",)" else ")" : String) : Str).length ≤ 2 := by split <;> decide
  rw [Str.length_append, Str.length_append, e1]
  by_cases h : ts = []
  · subst h
    have : (Str.join (Str.ofString ", ") []).length = 0 := by decide
    rw [this, piled_nil]
    omega
  · have := join_length_add ts h
    omega
mutual
theorem shown_le : ∀ (d : PyData), d.showable = true → d.hasDict = false → d.shown.length ≤ wt d
  | .none, _, _ => by decide
  | .bool b, _, _ => bool_text b
  | .int i, h, _ => int_text (by simpa [PyData.showable] using h)
  | .str x, _, _ => Nat.le_refl _
  | .list xs, h, hn => by
    have a := shownL_le xs (by simpa [PyData.showable] using h) (by simpa [PyData.hasDict] using hn)
    show (listText (PyData.shownAll xs)).length ≤ wtAll xs + 2
    have := pile_le (PyData.shownAll xs)
    omega
  | .tuple xs, h, hn => by
    have a := shownL_le xs (by simpa [PyData.showable] using h) (by simpa [PyData.hasDict] using hn)
    show (tupleText (PyData.shownAll xs)).length ≤ wtAll xs + 3
    have := tup_le (PyData.shownAll xs)
    omega
  | .dict kvs, _, hn => by simp [PyData.hasDict] at hn
theorem shownL_le : ∀ (ds : List PyData), PyData.showableAll ds = true → PyData.hasDictAll ds = false → piled (PyData.shownAll ds) ≤ wtAll ds
  | [], _, _ => by simp [PyData.shownAll, piled_nil, wtAll]
  | d :: ds, h, hn => by
    have h' : (d.showable && PyData.showableAll ds) = true := h
    have hn' : (d.hasDict || PyData.hasDictAll ds) = false := hn
    rw [Bool.and_eq_true] at h'
    rw [Bool.or_eq_false_iff] at hn'
    have a := shown_le d h'.1 hn'.1
    have b := shownL_le ds h'.2 hn'.2
    show piled (d.shown :: PyData.shownAll ds) ≤ wt d + 2 + wtAll ds
    rw [piled_cons]
    omega
end
/-! ### repr of data -/
def rRepr (K : PySem.W.Frag) : List V → Hp → VK → Prop := fun xs H Q =>
  ∃ x d, xs = [x] ∧ Dp K H x d ∧ Fine 60 1000000 d ∧ Q (.str d.shown) H
theorem call_repr {X : Cx} (hg : X.A.guards = some []) (hu : X.A.units + 64 < cLine) : CallR X (.builtin "repr") (rRepr X.K) := by
  intro pins st σ H xs us Q I rv h
  obtain ⟨x, d, rfl, hd, hf, q⟩ := h
  obtain ⟨u, rfl, ru⟩ := vals1 rv
  obtain ⟨as, rd⟩ := Dp.reads I d x u hd ru
  have hz : d.shown.length ≤ sizeLine := by
    have a := shown_le d hf.sh hf.nd
    have b := hf.sz
    rw [sizeLine_eq]
    omega
  have fin : ∀ t tk, EP X pins σ Q (.str d.shown t) { st with toks := tk } := fun t tk => ⟨.str d.shown, H, I.tok tk, ⟨t, rfl⟩, q⟩
  have big : ∀ a, u = .ref a → wpAny (model X.prog X.w) X.A (call (.builtin "repr") [u]) (EP X pins σ Q) X.xe st := fun a e => by
    subst e
    have hdp := hf.dep
    exact repr_of_reads' rd hf.sh (PyData.noDict_hsm hf.nd) hg (by omega) (fun _ _ e => e)
      (fun h' t tk hk => ⟨.str d.shown, H, I.kept hk, ⟨t, rfl⟩, q⟩) hz
  cases rd with
  | none => exact PySem.P.repr_of_none (fin _ _)
  | bool b => exact PySem.P.repr_of_bool (fin _ _)
  | int i t => exact PySem.P.repr_of_int (by simpa [PyData.showable] using hf.sh) (fin _ _)
  | str y t => exact PySem.P.repr_of_str (fin _ _) hz
  | list a1 a2 a3 a4 => exact big _ rfl
  | tuple a1 a2 a3 a4 => exact big _ rfl
  | dict a1 a2 a3 a4 a5 => exact absurd hf.nd (by simp [PyData.hasDict])
end My

set_option Elab.async false
set_option maxRecDepth 100000
/-! Defs whose promise is shown where no repr is going on. -/
namespace My
open PySem L2 PySem.Spec PyProof.Rows

/-- as FnOk (no exception leaves), where it is known that nothing is being shown -/
structure FnG (P : Program) (w : World) (K : PySem.W.Frag) (mg : Str → Option Value) (base : Heap) (k : Nat)
    (f : Addr) (fd : FuncData) (ps : List Str) (sp : Sp) : Prop where
  len : ∀ vs H Q E, sp vs H Q E → vs.length = ps.length
  run : ∀ (A : Around) (out : List Env) (st : Shared) (H : Hp) (ar : Args) (us : List Value) (vs : List V) (Q : VK) (E : XK),
    Room k A → A.guards = some [] → Env0 P w K mg base A out st H → BindsTo st fd ar (ps.zip us) →
    Vals vs us → sp vs H Q E → codeAny (model P w) A (.call (.ref f) ar) (CR CX0 out P w H st Q E) st
section
variable {P : Program} {w : World} {K : PySem.W.Frag} {mg : Str → Option Value} {base : Heap} {k : Nat}
  {f : Addr} {fd : FuncData} {ps : List Str} {sp : Sp}
theorem FnG.of (F : FnOk P w K mg base CX0 k f fd ps sp) : FnG P w K mg base k f fd ps sp :=
  ⟨F.len, fun A out st H ar us vs Q E hr _ => F.run A out st H ar us vs Q E hr⟩
theorem FnG.mono {j : Nat} (F : FnG P w K mg base j f fd ps sp) (h : j ≤ k) : FnG P w K mg base k f fd ps sp :=
  ⟨F.len, fun A out st H ar us vs Q E hr => F.run A out st H ar us vs Q E (hr.mono h)⟩
end

section
variable {X : Cx} {k : Nat} {f : Addr} {fd : FuncData} {ps : List Str} {sp : Sp} {x : Str} {p pos : Pos} {e : Expr} {es : List Expr} {t : TA}
theorem run_g {pins : List (Addr × Obj)} {σ : L2.St} {H : Hp} {st : Shared} {Q : VK} {us : List Value} {vs : List V}
    (F : FnG X.prog X.w X.K X.mg X.base k f fd ps sp) (hr : Room k X.A) (hg : X.A.guards = some []) (hb : Binds X.K fd ps [])
    (I : Inv X pins σ H st) (r : Vals vs us) (h : sp vs H Q E0) :
    wpAny (model X.prog X.w) X.A (call (.ref f) us) (EP X pins σ Q) X.xe st := by
  have hl : (us ++ ([] : List Value)).length = ps.length := by
    rw [List.append_nil, ← r.length]
    exact F.len _ _ _ _ h
  have hb' := hb st us I.kIn hl
  rw [List.append_nil] at hb'
  refine wpAny_call (codeAny_mono (F.run X.A X.stack st H ⟨us, []⟩ us vs Q E0 hr hg I.env0 hb' r h) ?_)
  intro res st' hq
  match res, hq with
  | .error _, hq => exact False.elim hq
  | .ok (.ret _), hq => exact I.after hq
  | .ok .next, hq => exact False.elim hq
  | .ok .brk, hq => exact False.elim hq
  | .ok .cont, hq => exact False.elim hq
theorem pe_callG (F : FnG X.prog X.w X.K X.mg X.base k f fd ps sp) (hr : Room k X.A) (hg : X.A.guards = some []) (gl : Gl X x)
    (hm : X.mg x = some (.ref f)) (hk : PySem.W.keepIn X.K (.ref f) = true) (hb : Binds X.K fd ps []) (ha : PA X (e :: es) t)
    (hdb : (x == ("__debug__" : Str)) = false := by decide) (he : starEach (e :: es) X.env = (false, eval e X.env) :: starEach es X.env := by rfl)
    (hpl : (backTo pos (starEach es X.env)).any (·.1) = false := by rfl) : PE X (.Call (.Name x p) (e :: es) [] pos) (tCall sp [] E0 t) := by
  constructor
  intro pins st σ H Q I h
  refine wpAny_Call_Name_kw (ld_glob I gl hm ?_ hdb)
  refine PySem.W.callWith_K (h₀ := X.base) I.ok.mod.kin hk (thn (ha.run pos pins st σ H _ I h) ?_) he hpl
  rintro us s1 ⟨vs, H1, I1, r, q⟩
  have q' : sp vs H1 Q E0 := by
    have q2 : sp (vs ++ []) H1 Q E0 := q
    rwa [List.append_nil] at q2
  exact ⟨I1.kIn, run_g F hr hg hb I1 r q'⟩
theorem pe_callG0 (F : FnG X.prog X.w X.K X.mg X.base k f fd ps sp) (hr : Room k X.A) (hg : X.A.guards = some []) (gl : Gl X x)
    (hm : X.mg x = some (.ref f)) (hk : PySem.W.keepIn X.K (.ref f) = true) (hb : Binds X.K fd ps [])
    (hdb : (x == ("__debug__" : Str)) = false := by decide) : PE X (.Call (.Name x p) [] [] pos) (tCall sp [] E0 tNil) := by
  constructor
  intro pins st σ H Q I h
  have q2 : sp ([] ++ []) H Q E0 := h
  exact wpAny_Call_Name_kw (ld_glob I gl hm (PySem.W.callWith_K0 I.kIn hk (run_g (us := []) F hr hg hb I .nil q2)) hdb)
end

/-- a def by its body, where nothing is being shown -/
theorem okG {P : Program} {w : World} {K : PySem.W.Frag} {mg : Str → Option Value} {base : Heap} {x qual : Str} {sm : Stmt} {f : Addr} {fd : FuncData}
    {N ps : List Str} {k : Nat} {sp : Sp} (F : Fun K x qual sm f fd) (S : FnScope N ps (defScope sm)) (len : ∀ vs H Q E, sp vs H Q E → vs.length = ps.length)
    (hbody : ∀ (cdv : Value) (A : Around) (out : List Env) (st : Shared) (H : Hp) (vs : List V) (Q : VK) (E : XK),
      Room k (A.deeper (envOfC qual (defScope sm) st.heap.objs.size f cdv)) → (A.deeper (envOfC qual (defScope sm) st.heap.objs.size f cdv)).guards = some [] → sp vs H Q E →
      ∃ t, PSs (cxOf CX0 P w K mg base N qual (defScope sm) f cdv A out st H E).nox (defBody sm) t ∧ t { nx := fun _ H' => Q .non H', rt := Q } (start N vs) H) :
    FnG P w K mg base (k + 1) f fd ps sp := by
  obtain ⟨oc, od, kV, doc, pm, an, cdv, ct, osl, rfl, lk, hcd⟩ := F.ex
  refine ⟨len, ?_⟩
  intro A out st H ar us vs Q E hr hgd e0 hb rv hsp
  have n1 := len _ _ _ _ hsp
  have kin : K.In st.heap := e0.mod.kin.keeps fun b o z => (e0.bs b o z).1
  have lim : st.heap.NoLimit := e0.mod.nolimit.keeps fun b o z => (e0.bs b o z).1
  have kinds : ∀ y ∈ ps.zip us, (defScope sm).names.lookup y.1 = some .local ∨
      ((defScope sm).names.lookup y.1 = some .cell ∧ ((cellsFrom (st.heap.objs.size + 1) (defScope sm).names []).lookup y.1).isSome = true) := by
    rintro ⟨n, v⟩ hy
    rcases S.par n (List.of_mem_zip hy).1 with q | q
    · exact .inl q
    · exact .inr ⟨q, PySem.W.cellsFrom_some _ _ _ (.inl q)⟩
  refine codeAny_call_function hr.depth (kin _ _ lk) rfl S.co S.gen rfl (PySem.W.codeRec_of kin hcd) (hb _ _ _ _ ?_)
  refine wpAny_newFunctionEnv_cells S.kind kinds ?_
  intro env he s1 x1
  subst he
  obtain ⟨t, ht, hq⟩ := hbody cdv A out st H vs Q E (hr.deeper _) hgd hsp
  refine ⟨lim.keeps x1.toInCall.keep, codeAny_func ?_⟩
  have I : Inv (cxOf CX0 P w K mg base N qual (defScope sm) f cdv A out st H E) [] (start N vs) H s1 := inv_start S hr.hd e0 n1 rv x1
  refine wpAny_mono (ht.nox.run [] s1 (start N vs) H _ I hq) ?_ fun e s' hs => hs
  intro fl s' hs
  match fl, hs with
  | .ret u, hs =>
    obtain ⟨v, σ', H', J, rv', q⟩ := hs
    exact ⟨v, H', J.os, J.bare, J.base, J.hok, rv', q⟩
  | .next, hs =>
    obtain ⟨σ', H', J, q⟩ := hs
    exact ⟨.non, H', J.os, J.bare, J.base, J.hok, rfl, q⟩
  | .brk, hs =>
    obtain ⟨_, _, _, q⟩ := hs
    exact False.elim q
  | .cont, hs =>
    obtain ⟨_, _, _, q⟩ := hs
    exact False.elim q

/-- one def of the text, as it stands behind the top -/
structure Df (K : PySem.W.Frag) (mg : Str → Option Value) (name : Str) (sm : Stmt) (ps : List Str) where
  f : Addr
  fd : FuncData
  F : Fun K name name sm f fd
  mg : mg name = some (.ref f)
  kp : PySem.W.keepIn K (.ref f) = true
  b : Binds K fd ps []
end My

set_option Elab.async false
set_option maxRecDepth 100000
/-! The law's own call, from a promise that may lean on it that nothing is being shown. -/
namespace My
open PySem L2 PySem.Spec PyProof.Rows

def lawEnd (st : Shared) : Result → Shared → Prop := fun r s' =>
  r = .ok (.ret (.bool true)) ∧ OldK st.heap s'.heap ∧ s'.os = st.os ∧ AllBare s'.gens

/-- from an abstract heap in which at most the script stands -/
theorem law_from {P : Program} {w : World} {K : PySem.W.Frag} {mg mb : Str → Option Value} {k : Nat} {fa a : Addr} {fd : FuncData} {x : Str} {sp : Sp}
    {st : Shared} {vs : List Value} {H : Hp}
    (KX : K.In st.heap) (hns : st.heap.Ns mainGlobals mg) (hb : st.heap.Ns builtinsNs mb) (hbb : ∀ y : Str, y ≠ "__name__" → mb y = bootBuiltins y)
    (hlim : st.heap.NoLimit) (hgn : st.gens = #[]) (ha : st.heap.get? a = some { cls := .type "list", data := .seq vs.toArray }) (hr : Room k callerA)
    (F : ∀ base : Heap, K.In base → base.Ns mainGlobals mg → FnG P w K mg base k fa fd [x] sp)
    (hbind : ∀ (s : Shared) (u : Value), BindsTo s fd ⟨[u], []⟩ [(x, u)])
    (hsp : sp [.ref a] H (fun v _ => v = .bl true) fun _ _ _ => False)
    (hO : Only H) (hok : HOk P w H st.heap) (hA : ∀ b, H b ≠ none → b = a) (hK : H a ≠ none → K.lookup a = none) :
    codeAny (model P w) callerA (.call (.ref fa) ⟨[.ref a], []⟩) (lawEnd st) st := by
  have isA : ∀ {b : Addr} {u : HO}, H b = some u → b = a := fun {b u} q => hA b (by rw [q]; simp)
  have dictFree : ∀ {b : Addr} {o : Obj} {es : Array DictEntry} {ep : Nat}, st.heap.get? b = some o → o.data = .dict es ep → H b = none := by
    intro b o es ep e d
    match q : H b with
    | none => rfl
    | some u =>
      obtain rfl := isA q
      rw [ha] at e
      cases e
      cases (show Data.seq vs.toArray _ = Data.dict es ep from d)
  have nsOf : ∀ {b : Addr} {m : Str → Option Value}, st.heap.Ns b m → (hidT st.heap H).Ns b m := by
    rintro b m ⟨o, es, ep, e, d, r⟩
    exact ⟨o, es, ep, hidT_get e (dictFree e d), d, r⟩
  have kin : K.In (hidT st.heap H) := by
    intro b o e
    refine hidT_get (KX b o e) ?_
    match q : H b with
    | none => rfl
    | some u =>
      obtain rfl := isA q
      rw [hK (by rw [q]; simp)] at e
      cases e
  have md : Mod K mg (hidT st.heap H) := by
    obtain ⟨mc, l1, l2⟩ := hlim
    exact ⟨kin, nsOf hns, ⟨mb, nsOf hb, hbb⟩, ⟨mc, nsOf l1, l2⟩⟩
  have e0 : Env0 P w K mg (hidT st.heap H) callerA [] st H := by
    refine ⟨rfl, md, fun b o e => of_hidT e, Nat.le_of_eq (hidT_size _ _), trivial, ?_, hok, .of_eq hgn⟩
    intro b hb'
    cases (show b ∈ ([] : List Addr) from hb')
  have go := (F _ kin (nsOf hns)).run callerA [] st H ⟨[.ref a], []⟩ [.ref a] [.ref a] _ _ hr rfl e0 (hbind st (.ref a)) (.cons rfl .nil) hsp
  refine codeAny_mono go ?_
  intro r s' h
  match r, h with
  | .error _, h => exact False.elim h
  | .ok .next, h => exact False.elim h
  | .ok .brk, h => exact False.elim h
  | .ok .cont, h => exact False.elim h
  | .ok (.ret u), h =>
    obtain ⟨v, H', os, bare, un, hok', rr, q⟩ := h
    have q' : v = .bl true := q
    subst q'
    obtain rfl : u = Value.bool true := rr
    refine ⟨rfl, OldK.of_keep ?_, os, bare⟩
    intro b o e
    match q : H b with
    | none =>
      refine un.keep b o e q (fun z => ?_) (by simp)
      cases (show b ∈ ([] : List Addr) from z)
    | some u =>
      rcases hO b with z | ⟨ob, xs, z⟩
      · rw [q] at z
        cases z
      · obtain ⟨e1, _⟩ := hok b _ z
        obtain ⟨e2, _⟩ := hok' b _ (un.frzs b ob _ z)
        rw [e] at e1
        cases e1
        exact e2

theorem law_runs {P : Program} {w : World} {K : PySem.W.Frag} {mg mb : Str → Option Value} {k : Nat} {fa a : Addr} {fd : FuncData} {x : Str} {sp : Sp}
    {st : Shared} {vs : List Value} {ns : List Int}
    (KX : K.In st.heap) (hns : st.heap.Ns mainGlobals mg) (hb : st.heap.Ns builtinsNs mb) (hbb : ∀ y : Str, y ≠ "__name__" → mb y = bootBuiltins y)
    (hlim : st.heap.NoLimit) (hgn : st.gens = #[]) (ha : st.heap.get? a = some { cls := .type "list", data := .seq vs.toArray })
    (hi : IntsAre vs ns) (hl : ns.length ≤ sizeLine) (hr : Room k callerA)
    (F : ∀ base : Heap, K.In base → base.Ns mainGlobals mg → FnG P w K mg base k fa fd [x] sp)
    (hbind : ∀ (s : Shared) (u : Value), BindsTo s fd ⟨[u], []⟩ [(x, u)])
    (hsp : ∀ H : Hp, Only H → SqL K H a (ns.map V.int) → sp [.ref a] H (fun v _ => v = .bl true) fun _ _ _ => False) :
    codeAny (model P w) callerA (.call (.ref fa) ⟨[.ref a], []⟩) (lawEnd st) st := by
  have rv := vals_ints hi
  have n1 := hi.length
  match hk : K.lookup a with
  | some o =>
    have e := KX a o hk
    rw [ha] at e
    cases e
    have hO : Only fun _ => none := fun _ => .inl rfl
    have hS : SqL K (fun _ => none) a (ns.map V.int) :=
      .inr ⟨_, vs.toArray, _, hk, rfl, rfl, rfl, by rw [List.size_toArray, n1]; exact hl, by simpa using rv⟩
    refine law_from KX hns hb hbb hlim hgn ha hr F hbind (hsp _ hO hS) hO ?_ (fun b z => absurd rfl z) fun z => absurd rfl z
    intro b u z
    cases (show (none : Option HO) = some u from z)
  | none =>
    let H : Hp := fun b => if b = a then some (.frz { cls := .type "list", data := .seq vs.toArray } (.lst (ns.map V.int))) else none
    have at_a : H a = some (.frz { cls := .type "list", data := .seq vs.toArray } (.lst (ns.map V.int))) := if_pos rfl
    have off : ∀ b, b ≠ a → H b = none := fun b n => if_neg n
    have hO : Only H := fun b => by
      by_cases n : b = a
      · subst n
        exact .inr ⟨_, _, at_a⟩
      · exact .inl (off b n)
    refine law_from KX hns hb hbb hlim hgn ha hr F hbind (hsp H hO (.inl (.inr ⟨_, at_a⟩))) hO ?_ ?_ fun _ => hk
    · intro b u z
      by_cases n : b = a
      · subst n
        rw [at_a] at z
        cases z
        exact ⟨ha, by rw [List.length_map]; exact hl, vs, _, rv, ha⟩
      · rw [off b n] at z
        cases z
    · intro b z
      by_cases n : b = a
      · exact n
      · exact absurd (off b n) z

/-- the goal behind the head -/
theorem walkG {l : PySem.W.OpenLaw} {k : Nat} {q : Program} {loose : List Str} {XP : (Str → Option Value) → Heap → Prop} {YP : World → Heap → Prop}
    {d : DefRec} {K : Params → PySem.W.Frag} {x : Str} (sp : PySem.W.Frag → Sp) (hn : l.most = some 63) (hdf : d.params.defaults = []) (hr : Room k callerA)
    (hY : ∀ (w : World) (h : Heap), YP w h → (K w.params).In h)
    (F : ∀ (w : World) (mg : Str → Option Value) (fa : Addr) (h : Heap), (K w.params).In h → h.Ns mainGlobals mg → mg d.name = some (.ref fa) →
      ∃ fd : FuncData, (∀ (s : Shared) (u : Value), BindsTo s fd ⟨[u], []⟩ [(x, u)]) ∧
        ∀ base : Heap, (K w.params).In base → base.Ns mainGlobals mg → FnG l.prog w (K w.params) mg base k fa fd [x] (sp (K w.params)))
    (hsp : ∀ (K : PySem.W.Frag) (H : Hp) (a : Addr) (ns : List Int), ns.length ≤ 63 → SqL K H a (ns.map V.int) → sp K [.ref a] H (fun v _ => v = .bl true) fun _ _ _ => False) :
    PySem.W.WalkO q loose XP YP l.row.toRowW d [] (fun f vs => PySem.call f vs) := by
  refine Att.attach_call hn hdf ?_
  intro w s₀ st mg mb fa o pm cd doc a vs ns G Y ho hd hcd hmg hobj hints hlen hgn
  obtain ⟨fd, hb, hF⟩ := F w mg fa _ (hY w _ Y) G.T.g hmg
  exact law_runs (hY w _ Y) G.T.g G.T.b G.T.builtins G.T.nolimit hgn hobj hints (Nat.le_trans hlen (by decide)) hr hF hb
    fun H _ hS => hsp _ H a ns hlen hS
end My

set_option Elab.async false
set_option maxRecDepth 100000
/-! The law's bag of draws: what stands of it behind each draw. -/
namespace My
open PySem L2 PySem.Spec PyProof.Rows

/-- what was tracked is as it was, but the bag -/
def Keep (b : Addr) (H H' : Hp) : Prop := ∀ a o, H a = some o → a ≠ b → H' a = some o
theorem Keep.refl {b : Addr} {H : Hp} : Keep b H H := fun _ _ h _ => h
theorem Keep.trans {b : Addr} {H H1 H2 : Hp} (h : Keep b H H1) (g : Keep b H1 H2) : Keep b H H2 := fun a o e n => g a o (h a o e n) n
theorem Keep.of {b : Addr} {H H' : Hp} (h : Same H H') : Keep b H H' := fun a o e _ => h a o e
theorem Same.new {H : Hp} {p : Addr} {o : HO} (h : H p = none) : Same H (upd H p o) := fun a u e => by
  rw [upd_ne (ne_of_none e h)]
  exact e
theorem Same.mut {H H' : Hp} {p : Addr} {o : HO} (h : H p = none) (s : Same H H') : Same H (upd H' p o) := fun a u e => by
  rw [upd_ne (ne_of_none e h)]
  exact s a u e
theorem Keep.new {b : Addr} {H H' : Hp} {p : Addr} {o : HO} (k : Keep b H H') (h : H' p = none) : Keep b H (upd H' p o) := k.trans (.of (Same.new h))

/-- the bag at b -/
structure BagAt (H : Hp) (b l : Addr) (z m : Int) (k : Nat) (cs : List Int) : Prop where
  ob : H b = some (.lst [.int z, .int m, .int (k : Int), .ref l])
  cl : H l = some (.lst (cs.map V.int))
  z0 : 0 ≤ z
  m0 : 0 ≤ m
  m1 : m < 2147483647
  c0 : ∀ c ∈ cs, 0 ≤ c
  len : cs.length ≤ 63
def Bag (H : Hp) (b : Addr) : Prop := ∃ l z m k cs, BagAt H b l z m k cs
theorem BagAt.ne {H : Hp} {b l : Addr} {z m : Int} {k : Nat} {cs : List Int} (B : BagAt H b l z m k cs) : l ≠ b := by
  intro e
  have h1 := B.ob
  rw [← e, B.cl] at h1
  have h2 := HO.lst.inj (Option.some.inj h1)
  have h3 : V.ref l ∈ cs.map V.int := by rw [h2]; simp
  obtain ⟨c, _, hc⟩ := List.mem_map.mp h3
  cases hc
theorem BagAt.same {H H' : Hp} {b l : Addr} {z m : Int} {k : Nat} {cs : List Int} (B : BagAt H b l z m k cs) (s : Same H H') : BagAt H' b l z m k cs :=
  ⟨s _ _ B.ob, s _ _ B.cl, B.z0, B.m0, B.m1, B.c0, B.len⟩
theorem Bag.same {H H' : Hp} {b : Addr} (B : Bag H b) (s : Same H H') : Bag H' b := by
  obtain ⟨l, z, m, k, cs, B⟩ := B
  exact ⟨l, z, m, k, cs, B.same s⟩
theorem Bag.some {H : Hp} {b : Addr} (B : Bag H b) : ∃ o, H b = some o := by
  obtain ⟨l, z, m, k, cs, B⟩ := B
  exact ⟨_, B.ob⟩
/-- the bag written -/
theorem BagAt.put {H : Hp} {b l : Addr} {z m : Int} {k : Nat} {cs : List Int} (B : BagAt H b l z m k cs) {z' m' : Int} {k' : Nat} (h0 : 0 ≤ z') (h1 : 0 ≤ m') (h2 : m' < 2147483647) :
    BagAt (upd H b (.lst [.int z', .int m', .int (k' : Int), .ref l])) b l z' m' k' cs :=
  ⟨upd_same, by rw [upd_ne B.ne]; exact B.cl, h0, h1, h2, B.c0, B.len⟩
theorem keep_upd {H : Hp} {b : Addr} {o : HO} : Keep b H (upd H b o) := fun a u e n => by rw [upd_ne n]; exact e

def spBag (K : PySem.W.Frag) : Sp := fun vs H Q _ => ∃ (a : Addr) (ns : List Int), vs = [.ref a] ∧ SqL K H a (ns.map V.int) ∧ ns.length ≤ 63 ∧
  ∀ (b : Addr) (H' : Hp), H b = none → Bag H' b → Same H H' → Q (.ref b) H'
/-- not too great for a divisor -/
def Small (n : Int) : Prop := n.natAbs < 2 ^ 9000
def spTake : Sp := fun vs H Q _ => ∃ (b : Addr) (n : Int), vs = [.ref b, .int n] ∧ Bag H b ∧ 0 < n ∧ Small n ∧
  ∀ (r : Int) (H' : Hp), 0 ≤ r → r < n → Bag H' b → Keep b H H' → Q (.int r) H'
def spOne : Sp := fun vs H Q _ => ∃ (b l : Addr) (xs : List V), vs = [.ref b, .ref l] ∧ Bag H b ∧ H l = some (.lst xs) ∧ l ≠ b ∧ 0 < xs.length ∧ xs.length ≤ 100000 ∧
  ∀ (v : V) (H' : Hp), v ∈ xs → Bag H' b → Keep b H H' → Q v H'
def spAlike (K : PySem.W.Frag) : Sp := fun vs H Q _ => ∃ (x y : V) (d : PyData), vs = [x, y] ∧ Dp K H x d ∧ Dp K H y d ∧ Fine 60 1000000 d ∧ Q (.bl true) H

theorem shaped_of {k n : Nat} {d : PyData} (h : Fine k n d) (hk : k ≤ 64) : SeqAt.shaped d = true := by
  unfold SeqAt.shaped
  rw [h.lay, decide_eq_true (Nat.le_trans h.dep hk)] <;> rfl
theorem dec_is {x : V} {i : Int} {b : Bool} (h : decide (x = V.int i) = b) : decide (x = V.int i) = b := h
theorem int_of_dec {i j : Int} (h : decide (V.int i = V.int j) = true) : i = j := by
  have h1 := of_decide_eq_true h
  exact V.int.inj h1
theorem fmod_pos {a n : Int} (h : 0 < n) : 0 ≤ a.fmod n ∧ a.fmod n < n := by
  rw [Int.fmod_eq_emod_of_nonneg a (Int.le_of_lt h)]
  exact ⟨Int.emod_nonneg a (by omega), Int.emod_lt_of_pos a h⟩
end My

set_option Elab.async false
set_option maxRecDepth 100000
/-! The law's own draws, over its text. -/
namespace My
open PySem L2 PySem.Spec PyProof.Rows
def top (i : Nat) : Stmt := PySem.Challenge.pw_wholepoll_k17_sets.main.body.getD i (.Pass ⟨0, 0, 0, 0⟩)
/-- the built-in names are the built-in things -/
structure Txt (mg : Str → Option Value) : Prop where
  abs : mg "abs" = none
  int : mg "int" = none
  len : mg "len" = none
  list : mg "list" = none
  range : mg "range" = none
  repr : mg "repr" = none
  sum : mg "sum" = none
  enumerate : mg "enumerate" = none
abbrev sLBag : Stmt := top 8
abbrev scLBagN : List Str := ["_law_script", "_law_cell"]
theorem scLBag : FnScope ["_law_script", "_law_cell"] ["_law_script"] (defScope sLBag) :=
  ⟨rfl, rfl, rfl, by decide +kernel, rfl, by decide +kernel, by decide +kernel⟩
abbrev sLTake : Stmt := top 9
abbrev scLTakeN : List Str := ["_law_bag_here", "_law_many", "_law_cell", "_law_mixed", "_law_drawn", "_law_early", "_law_second"]
theorem scLTake : FnScope ["_law_bag_here", "_law_many", "_law_cell", "_law_mixed", "_law_drawn", "_law_early", "_law_second"] ["_law_bag_here", "_law_many"] (defScope sLTake) :=
  ⟨rfl, rfl, rfl, by decide +kernel, rfl, by decide +kernel, by decide +kernel⟩
abbrev sLOne : Stmt := top 11
abbrev scLOneN : List Str := ["_law_bag_here", "_law_some"]
theorem scLOne : FnScope ["_law_bag_here", "_law_some"] ["_law_bag_here", "_law_some"] (defScope sLOne) :=
  ⟨rfl, rfl, rfl, by decide +kernel, rfl, by decide +kernel, by decide +kernel⟩
abbrev sLAlike : Stmt := top 10
abbrev scLAlikeN : List Str := ["_law_found", "_law_due"]
theorem scLAlike : FnScope ["_law_found", "_law_due"] ["_law_found", "_law_due"] (defScope sLAlike) :=
  ⟨rfl, rfl, rfl, by decide +kernel, rfl, by decide +kernel, by decide +kernel⟩
theorem head_cell {cs : List Int} (h : ∀ c ∈ cs, 0 ≤ c) (lo : Option Int) : ∃ c : Int, 0 ≤ c ∧ (cutV (cs.map V.int) lo none ++ [V.int 0])[0]? = some (.int c) := by
  match e : cutV (cs.map V.int) lo none with
  | [] => exact ⟨0, Int.le_refl 0, rfl⟩
  | v :: vs =>
    have hv : v ∈ cs.map V.int := by
      have : v ∈ cutV (cs.map V.int) lo none := by rw [e]; exact List.mem_cons_self ..
      unfold cutV at this
      exact List.mem_of_mem_drop (List.mem_of_mem_take this)
    obtain ⟨c, hc, rfl⟩ := List.mem_map.mp hv
    exact ⟨c, h c hc, rfl⟩
section
variable {P : Program} {w : World} {K : PySem.W.Frag} {mg : Str → Option Value} {base : Heap}
theorem ok_take {f : Addr} {fd : FuncData} (F : Fun K "_law_take" "_law_take" sLTake f fd) (T : Txt mg) :
    FnOk P w K mg base CX0 1 f fd ["_law_bag_here", "_law_many"] spTake := by
  refine F.ok scLTake (fun vs H Q E h => ?_) (fun cdv A outer s H vs Q E hr h => ?_)
  · obtain ⟨b, n, rfl, _⟩ := h
    rfl
  · obtain ⟨b, n, rfl, ⟨l, z, m, k, cs, B⟩, hn0, hn9, go⟩ := h
    refine ⟨_, (C8.pss_cut (ps_if (pt_cmpR op_eq (pe_ix ix_list (pv 0) pe_int (fun _ _ => rfl)) pe_int (nomark _))
      (pss_cons (ps_set (i := 2) scLTake.nd rfl (.inl rfl) (pe_ix ix_list (pe_op op_cat (pe_slice sl_list (pe_ix ix_list (pv 0) pe_int (fun _ _ => rfl)) (po_some (pe_ix ix_list (pv 0) pe_int (fun _ _ => rfl))) po_none) (pe_lst (pa_cons pe_int pa_nil))) pe_int (fun _ _ => rfl)))
      (pss_cons (ps_augS (pv 0) pe_int My.get_list pe_int ip_add set_list)
      (pss_cons (ps_asg (pe_op op_mul (pv 2) (pe_callTy call_int1 (by rfl) T.int (by decide +kernel) (pa_cons (pe_cmpR op_ge (pv 2) (pe_op op_pow pe_int pe_int) (nomark _)) pa_nil))) (pg_sub (pv 0) pe_int set_list))
      (pss_cons (ps_set (i := 3) scLTake.nd rfl (.inl rfl) (pe_op op_add (pe_op op_add (pe_op op_mul (pe_ix ix_list (pv 0) pe_int (fun _ _ => rfl)) pe_int) (pe_op op_modN (pe_callTy call_int1 (by rfl) T.int (by decide +kernel) (pa_cons (pv 2) pa_nil)) pe_int)) (pe_op op_mul pe_int (pe_ix ix_list (pv 0) pe_int (fun _ _ => rfl)))))
      (pss_one (ps_asg (pe_op op_modN (pe_callTy call_int1 (by rfl) T.int (by decide +kernel) (pa_cons (pv 3) pa_nil)) pe_int) (pg_sub (pv 0) pe_int set_list)))))))
      pss_nil)
    (pss_cons (ps_if (pt_cmpR op_gt (pe_ix ix_list (pv 0) pe_int (fun _ _ => rfl)) pe_int (nomark _))
      (pss_cons (ps_asg (pe_tup (pa_cons (pe_op op_modN (pe_callTy call_int1 (by rfl) T.int (by decide +kernel) (pa_cons (pe_ix ix_list (pv 0) pe_int (fun _ _ => rfl)) pa_nil)) (pv 1)) (pa_cons (pe_op op_fdivW (pe_callTy call_int1 (by rfl) T.int (by decide +kernel) (pa_cons (pe_ix ix_list (pv 0) pe_int (fun _ _ => rfl)) pa_nil)) (pv 1)) pa_nil))) (pg_tup (by rfl) (pgs_cons (pg_name (i := 4) scLTake.nd rfl (.inl rfl)) (pgs_cons (pg_sub (pv 0) pe_int set_list) pgs_nil))))
      (pss_one (ps_ret (pv 4))))
      pss_nil)
    (pss_cons (ps_set (i := 5) scLTake.nd rfl (.inl rfl) (pe_op op_modN (pe_callTy call_int1 (by rfl) T.int (by decide +kernel) (pa_cons (pe_op op_mul (pe_op op_add (pe_ix ix_list (pv 0) pe_int (fun _ _ => rfl)) pe_int) pe_int) pa_nil)) pe_int))
    (pss_cons (ps_set (i := 6) scLTake.nd rfl (.inl rfl) (pe_op op_modN (pe_callTy call_int1 (by rfl) T.int (by decide +kernel) (pa_cons (pe_op op_mul (pe_op op_modN (pe_callTy call_int1 (by rfl) T.int (by decide +kernel) (pa_cons (pe_op op_mul (pv 5) (pv 5)) pa_nil)) pe_int) pe_int) pa_nil)) pe_int))
    (pss_one (ps_ret (pe_op op_modN (pe_callTy call_int1 (by rfl) T.int (by decide +kernel) (pa_cons (pe_op op_fdivW (pv 6) pe_int) pa_nil)) (pv 1)))))))), ?_⟩
    refine ⟨fun σ' H' => ∃ (c m3 : Option V) (z' m' : Int) (k' : Nat), σ' = [some (.ref b), some (.int n), c, m3, none, none, none] ∧ BagAt H' b l z' m' k' cs ∧ Keep b H H', ?_, ?_⟩
    · refine ⟨_, rfl, b, _, 0, _, rfl, rfl, SqL.of B.ob, atI_nat (j := 0) rfl, rfl, _, rfl, ite2 (fun e => ?_) (fun e => ?_)⟩
      · obtain ⟨c, hc0, hc⟩ := head_cell B.c0 (some (k : Int))
        refine ⟨_, rfl, b, _, 3, _, rfl, rfl, SqL.of B.ob, atI_nat (j := 3) rfl, _, rfl, b, _, 2, _, rfl, rfl, SqL.of B.ob, atI_nat (j := 2) rfl, _, rfl, l, _, rfl, SqL.of B.cl, fun p hp => ?_⟩
        refine ⟨by show 1 ≤ sizeLine; decide, fun q hq => ?_⟩
        have np : p ≠ q := ne_of_none upd_same hq
        refine ⟨p, q, _, _, rfl, rfl, by rw [upd_ne np]; exact upd_same, upd_same, ?_, fun r hr' => ?_⟩
        · have h1 := cutV_length (cs.map V.int) (some (k : Int)) none
          have h2 := B.len
          rw [List.length_map] at h1
          show _ + 1 ≤ sizeLine
          rw [sizeLine_eq]
          omega
        have s1 : Same H (upd (upd (upd H p (.lst (cutV (cs.map V.int) (some (k : Int)) none))) q (.lst [V.int 0])) r (.lst (cutV (cs.map V.int) (some (k : Int)) none ++ [V.int 0]))) :=
          ((Same.new hp).trans (Same.new hq)).trans (Same.new hr')
        have B1 := B.same s1
        refine ⟨r, _, 0, _, rfl, rfl, SqL.of upd_same, atI_nat (j := 0) hc, ?_⟩
        refine ⟨_, rfl, b, _, 2, _, rfl, rfl, SqL.of B1.ob, rfl, _, _, rfl, rfl, b, _, 2, 2, rfl, rfl, B1.ob, rfl, ?_⟩
        have B2 := B1.put (k' := k + 1) B.z0 B.m0 B.m1
        refine ⟨_, rfl, _, rfl, _, _, rfl, rfl, ⟨by decide, by decide, by decide⟩, _, _, rfl, rfl, .inr ⟨_, rfl, _, _, rfl, rfl, .inr ⟨by split <;> decide, by split <;> decide⟩, _, rfl, b, _, 0, 0, rfl, rfl, B2.ob, rfl, ?_⟩⟩
        have h0 : 0 ≤ c * (if decide ((10 : Int) ^ (18 : Int).toNat ≤ c) = true then 1 else 0) := Int.mul_nonneg hc0 (by split <;> decide)
        have B3 := B2.put (k' := k + 1) h0 B.m0 B.m1
        rw [upd_upd] at B3
        refine ⟨_, rfl, b, _, 1, _, rfl, rfl, SqL.of upd_same, atI_nat (j := 1) rfl, _, _, rfl, rfl, .inr ⟨by decide, by decide⟩, _, rfl, .inl ⟨_, rfl, _, _, rfl, rfl, (show (2147483647 : Int) ≠ 0 by decide), _, _, rfl, rfl, _, rfl, b, _, 2, _, rfl, rfl, SqL.of upd_same, atI_nat (j := 2) rfl,
          _, _, rfl, rfl, .inl ⟨by decide, by decide⟩, _, _, rfl, rfl, ?_⟩⟩
        refine ⟨_, rfl, .inl ⟨_, rfl, _, _, rfl, rfl, (show (2147483647 : Int) ≠ 0 by decide), _, rfl, b, _, 1, 1, rfl, rfl, upd_same, rfl, ?_⟩⟩
        have hm := fmod_pos (a := m * 48271 + c.fmod 2147483647 + 7919 * ((k + 1 : Nat) : Int)) (n := 2147483647) (by decide)
        have B4 := B3.put (k' := k + 1) h0 hm.1 hm.2
        rw [upd_upd] at B4
        refine ⟨_, _, c * (if decide ((10 : Int) ^ (18 : Int).toNat ≤ c) = true then 1 else 0), (m * 48271 + c.fmod 2147483647 + 7919 * ((k + 1 : Nat) : Int)).fmod 2147483647, k + 1, rfl, ?_, ?_⟩
        · rw [upd_upd, upd_upd]
          exact B4
        · rw [upd_upd, upd_upd]
          exact (Keep.of s1).trans keep_upd
      · exact ⟨_, _, z, m, k, rfl, B, .refl⟩
    · rintro σ' H' ⟨c, m3, z', m', k', rfl, B', kp⟩
      refine ⟨_, rfl, b, _, 0, _, rfl, rfl, SqL.of B'.ob, atI_nat (j := 0) rfl, _, _, rfl, rfl, _, rfl, ite2 (fun e => ?_) (fun e => ?_)⟩
      · have hz : 0 < z' := of_decide_eq_true e
        refine ⟨_, rfl, b, _, 0, _, rfl, rfl, SqL.of B'.ob, atI_nat (j := 0) rfl, .inl ⟨_, rfl, _, rfl, _, _, rfl, rfl, Int.ne_of_gt hn0, _, rfl, b, _, 0, _, rfl, rfl, SqL.of B'.ob, atI_nat (j := 0) rfl, .inl ⟨_, rfl, _, rfl, _, _, rfl, rfl, wide_div hn0 hn9 (by decide) (by decide), by show 2 ≤ sizeLine; decide, fun t ht => ?_⟩⟩⟩
        have B1 := B'.same (Same.new (o := HO.tup [V.int (z'.fmod n), V.int (z' / n)]) ht)
        refine ⟨t, _, rfl, SqT.of upd_same, rfl, _, _, rfl, _, _, rfl, _, rfl, b, _, 0, 0, rfl, rfl, B1.ob, rfl, rfl, _, rfl, ?_⟩
        have hm := fmod_pos (a := z') hn0
        have hq : 0 ≤ z' / n := Int.ediv_nonneg (Int.le_of_lt hz) (Int.le_of_lt hn0)
        exact go _ _ hm.1 hm.2 ⟨_, _, _, _, _, B1.put (k' := k') hq B1.m0 B1.m1⟩ ((kp.new ht).trans keep_upd)
      · refine ⟨_, rfl, b, _, 1, _, rfl, rfl, SqL.of B'.ob, atI_nat (j := 1) rfl, _, _, rfl, rfl, _, _, rfl, rfl, .inr ⟨by decide, by decide⟩, .inl ⟨_, rfl, _, _, rfl, rfl, (show (1000000007 : Int) ≠ 0 by decide), ?_⟩⟩
        have h1 := fmod_pos (a := (m' + 1) * 39373) (n := 1000000007) (by decide)
        refine ⟨_, rfl, _, rfl, _, _, rfl, rfl, .inl ⟨Int.lt_of_lt_of_le (by decide) h1.1, Int.lt_of_lt_of_le h1.2 (by decide)⟩, .inl ⟨_, rfl, _, _, rfl, rfl, (show (998244353 : Int) ≠ 0 by decide), _, _, rfl, rfl, .inr ⟨by decide, by decide⟩, .inl ⟨_, rfl, _, _, rfl, rfl, (show (998244353 : Int) ≠ 0 by decide), ?_⟩⟩⟩
        refine ⟨_, rfl, _, _, rfl, rfl, wide_div (b := 3) (by decide) (by decide) (by decide) (by decide), .inl ⟨_, rfl, _, rfl, _, _, rfl, rfl, Int.ne_of_gt hn0, ?_⟩⟩
        have hm := fmod_pos (a := ((((m' + 1) * 39373).fmod 1000000007 * ((m' + 1) * 39373).fmod 1000000007).fmod 998244353 * 30011).fmod 998244353 / 7) hn0
        exact go _ _ hm.1 hm.2 ⟨_, _, _, _, _, B'⟩ kp
theorem ok_bag {f : Addr} {fd : FuncData} (F : Fun K "_law_bag" "_law_bag" sLBag f fd) (T : Txt mg) :
    FnOk P w K mg base CX0 1 f fd ["_law_script"] (spBag K) := by
  refine F.ok scLBag (fun vs H Q E h => ?_) (fun cdv A outer s H vs Q E hr h => ?_)
  · obtain ⟨a, ns, rfl, _⟩ := h
    rfl
  · obtain ⟨a, ns, rfl, hS, hl, go⟩ := h
    refine ⟨_, (pss_one (ps_ret (pe_lst (pa_cons pe_int (pa_cons pe_int (pa_cons pe_int (pa_cons (pe_lc rfl scLBag.nd (pi_list (pe_slice sl_list (pv 0) po_none (po_some pe_int))) (blkOk_by (N := scLBagN) (sc := defScope sLBag) (own := [("_law_cell", 1)]) (by decide +kernel)) (fun _ _ _ _ _ => pg_name (i := 1) scLBag.nd rfl (.inl rfl)) (fun _ _ _ _ _ => pts_nil) (fun _ _ _ _ _ => (pe_callB call_abs (by rfl) T.abs (by decide +kernel) (pa_cons (pv 1) pa_nil)))) pa_nil))))))), ?_⟩
    refine ⟨_, rfl, _, rfl, a, _, rfl, hS, fun p hp => ⟨p, rfl, ⟨_, SqL.of upd_same⟩, fun D hD => ?_⟩⟩
    have cut_map : ∃ cs : List Int, cutV (ns.map V.int) none (some 63) = cs.map V.int ∧ cs.length ≤ 63 := by
      refine ⟨(ns.drop (HT.sIx (ns.map V.int).length 0 none)).take (HT.sIx (ns.map V.int).length (ns.map V.int).length (some 63) - HT.sIx (ns.map V.int).length 0 none), ?_, ?_⟩
      · unfold cutV
        rw [List.map_take, List.map_drop]
      · rw [List.length_take, List.length_drop]
        omega
    obtain ⟨cs, ec, hcl⟩ := cut_map
    have hpD : p ≠ D := ne_of_none upd_same hD
    refine lc_list (K := K) (a := p) (xs := cutV (ns.map V.int) none (some 63)) (fun i H' => ∃ acc : List Int, H' D = some (.lst (acc.map V.int)) ∧ acc.length = i ∧ (∀ c ∈ acc, 0 ≤ c) ∧ (∀ a o, H a = some o → H' a = some o) ∧ H' p = some (.lst (cutV (ns.map V.int) none (some 63))))
      ⟨[], upd_same, rfl, fun c hc => absurd hc (by simp), fun a o e => by rw [upd_ne (ne_of_none (Same.new hp a o e) hD)]; exact Same.new hp a o e, by rw [upd_ne hpD]; exact upd_same⟩
      (fun i H' _ ⟨_, _, _, _, _, h5⟩ => SqL.of h5) ?_ ?_
    · rintro i x H' hi ⟨acc, h1, h2, h3, h4, h5⟩
      have hil : i < cs.length := by
        have := (List.getElem?_eq_some_iff.mp hi).1
        rw [ec, List.length_map] at this
        exact this
      obtain ⟨c, rfl⟩ : ∃ c, x = V.int c := by
        rw [ec, List.getElem?_map] at hi
        obtain ⟨c, _, hc⟩ := Option.map_eq_some_iff.mp hi
        exact ⟨c, hc.symm⟩
      refine ⟨rfl, _, rfl, _, rfl, acc.map V.int, h1, ?_, acc ++ [if c < 0 then -c else c], ?_, ?_, ?_, ?_, ?_⟩
      · rw [List.length_map, sizeLine_eq]
        omega
      · rw [List.map_append]
        exact upd_same
      · rw [List.length_append, h2]
        rfl
      · intro e he
        rcases List.mem_append.mp he with h | h
        · exact h3 e h
        · have : e = (if c < 0 then -c else c) := by simpa using h
          subst this
          split <;> omega
      · intro a o e
        rw [upd_ne (ne_of_none (Same.new hp a o e) hD)]
        exact h4 a o e
      · rw [upd_ne hpD]
        exact h5
    · rintro H' ⟨acc, h1, h2, h3, h4, h5⟩
      refine ⟨by show 4 ≤ sizeLine; decide, fun b hb => ?_⟩
      have hDb : D ≠ b := ne_of_none h1 hb
      have hHb : H b = none := by
        match e : H b with
        | none => rfl
        | some o =>
          rw [h4 b o e] at hb
          cases hb
      refine go b _ hHb ⟨D, 0, 1234567891, 0, acc, upd_same, by rw [upd_ne hDb]; exact h1, Int.le_refl 0, by decide, by decide, h3, ?_⟩ fun a o e => ?_
      · rw [h2, ec, List.length_map]
        exact hcl
      · rw [upd_ne (ne_of_none e hHb)]
        exact h4 a o e
theorem ok_one {f : Addr} {fd : FuncData} (F : Fun K "_law_one" "_law_one" sLOne f fd) (T : Txt mg) (DLTake : Df K mg "_law_take" sLTake ["_law_bag_here", "_law_many"]) :
    FnOk P w K mg base CX0 2 f fd ["_law_bag_here", "_law_some"] spOne := by
  have GLTake : FnOk P w K mg base CX0 1 DLTake.f DLTake.fd ["_law_bag_here", "_law_many"] spTake := ok_take DLTake.F T
  refine F.ok scLOne (fun vs H Q E h => ?_) (fun cdv A outer s H vs Q E hr h => ?_)
  · obtain ⟨b, l, xs, rfl, _⟩ := h
    rfl
  · obtain ⟨b, l, xs, rfl, B, hl, nlb, h0, h1, go⟩ := h
    refine ⟨_, (pss_one (ps_ret (pe_ix ix_list (pv 1) (pe_call GLTake (hr.mono (by decide)) rfl DLTake.mg DLTake.kp DLTake.b .nil pass0 (pa_cons (pv 0) (pa_cons (pe_callB call_len (by rfl) T.len PySem.boot_len (pa_cons (pv 1) pa_nil)) pa_nil))) (fun _ _ => rfl)))), ?_⟩
    refine ⟨_, rfl, _, rfl, _, rfl, _, _, rfl, .inl ⟨_, SqL.of hl, rfl⟩, b, (xs.length : Int), rfl, B, by omega, ?_, fun r H' r0 r1 B' kp => ?_⟩
    · show ((xs.length : Int)).natAbs < 2 ^ 9000
      rw [Int.natAbs_natCast]
      exact Nat.lt_of_le_of_lt h1 (Nat.lt_of_lt_of_le (by decide : 100000 < 2 ^ 20) (Nat.pow_le_pow_right (by decide) (by decide)))
    · obtain ⟨j, rfl⟩ : ∃ j : Nat, r = (j : Int) := ⟨r.toNat, by omega⟩
      have hj : j < xs.length := by omega
      exact ⟨l, xs, _, _, rfl, rfl, SqL.of (kp l _ hl nlb), atI_nat (List.getElem?_eq_getElem hj), go _ _ (List.getElem_mem hj) B' kp⟩
theorem ok_alike {f : Addr} {fd : FuncData} (F : Fun K "_law_alike" "_law_alike" sLAlike f fd) (T : Txt mg) :
    FnG P w K mg base 1 f fd ["_law_found", "_law_due"] (spAlike K) := by
  refine okG F scLAlike (fun vs H Q E h => ?_) (fun cdv A outer s H vs Q E hr hg h => ?_)
  · obtain ⟨x, y, d, rfl, _⟩ := h
    rfl
  · obtain ⟨x, y, d, rfl, hx, hy, hf, go⟩ := h
    refine ⟨_, (pss_one (ps_ret (pe_and (pe_cmpR (op_eqD hr.units) (pv 0) (pv 1) (nomark _)) (pe_one (pe_cmpR op_eq (pe_callB (My.call_repr hg hr.units) (by rfl) T.repr (by decide +kernel) (pa_cons (pv 0) pa_nil)) (pe_callB (My.call_repr hg hr.units) (by rfl) T.repr (by decide +kernel) (pa_cons (pv 1) pa_nil)) (nomark _)))))), ?_⟩
    have sd := shaped_of hf (by decide)
    refine ⟨_, rfl, _, rfl, d, d, hx, hy, sd, sd, _, rfl, ?_⟩
    rw [SeqAt.eqv_refl d hf.lay]
    refine iteT ⟨_, rfl, _, d, rfl, hx, hf, _, rfl, _, d, rfl, hy, hf, rfl, ?_⟩
    rw [decide_eq_true rfl]
    exact go
end
end My

/-! Masks. -/
namespace My
open PySem L2 PySem.Spec PyProof.Rows
abbrev sAllOf : Stmt := top 1
abbrev scAllOfN : List Str := ["hands"]
theorem scAllOf : FnScope ["hands"] ["hands"] (defScope sAllOf) :=
  ⟨rfl, rfl, rfl, by decide +kernel, rfl, by decide +kernel, by decide +kernel⟩
abbrev sHolds : Stmt := top 2
abbrev scHoldsN : List Str := ["mask", "hand"]
theorem scHolds : FnScope ["mask", "hand"] ["mask", "hand"] (defScope sHolds) :=
  ⟨rfl, rfl, rfl, by decide +kernel, rfl, by decide +kernel, by decide +kernel⟩
abbrev sWithOne : Stmt := top 3
abbrev scWithOneN : List Str := ["mask", "hand"]
theorem scWithOne : FnScope ["mask", "hand"] ["mask", "hand"] (defScope sWithOne) :=
  ⟨rfl, rfl, rfl, by decide +kernel, rfl, by decide +kernel, by decide +kernel⟩
abbrev sWithout : Stmt := top 4
abbrev scWithoutN : List Str := ["mask", "hand"]
theorem scWithout : FnScope ["mask", "hand"] ["mask", "hand"] (defScope sWithout) :=
  ⟨rfl, rfl, rfl, by decide +kernel, rfl, by decide +kernel, by decide +kernel⟩
abbrev sMembers : Stmt := top 6
abbrev scMembersN : List Str := ["mask", "hand"]
theorem scMembers : FnScope ["mask", "hand"] ["mask"] (defScope sMembers) :=
  ⟨rfl, rfl, rfl, by decide +kernel, rfl, by decide +kernel, by decide +kernel⟩
abbrev sSize : Stmt := top 5
abbrev scSizeN : List Str := ["mask"]
theorem scSize : FnScope ["mask"] ["mask"] (defScope sSize) :=
  ⟨rfl, rfl, rfl, by decide +kernel, rfl, by decide +kernel, by decide +kernel⟩
/-! ### bits of numbers -/
theorem and_bit (m h : Nat) : Builtin.bitAnd (m : Int) ((2 ^ h : Nat) : Int) = (((m.testBit h).toNat * 2 ^ h : Nat) : Int) := by
  rw [bitAnd_pp (Int.natCast_nonneg _) (Int.natCast_nonneg _), Int.toNat_natCast, Int.toNat_natCast]
  congr 1
  refine Nat.eq_of_testBit_eq fun i => ?_
  rw [Nat.testBit_and, Nat.testBit_two_pow]
  by_cases e : h = i
  · subst e
    cases m.testBit h <;> simp
  · rw [decide_eq_false e, Bool.and_false]
    cases m.testBit h <;> simp [Nat.testBit_two_pow, e]
theorem pow_cast (h : Nat) : (1 : Int) * 2 ^ (h : Int).toNat = ((2 ^ h : Nat) : Int) := by
  rw [Int.toNat_natCast, Int.one_mul, Int.natCast_pow]
  rfl
theorem or_bit (m h : Nat) : Builtin.bitOr (m : Int) ((2 ^ h : Nat) : Int) = ((m + (!m.testBit h).toNat * 2 ^ h : Nat) : Int) := by
  rw [bitOr_and, and_bit]
  cases m.testBit h <;> simp <;> omega
theorem not_bit (m h : Nat) : Builtin.bitAnd (m : Int) (Builtin.bitNot ((2 ^ h : Nat) : Int)) = (m : Int) - (((m.testBit h).toNat * 2 ^ h : Nat) : Int) := by
  rw [bitAnd_not, and_bit]
theorem at_bit (m h : Nat) : decide (V.int (Builtin.bitAnd ((m : Int) / 2 ^ (h : Int).toNat) 1) = V.int 1) = m.testBit h := by
  have e : (m : Int) / 2 ^ (h : Int).toNat = ((m / 2 ^ h : Nat) : Int) := by
    rw [Int.toNat_natCast]
    simp
  rw [e, bitAnd_pp (Int.natCast_nonneg _) (by decide), Int.toNat_natCast, dec_int]
  show (((m / 2 ^ h &&& 1 : Nat) : Int) == 1) = _
  rw [Nat.and_one_is_mod, Nat.testBit_eq_decide_div_mod_eq]
  rcases Nat.mod_two_eq_zero_or_one (m / 2 ^ h) with e | e <;> rw [e] <;> rfl
/-- the hands of a mask below 2 ^ 12 -/
def mem (m : Nat) : List Nat := (List.range 12).filter fun h => m.testBit h
def hnds (xs : List Nat) : List V := xs.map fun h : Nat => V.int (h : Int)
def pnds (xs : List Nat) : List PyData := xs.map fun h : Nat => PyData.int (h : Int)
theorem dp_hnds {K : PySem.W.Frag} {H : Hp} : ∀ xs : List Nat, DpAll K H (hnds xs) (pnds xs)
  | [] => .nil
  | x :: xs => .cons (.int _) (dp_hnds xs)
theorem mem_lt {m h : Nat} (hh : h ∈ mem m) : h < 12 := by
  unfold mem at hh
  exact List.mem_range.mp (List.mem_filter.mp hh).1
theorem mem_len (m : Nat) : (mem m).length ≤ 12 := by
  unfold mem
  exact Nat.le_trans (List.length_filter_le _ _) (by rw [List.length_range]; exact Nat.le_refl _)
theorem fine_nat {n : Nat} (h : n < 2 ^ 64) : Fine 0 1921 (.int (n : Int)) :=
  Fine.int (by
    rw [Int.natAbs_natCast]
    by_cases h0 : n = 0
    · subst h0
      decide
    · exact Nat.lt_of_lt_of_le ((Nat.log2_lt h0).mpr h) (by decide))
theorem fine_hnds {xs : List Nat} (h : ∀ x ∈ xs, x < 2 ^ 64) (hl : xs.length ≤ 400) : Fine 60 1000000 (.list (pnds xs)) := by
  have a : FineL 0 ((pnds xs).length * (1921 + 2)) (pnds xs) := FineL.all fun d hd => by
    obtain ⟨x, hx, rfl⟩ := List.mem_map.mp hd
    exact fine_nat (h x hx)
  refine (Fine.list a).up (by decide) ?_
  have : (pnds xs).length = xs.length := List.length_map ..
  rw [this]
  omega
theorem fine_mem (m : Nat) : Fine 60 1000000 (.list (pnds (mem m))) :=
  fine_hnds (fun x hx => Nat.lt_of_lt_of_le (mem_lt hx) (by decide)) (Nat.le_trans (mem_len m) (by decide))
theorem bits_le {m : Nat} (h : m < 4096) : Builtin.Int.intBits (m : Int) ≤ 12 := by
  unfold Builtin.Int.intBits
  split
  · decide
  · rename_i h0
    have h1 : m ≠ 0 := by
      intro e
      subst e
      exact h0 rfl
    rw [Int.natAbs_natCast]
    have := (Nat.log2_lt (n := m) (k := 12) h1).mpr (by omega)
    omega
theorem bits_high {m h : Nat} (hh : Builtin.Int.intBits (m : Int) ≤ h) : m.testBit h = false := by
  unfold Builtin.Int.intBits at hh
  split at hh
  · rename_i h0
    have : m = 0 := by simpa using h0
    subst this
    exact Nat.zero_testBit h
  · rename_i h0
    have h1 : m ≠ 0 := by
      intro e
      subst e
      exact h0 rfl
    rw [Int.natAbs_natCast] at hh
    exact Nat.testBit_lt_two_pow ((Nat.log2_lt h1).mp (by omega))
theorem filter_more {p : Nat → Bool} {a : Nat} (hp : ∀ x, a ≤ x → p x = false) : ∀ k : Nat, (List.range (a + k)).filter p = (List.range a).filter p
  | 0 => rfl
  | k + 1 => by
    rw [← Nat.add_assoc, List.range_succ, List.filter_append, filter_more hp k]
    have : p (a + k) = false := hp _ (Nat.le_add_right _ _)
    simp [this]
theorem mem_bits {m : Nat} (h : m < 4096) : (List.range (Builtin.Int.intBits (m : Int))).filter (fun h => m.testBit h) = mem m := by
  have e := filter_more (p := fun h => m.testBit h) (a := Builtin.Int.intBits (m : Int)) (fun x hx => bits_high hx) (12 - Builtin.Int.intBits (m : Int))
  have := bits_le h
  rw [show Builtin.Int.intBits (m : Int) + (12 - Builtin.Int.intBits (m : Int)) = 12 by omega] at e
  exact e.symm
/-! ### promises -/
def spAllOf : Sp := fun vs H Q _ => ∃ n : Nat, vs = [.int (n : Int)] ∧ n ≤ 12 ∧ Q (.int ((2 ^ n - 1 : Nat) : Int)) H
def spHolds : Sp := fun vs H Q _ => ∃ m h : Nat, vs = [.int (m : Int), .int (h : Int)] ∧ Q (.bl (m.testBit h)) H
def spWith : Sp := fun vs H Q _ => ∃ m h : Nat, vs = [.int (m : Int), .int (h : Int)] ∧ h ≤ 1000 ∧ Q (.int ((m + (!m.testBit h).toNat * 2 ^ h : Nat) : Int)) H
def spWithout : Sp := fun vs H Q _ => ∃ m h : Nat, vs = [.int (m : Int), .int (h : Int)] ∧ h ≤ 1000 ∧ Q (.int ((m : Int) - (((m.testBit h).toNat * 2 ^ h : Nat) : Int))) H
def spMembers : Sp := fun vs H Q _ => ∃ m : Nat, vs = [.int (m : Int)] ∧ m < 4096 ∧ ∀ p H', H p = none → H' p = some (.lst (hnds (mem m))) → Same H H' → Q (.ref p) H'
def spSize : Sp := fun vs H Q _ => ∃ m : Nat, vs = [.int (m : Int)] ∧ m < 4096 ∧ ∀ H', Same H H' → Q (.int ((mem m).length : Int)) H'
section
variable {P : Program} {w : World} {K : PySem.W.Frag} {mg : Str → Option Value} {base : Heap}
theorem ok_all_of {f : Addr} {fd : FuncData} (F : Fun K "all_of" "all_of" sAllOf f fd) : FnOk P w K mg base CX0 1 f fd ["hands"] spAllOf := by
  refine F.ok scAllOf (fun vs H Q E h => ?_) (fun cdv A outer s H vs Q E hr h => ?_)
  · obtain ⟨n, rfl, _⟩ := h
    rfl
  · obtain ⟨n, rfl, hn, go⟩ := h
    refine ⟨_, (pss_one (ps_ret (pe_op op_sub (pe_op op_shl pe_int (pv 0)) pe_int))), ?_⟩
    refine ⟨_, rfl, _, _, rfl, rfl, ⟨Int.natCast_nonneg _, by omega, by decide⟩, _, _, rfl, rfl, ?_⟩
    have e : (1 : Int) * 2 ^ (n : Int).toNat - 1 = ((2 ^ n - 1 : Nat) : Int) := by
      rw [pow_cast]
      have : 0 < 2 ^ n := Nat.pow_pos (by decide)
      omega
    show Q (.int ((1 : Int) * 2 ^ (n : Int).toNat - 1)) H
    rw [e]
    exact go
theorem ok_holds {f : Addr} {fd : FuncData} (F : Fun K "holds" "holds" sHolds f fd) : FnOk P w K mg base CX0 1 f fd ["mask", "hand"] spHolds := by
  refine F.ok scHolds (fun vs H Q E h => ?_) (fun cdv A outer s H vs Q E hr h => ?_)
  · obtain ⟨m, h, rfl, _⟩ := h
    rfl
  · obtain ⟨m, h, rfl, go⟩ := h
    refine ⟨_, (pss_one (ps_ret (pe_cmpR My.op_eqC (pe_op op_and (pe_op op_shr (pv 0) (pv 1)) pe_int) pe_int (nomark _)))), ?_⟩
    exact ⟨_, rfl, _, rfl, _, _, rfl, rfl, Int.natCast_nonneg _, _, _, rfl, rfl, _, rfl, at_bit m h, go⟩
theorem ok_with {f : Addr} {fd : FuncData} (F : Fun K "with_one" "with_one" sWithOne f fd) : FnOk P w K mg base CX0 1 f fd ["mask", "hand"] spWith := by
  refine F.ok scWithOne (fun vs H Q E h => ?_) (fun cdv A outer s H vs Q E hr h => ?_)
  · obtain ⟨m, h, rfl, _⟩ := h
    rfl
  · obtain ⟨m, h, rfl, hh, go⟩ := h
    refine ⟨_, (pss_one (ps_ret (pe_op op_or (pv 0) (pe_op op_shl pe_int (pv 1))))), ?_⟩
    refine ⟨_, rfl, _, rfl, _, _, rfl, rfl, ⟨Int.natCast_nonneg _, by omega, by decide⟩, _, _, rfl, rfl, ?_⟩
    show Q (.int (Builtin.bitOr (m : Int) ((1 : Int) * 2 ^ (h : Int).toNat))) H
    rw [pow_cast, or_bit]
    exact go
theorem ok_without {f : Addr} {fd : FuncData} (F : Fun K "without" "without" sWithout f fd) : FnOk P w K mg base CX0 1 f fd ["mask", "hand"] spWithout := by
  refine F.ok scWithout (fun vs H Q E h => ?_) (fun cdv A outer s H vs Q E hr h => ?_)
  · obtain ⟨m, h, rfl, _⟩ := h
    rfl
  · obtain ⟨m, h, rfl, hh, go⟩ := h
    refine ⟨_, (pss_one (ps_ret (pe_op op_and (pv 0) (pe_un un_inv (pe_op op_shl pe_int (pv 1)))))), ?_⟩
    refine ⟨_, rfl, _, rfl, _, _, rfl, rfl, ⟨Int.natCast_nonneg _, by omega, by decide⟩, _, rfl, _, _, rfl, rfl, ?_⟩
    show Q (.int (Builtin.bitAnd (m : Int) (Builtin.bitNot ((1 : Int) * 2 ^ (h : Int).toNat)))) H
    rw [pow_cast, not_bit]
    exact go
theorem ok_members {f : Addr} {fd : FuncData} (F : Fun K "members" "members" sMembers f fd) (T : Txt mg) (DHolds : Df K mg "holds" sHolds ["mask", "hand"]) : FnOk P w K mg base CX0 2 f fd ["mask"] spMembers := by
  have GHolds : FnOk P w K mg base CX0 1 DHolds.f DHolds.fd ["mask", "hand"] spHolds := ok_holds DHolds.F
  refine F.ok scMembers (fun vs H Q E h => ?_) (fun cdv A outer s H vs Q E hr h => ?_)
  · obtain ⟨m, rfl, _⟩ := h
    rfl
  · obtain ⟨m, rfl, hm, go⟩ := h
    refine ⟨_, (pss_one (ps_ret (pe_lc rfl scMembers.nd (pi_range1 (by rfl) T.range (pa_cons (pe_bits (pv 0)) pa_nil)) (blkOk_by (N := scMembersN) (sc := defScope sMembers) (own := [("hand", 1)]) (by decide +kernel)) (fun _ _ _ _ _ => pg_name (i := 1) scMembers.nd rfl (.inl rfl)) (fun _ _ _ _ _ => (pts_one (pt_val (pe_call GHolds (hr.mono (by decide)) rfl DHolds.mg DHolds.kp DHolds.b .nil pass0 (pa_cons (pv 0) (pa_cons (pv 1) pa_nil)))))) (fun _ _ _ _ _ => (pv 1))))), ?_⟩
    have hb := bits_le hm
    refine ⟨_, rfl, _, rfl, _, rfl, by omega, by omega, fun D hD => ?_⟩
    refine lc_range (lo := 0) (fun i H' => H' D = some (.lst (hnds ((List.range i).filter fun h => m.testBit h))) ∧ Same H H') ⟨upd_same, Same.new hD⟩ ?_ ?_
    · rintro i H' hi ⟨h1, h2⟩
      refine ⟨rfl, _, rfl, _, rfl, m, i, by rw [Int.zero_add] <;> rfl, _, rfl, ite2 (fun e => ?_) (fun e => ?_)⟩
      · refine ⟨_, rfl, _, h1, ?_, ?_, fun a o ha => ?_⟩
        · unfold hnds
          rw [List.length_map]
          have := List.length_filter_le (fun h => m.testBit h) (List.range i)
          rw [List.length_range] at this
          rw [sizeLine_eq]
          have : i < Builtin.Int.intBits (m : Int) := by
            have e1 : ((Builtin.Int.intBits (m : Int) : Nat) : Int).toNat = Builtin.Int.intBits (m : Int) := Int.toNat_natCast _
            omega
          omega
        · rw [List.range_succ, List.filter_append, upd_same]
          have e1 : List.filter (fun h => m.testBit h) [i] = [i] := by simp [e]
          rw [e1]
          unfold hnds
          rw [List.map_append, Int.zero_add]
          rfl
        · rw [upd_ne (ne_of_none ha hD)]
          exact h2 a o ha
      · refine ⟨?_, h2⟩
        rw [List.range_succ, List.filter_append]
        have e1 : List.filter (fun h => m.testBit h) [i] = [] := by simp [e]
        rw [e1, List.append_nil]
        exact h1
    · rintro H' ⟨h1, h2⟩
      have e1 : ((Builtin.Int.intBits (m : Int) : Nat) : Int).toNat = Builtin.Int.intBits (m : Int) := Int.toNat_natCast _
      rw [e1, mem_bits hm] at h1
      exact go D H' hD h1 h2
theorem ok_size {f : Addr} {fd : FuncData} (F : Fun K "size" "size" sSize f fd) (T : Txt mg) (DHolds : Df K mg "holds" sHolds ["mask", "hand"]) (DMembers : Df K mg "members" sMembers ["mask"]) : FnOk P w K mg base CX0 3 f fd ["mask"] spSize := by
  have GMembers : FnOk P w K mg base CX0 2 DMembers.f DMembers.fd ["mask"] spMembers := ok_members DMembers.F T DHolds
  refine F.ok scSize (fun vs H Q E h => ?_) (fun cdv A outer s H vs Q E hr h => ?_)
  · obtain ⟨m, rfl, _⟩ := h
    rfl
  · obtain ⟨m, rfl, hm, go⟩ := h
    refine ⟨_, (pss_one (ps_ret (pe_callB call_len (by rfl) T.len PySem.boot_len (pa_cons (pe_call GMembers (hr.mono (by decide)) rfl DMembers.mg DMembers.kp DMembers.b .nil pass0 (pa_cons (pv 0) pa_nil)) pa_nil)))), ?_⟩
    refine ⟨_, rfl, m, rfl, hm, fun p H' hp h1 h2 => ⟨_, _, rfl, .inl ⟨_, SqL.of h1, rfl⟩, ?_⟩⟩
    unfold hnds
    rw [List.length_map]
    exact go H' h2
end
end My

/-! The law. -/
namespace My
open PySem L2 PySem.Spec PyProof.Rows
abbrev sLBit : Stmt := top 12
abbrev scLBitN : List Str := ["_law_hand"]
theorem scLBit : FnScope ["_law_hand"] ["_law_hand"] (defScope sLBit) :=
  ⟨rfl, rfl, rfl, by decide +kernel, rfl, by decide +kernel, by decide +kernel⟩
abbrev sLIn : Stmt := top 13
abbrev scLInN : List Str := ["_law_mask", "_law_hand"]
theorem scLIn : FnScope ["_law_mask", "_law_hand"] ["_law_mask", "_law_hand"] (defScope sLIn) :=
  ⟨rfl, rfl, rfl, by decide +kernel, rfl, by decide +kernel, by decide +kernel⟩
abbrev sLaw : Stmt := top 14
abbrev scLawN : List Str := ["_law_script", "_law_bag_here", "_law_turn", "_law_mask", "_law_inside", "_law_hand", "_law_again", "_law_found", "_law_more", "_law_less", "_law_hands", "_law_due"]
theorem scLaw : FnScope ["_law_script", "_law_bag_here", "_law_turn", "_law_mask", "_law_inside", "_law_hand", "_law_again", "_law_found", "_law_more", "_law_less", "_law_hands", "_law_due"] ["_law_script"] (defScope sLaw) :=
  ⟨rfl, rfl, rfl, by decide +kernel, rfl, by decide +kernel, by decide +kernel⟩
def spBit : Sp := fun vs H Q _ => ∃ h : Nat, vs = [.int (h : Int)] ∧ h < 12 ∧ ∀ H', Same H H' → Q (.int ((2 ^ h : Nat) : Int)) H'
def spIn : Sp := fun vs H Q _ => ∃ m h : Nat, vs = [.int (m : Int), .int (h : Int)] ∧ h < 12 ∧ ∀ H', Same H H' → Q (.bl (m.testBit h)) H'
theorem small64 {n : Int} (h : n.natAbs < 2 ^ 64) : Small n := Nat.lt_of_lt_of_le h (Nat.pow_le_pow_right (by decide) (by decide))
theorem pow_tab : ∀ h : Nat, h < 12 → ([V.int 1, .int 2, .int 4, .int 8, .int 16, .int 32, .int 64, .int 128, .int 256, .int 512, .int 1024, .int 2048] : List V)[h]? = some (.int ((2 ^ h : Nat) : Int)) := by decide
theorem in_bit (m h : Nat) : decide (V.int (((m : Int) / ((2 ^ h : Nat) : Int)).fmod 2) = V.int 1) = m.testBit h := by
  rw [← Int.natCast_ediv, dec_int, Int.fmod_eq_emod_of_nonneg _ (by decide), Nat.testBit_eq_decide_div_mod_eq]
  have : (((m / 2 ^ h : Nat) : Int) % 2) = ((m / 2 ^ h % 2 : Nat) : Int) := by omega
  rw [this]
  rcases Nat.mod_two_eq_zero_or_one (m / 2 ^ h) with e | e <;> rw [e] <;> rfl
theorem inV_mem {m h : Nat} (hh : h < 12) : inV (.int (h : Int)) (hnds (mem m)) = m.testBit h := by
  unfold inV hnds
  rw [List.any_map]
  cases e : m.testBit h with
  | true =>
    rw [List.any_eq_true]
    refine ⟨h, ?_, ?_⟩
    · unfold mem
      exact List.mem_filter.mpr ⟨List.mem_range.mpr hh, e⟩
    · show eqV (.int (h : Int)) (.int (h : Int)) = true
      simp [eqV]
  | false =>
    rw [List.any_eq_false]
    intro x hx
    have hx' := (List.mem_filter.mp hx).2
    intro z
    have : (x : Int) = (h : Int) := by simpa [eqV] using z
    have : x = h := by omega
    subst this
    rw [e] at hx'
    cases hx'
theorem flat_hnds (xs : List Nat) : (hnds xs).all flatV = true := by
  unfold hnds
  rw [List.all_map]
  exact List.all_eq_true.mpr fun _ _ => rfl
theorem hnds_len (xs : List Nat) : (hnds xs).length = xs.length := List.length_map ..
theorem one_in (k : Bool) : -(2 ^ 64) < (if k = true then (1 : Int) else 0) ∧ (if k = true then (1 : Int) else 0) < 2 ^ 64 := by cases k <;> decide
theorem bit_less {m j : Nat} (h : m.testBit j = true) : 2 ^ j ≤ m ∧ (m - 2 ^ j).testBit j = false := by
  have h1 : 2 ^ j ≤ m := Nat.ge_two_pow_of_testBit h
  refine ⟨h1, ?_⟩
  have h2 := Nat.testBit_two_pow_add_eq (m - 2 ^ j) j
  rw [Nat.add_sub_cancel' h1, h] at h2
  cases e : (m - 2 ^ j).testBit j with
  | false => rfl
  | true =>
    rw [e] at h2
    cases h2
theorem with_without (m j : Nat) : ∃ L : Nat,
    (m : Int) + ((2 ^ j : Nat) : Int) * (if (if true = true then !m.testBit j else m.testBit j) = true then 1 else 0) = ((L + 2 ^ j : Nat) : Int) ∧
    (m : Int) - ((2 ^ j : Nat) : Int) * (if (if false = true then !m.testBit j else m.testBit j) = true then 1 else 0) = ((L : Nat) : Int) ∧
    ((m + (!m.testBit j).toNat * 2 ^ j : Nat) : Int) = ((L + 2 ^ j : Nat) : Int) ∧
    (m : Int) - (((m.testBit j).toNat * 2 ^ j : Nat) : Int) = ((L : Nat) : Int) ∧
    ((L + (!L.testBit j).toNat * 2 ^ j : Nat) : Int) = ((L + 2 ^ j : Nat) : Int) ∧
    ((L + 2 ^ j : Nat) : Int) - ((((L + 2 ^ j).testBit j).toNat * 2 ^ j : Nat) : Int) = ((L : Nat) : Int) := by
  have up : ∀ L : Nat, L.testBit j = false → (L + 2 ^ j).testBit j = true := fun L h => by
    rw [Nat.add_comm, Nat.testBit_two_pow_add_eq, h]
    rfl
  cases e : m.testBit j with
  | true =>
    obtain ⟨h1, h2⟩ := bit_less e
    refine ⟨m - 2 ^ j, ?_, ?_, ?_, ?_, ?_, ?_⟩
    · generalize 2 ^ j = g at h1 ⊢; simp; omega
    · generalize 2 ^ j = g at h1 ⊢; simp; omega
    · generalize 2 ^ j = g at h1 ⊢; simp; omega
    · generalize 2 ^ j = g at h1 ⊢; simp; omega
    · rw [h2]; simp
    · rw [up _ h2]; generalize 2 ^ j = g; simp
  | false =>
    refine ⟨m, ?_, ?_, ?_, ?_, ?_, ?_⟩
    · simp
    · simp
    · simp
    · simp
    · rw [e]; simp
    · rw [up _ e]; generalize 2 ^ j = g; simp
theorem pow_sum : ∀ n : Nat, ((List.range n).map fun h => ((2 ^ h : Nat) : Int)).sum = ((2 ^ n - 1 : Nat) : Int)
  | 0 => rfl
  | n + 1 => by
    have : 0 < 2 ^ n := Nat.pow_pos (by decide)
    rw [List.range_succ, List.map_append, List.sum_append, pow_sum n, Nat.pow_succ, List.map_cons, List.map_nil, List.sum_cons, List.sum_nil]
    generalize 2 ^ n = g at this ⊢
    omega
theorem mem_all : ∀ n : Nat, n ≤ 12 → mem (2 ^ n - 1) = List.range n := by decide
section
variable {P : Program} {w : World} {K : PySem.W.Frag} {mg : Str → Option Value} {base : Heap}
theorem ok_bit {f : Addr} {fd : FuncData} (F : Fun K "_law_bit" "_law_bit" sLBit f fd) : FnOk P w K mg base CX0 1 f fd ["_law_hand"] spBit := by
  refine F.ok scLBit (fun vs H Q E h => ?_) (fun cdv A outer s H vs Q E hr h => ?_)
  · obtain ⟨n, rfl, _⟩ := h
    rfl
  · obtain ⟨n, rfl, hn, go⟩ := h
    refine ⟨_, (pss_one (ps_ret (pe_ix ix_list (pe_lst (pa_cons pe_int (pa_cons pe_int (pa_cons pe_int (pa_cons pe_int (pa_cons pe_int (pa_cons pe_int (pa_cons pe_int (pa_cons pe_int (pa_cons pe_int (pa_cons pe_int (pa_cons pe_int (pa_cons pe_int pa_nil))))))))))))) (pv 0) (fun _ _ => rfl)))), ?_⟩
    refine ⟨by show 12 ≤ sizeLine; decide, fun l hl => ⟨_, rfl, l, _, _, _, rfl, rfl, SqL.of upd_same, atI_nat (pow_tab n hn), go _ (Same.new hl)⟩⟩
theorem ok_in {f : Addr} {fd : FuncData} (F : Fun K "_law_in" "_law_in" sLIn f fd) (T : Txt mg) (DLBit : Df K mg "_law_bit" sLBit ["_law_hand"]) : FnOk P w K mg base CX0 2 f fd ["_law_mask", "_law_hand"] spIn := by
  have GLBit : FnOk P w K mg base CX0 1 DLBit.f DLBit.fd ["_law_hand"] spBit := ok_bit DLBit.F
  refine F.ok scLIn (fun vs H Q E h => ?_) (fun cdv A outer s H vs Q E hr h => ?_)
  · obtain ⟨m, n, rfl, _⟩ := h
    rfl
  · obtain ⟨m, n, rfl, hn, go⟩ := h
    refine ⟨_, (pss_one (ps_ret (pe_cmpR My.op_eqC (pe_op op_modN (pe_callTy call_int1 (by rfl) T.int (by decide +kernel) (pa_cons (pe_op op_fdivW (pv 0) (pe_call GLBit (hr.mono (by decide)) rfl DLBit.mg DLBit.kp DLBit.b .nil pass0 (pa_cons (pv 1) pa_nil))) pa_nil)) pe_int) pe_int (nomark _)))), ?_⟩
    refine ⟨_, rfl, _, rfl, n, rfl, hn, fun H' s1 => ⟨_, _, rfl, rfl, wide_div (b := 12) (by have : 0 < 2 ^ n := Nat.pow_pos (by decide); omega) (by rw [Int.natAbs_natCast]; exact Nat.pow_lt_pow_right (by decide) hn) (by decide) (by decide), .inl ⟨_, rfl, _, _, rfl, rfl, (show (2 : Int) ≠ 0 by decide), _, rfl, in_bit m n, go H' s1⟩⟩⟩
def spLaw (K : PySem.W.Frag) : Sp := fun vs H Q _ => ∃ (a : Addr) (ns : List Int), vs = [.ref a] ∧ SqL K H a (ns.map V.int) ∧ ns.length ≤ 63 ∧ ∀ H', Q (.bl true) H'
theorem ok_law {f : Addr} {fd : FuncData} (F : Fun K "law" "law" sLaw f fd) (T : Txt mg)
    (DLBag : Df K mg "_law_bag" sLBag ["_law_script"]) (DLTake : Df K mg "_law_take" sLTake ["_law_bag_here", "_law_many"]) (DLOne : Df K mg "_law_one" sLOne ["_law_bag_here", "_law_some"])
    (DLAlike : Df K mg "_law_alike" sLAlike ["_law_found", "_law_due"]) (DLBit : Df K mg "_law_bit" sLBit ["_law_hand"]) (DLIn : Df K mg "_law_in" sLIn ["_law_mask", "_law_hand"])
    (DAllOf : Df K mg "all_of" sAllOf ["hands"]) (DHolds : Df K mg "holds" sHolds ["mask", "hand"]) (DWithOne : Df K mg "with_one" sWithOne ["mask", "hand"])
    (DWithout : Df K mg "without" sWithout ["mask", "hand"]) (DMembers : Df K mg "members" sMembers ["mask"]) (DSize : Df K mg "size" sSize ["mask"]) :
    FnG P w K mg base 6 f fd ["_law_script"] (spLaw K) := by
  have GLBag := ok_bag (P := P) (w := w) (base := base) DLBag.F T
  have GLTake := ok_take (P := P) (w := w) (base := base) DLTake.F T
  have GLOne := ok_one (P := P) (w := w) (base := base) DLOne.F T DLTake
  have GLAlike := ok_alike (P := P) (w := w) (base := base) DLAlike.F T
  have GLBit := ok_bit (P := P) (w := w) (mg := mg) (base := base) DLBit.F
  have GLIn := ok_in (P := P) (w := w) (base := base) DLIn.F T DLBit
  have GAllOf := ok_all_of (P := P) (w := w) (mg := mg) (base := base) DAllOf.F
  have GHolds := ok_holds (P := P) (w := w) (mg := mg) (base := base) DHolds.F
  have GWithOne := ok_with (P := P) (w := w) (mg := mg) (base := base) DWithOne.F
  have GWithout := ok_without (P := P) (w := w) (mg := mg) (base := base) DWithout.F
  have GMembers := ok_members (P := P) (w := w) (base := base) DMembers.F T DHolds
  have GSize := ok_size (P := P) (w := w) (base := base) DSize.F T DHolds DMembers
  refine okG F scLaw (fun vs H Q E h => ?_) (fun cdv A outer s H vs Q E hr hg h => ?_)
  · obtain ⟨a, ns, rfl, _⟩ := h
    rfl
  · obtain ⟨a, ns, rfl, hS, hl, go⟩ := h
    refine ⟨_, (pss_cons (ps_set (i := 1) scLaw.nd rfl (.inl rfl) (pe_call GLBag (hr.mono (by decide)) rfl DLBag.mg DLBag.kp DLBag.b .nil pass0 (pa_cons (pv 0) pa_nil)))
    (pss_cons (ps_for PassesOwn.never rfl (pi_range1 (by rfl) T.range (pa_cons pe_int pa_nil)) (pg_name (i := 2) scLaw.nd rfl (.inl rfl))
      (pss_cons (ps_set (i := 3) scLaw.nd rfl (.inr rfl) (pe_call GLOne (hr.mono (by decide)) rfl DLOne.mg DLOne.kp DLOne.b .nil pass0 (pa_cons (pv 1) (pa_cons (pe_lst (pa_cons (pe_call GLTake (hr.mono (by decide)) rfl DLTake.mg DLTake.kp DLTake.b .nil pass0 (pa_cons (pv 1) (pa_cons pe_int pa_nil))) (pa_cons (pe_call GLTake (hr.mono (by decide)) rfl DLTake.mg DLTake.kp DLTake.b .nil pass0 (pa_cons (pv 1) (pa_cons pe_int pa_nil))) (pa_cons pe_int (pa_cons pe_int pa_nil))))) pa_nil))))
      (pss_cons (ps_setLc (i := 4) rfl scLaw.nd rfl rfl (sw_true rfl rfl rfl (by decide +kernel)) (pi_range1 (by rfl) T.range (pa_cons pe_int pa_nil)) (blkOk_by (N := scLawN) (sc := defScope sLaw) (own := [("_law_hand", 5)]) (by decide +kernel)) (fun _ _ _ _ _ => pg_name (i := 5) scLaw.nd rfl (.inl rfl)) (fun _ _ _ _ _ => (pts_one (pt_val (pe_call GLIn (hr.mono (by decide)) rfl DLIn.mg DLIn.kp DLIn.b .nil pass0 (pa_cons (pv 3) (pa_cons (pv 5) pa_nil)))))) (fun _ _ _ _ _ => (pv 5)))
      (pss_cons (ps_for PassesOwn.never rfl (pi_range1 (by rfl) T.range (pa_cons pe_int pa_nil)) (pg_name (i := 6) scLaw.nd rfl (.inl rfl))
        (pss_cons (ps_set (i := 7) scLaw.nd rfl (.inl rfl) (pe_call GMembers (hr.mono (by decide)) rfl DMembers.mg DMembers.kp DMembers.b .nil pass0 (pa_cons (pv 3) pa_nil)))
        (pss_cons (ps_if (PW.pt (pw_or (pt_not (pt_val (My.pe_callG GLAlike (hr.mono (by decide)) hg rfl DLAlike.mg DLAlike.kp DLAlike.b (pa_cons (pv 7) (pa_cons (pv 4) pa_nil))))) (pw_or1 (pt_not (pt_val (My.pe_callG GLAlike (hr.mono (by decide)) hg rfl DLAlike.mg DLAlike.kp DLAlike.b (pa_cons (pe_call GSize (hr.mono (by decide)) rfl DSize.mg DSize.kp DSize.b .nil pass0 (pa_cons (pv 3) pa_nil)) (pa_cons (pe_callB call_len (by rfl) T.len PySem.boot_len (pa_cons (pv 4) pa_nil)) pa_nil))))))))
          (pss_one (ps_ret pe_bl))
          pss_nil)
        (pss_one (ps_expr (pe_bm PySem.F.plainAttrs_list PySem.F.slot_list_append PySem.F.type_list_append mt_append (pv 7) (pa_cons pe_int pa_nil)))))))
      (pss_cons (ps_for PassesOwn.never rfl (pi_range1 (by rfl) T.range (pa_cons pe_int pa_nil)) (pg_name (i := 5) scLaw.nd rfl (.inl rfl))
        (pss_cons (ps_set (i := 8) scLaw.nd rfl (.inl rfl) (pe_op My.op_addC (pv 3) (pe_op My.op_mulC (pe_call GLBit (hr.mono (by decide)) rfl DLBit.mg DLBit.kp DLBit.b .nil pass0 (pa_cons (pv 5) pa_nil)) (pe_callTy call_int1 (by rfl) T.int (by decide +kernel) (pa_cons (pe_cmpR My.op_niC (pv 5) (pv 4) (by rfl)) pa_nil)))))
        (pss_cons (ps_set (i := 9) scLaw.nd rfl (.inl rfl) (pe_op My.op_subC (pv 3) (pe_op My.op_mulC (pe_call GLBit (hr.mono (by decide)) rfl DLBit.mg DLBit.kp DLBit.b .nil pass0 (pa_cons (pv 5) pa_nil)) (pe_callTy call_int1 (by rfl) T.int (by decide +kernel) (pa_cons (pe_cmpR My.op_inC (pv 5) (pv 4) (by rfl)) pa_nil)))))
        (pss_cons (ps_set (i := 7) scLaw.nd rfl (.inl rfl) (pe_lst (pa_cons (pe_call GHolds (hr.mono (by decide)) rfl DHolds.mg DHolds.kp DHolds.b .nil pass0 (pa_cons (pv 3) (pa_cons (pv 5) pa_nil))) (pa_cons (pe_call GWithOne (hr.mono (by decide)) rfl DWithOne.mg DWithOne.kp DWithOne.b .nil pass0 (pa_cons (pv 3) (pa_cons (pv 5) pa_nil))) (pa_cons (pe_call GWithout (hr.mono (by decide)) rfl DWithout.mg DWithout.kp DWithout.b .nil pass0 (pa_cons (pv 3) (pa_cons (pv 5) pa_nil))) pa_nil)))))
        (pss_cons (ps_if (pt_not (pt_val (My.pe_callG GLAlike (hr.mono (by decide)) hg rfl DLAlike.mg DLAlike.kp DLAlike.b (pa_cons (pv 7) (pa_cons (pe_lst (pa_cons (pe_cmpR My.op_inC (pv 5) (pv 4) (by rfl)) (pa_cons (pv 8) (pa_cons (pv 9) pa_nil)))) pa_nil)))))
          (pss_one (ps_ret pe_bl))
          pss_nil)
        (pss_one (ps_if (PW.pt (pw_or (pt_cmpR My.op_neC (pe_call GWithOne (hr.mono (by decide)) rfl DWithOne.mg DWithOne.kp DWithOne.b .nil pass0 (pa_cons (pv 9) (pa_cons (pv 5) pa_nil))) (pv 8) (nomark _)) (pw_or1 (pt_cmpR My.op_neC (pe_call GWithout (hr.mono (by decide)) rfl DWithout.mg DWithout.kp DWithout.b .nil pass0 (pa_cons (pv 8) (pa_cons (pv 5) pa_nil))) (pv 9) (nomark _)))))
          (pss_one (ps_ret pe_bl))
          pss_nil)))))))
      (pss_cons (ps_set (i := 10) scLaw.nd rfl (.inl rfl) (pe_call GLTake (hr.mono (by decide)) rfl DLTake.mg DLTake.kp DLTake.b .nil pass0 (pa_cons (pv 1) (pa_cons pe_int pa_nil))))
      (pss_cons (ps_set (i := 11) scLaw.nd rfl (.inl rfl) (pe_lst (pa_cons (pe_callB (cr_sum rfl) (by rfl) T.sum (by decide +kernel) (pa_cons (pe_lc rfl scLaw.nd (pi_range1 (by rfl) T.range (pa_cons (pv 10) pa_nil)) (blkOk_by (N := scLawN) (sc := defScope sLaw) (own := [("_law_hand", 5)]) (by decide +kernel)) (fun _ _ _ _ _ => pg_name (i := 5) scLaw.nd rfl (.inl rfl)) (fun _ _ _ _ _ => pts_nil) (fun _ _ _ _ _ => (pe_call GLBit (hr.mono (by decide)) rfl DLBit.mg DLBit.kp DLBit.b .nil pass0 (pa_cons (pv 5) pa_nil)))) pa_nil)) (pa_cons (pe_listRg rfl (by rfl) T.list (prg_1 (by rfl) T.range (pv 10))) pa_nil))))
      (pss_one (ps_if (pt_not (pt_val (My.pe_callG GLAlike (hr.mono (by decide)) hg rfl DLAlike.mg DLAlike.kp DLAlike.b (pa_cons (pe_lst (pa_cons (pe_call GAllOf (hr.mono (by decide)) rfl DAllOf.mg DAllOf.kp DAllOf.b .nil pass0 (pa_cons (pv 10) pa_nil)) (pa_cons (pe_call GMembers (hr.mono (by decide)) rfl DMembers.mg DMembers.kp DMembers.b .nil pass0 (pa_cons (pe_call GAllOf (hr.mono (by decide)) rfl DAllOf.mg DAllOf.kp DAllOf.b .nil pass0 (pa_cons (pv 10) pa_nil)) pa_nil)) pa_nil))) (pa_cons (pv 11) pa_nil)))))
        (pss_one (ps_ret pe_bl))
        pss_nil)))))))))
    (pss_one (ps_ret (pe_cmpR (My.op_eqDC hr.units) (pe_lst (pa_cons (pe_call GAllOf (hr.mono (by decide)) rfl DAllOf.mg DAllOf.kp DAllOf.b .nil pass0 (pa_cons pe_int pa_nil)) (pa_cons (pe_call GAllOf (hr.mono (by decide)) rfl DAllOf.mg DAllOf.kp DAllOf.b .nil pass0 (pa_cons pe_int pa_nil)) (pa_cons (pe_call GAllOf (hr.mono (by decide)) rfl DAllOf.mg DAllOf.kp DAllOf.b .nil pass0 (pa_cons pe_int pa_nil)) pa_nil)))) (pe_lst (pa_cons pe_int (pa_cons pe_int (pa_cons pe_int pa_nil)))) (nomark _)))))), ?_⟩
    refine ⟨_, rfl, a, ns, rfl, hS, hl, fun b H1 _ B1 _ => ?_⟩
    refine ⟨6, rfl, by decide, by decide, for_range (n := 6) (fun i σ H' => ∃ v2 v3 v4 v5 v6 v7 v8 v9 v10 v11 : Option V, σ = [some (.ref a), some (.ref b), v2, v3, v4, v5, v6, v7, v8, v9, v10, v11] ∧ Bag H' b)
      ⟨_, _, _, _, _, _, _, _, _, _, rfl, B1⟩ ?_ ?_⟩
    · rintro i σ H2 hi ⟨v2, v3, v4, v5, v6, v7, v8, v9, v10, v11, rfl, B2⟩
      -- the mask
      refine ⟨_, rfl, _, rfl, b, 4096, rfl, B2, by decide, small64 (by decide), fun r1 H3 r10 r11 B3 k3 => ?_⟩
      refine ⟨_, rfl, b, 16, rfl, B3, by decide, small64 (by decide), fun r2 H4 r20 r21 B4 k4 => ?_⟩
      refine ⟨by show 4 ≤ sizeLine; decide, fun l hl => ?_⟩
      obtain ⟨ob, eb⟩ := B4.some
      have nl : l ≠ b := (ne_of_none eb hl).symm
      refine ⟨b, l, _, rfl, B4.same (Same.new hl), upd_same, nl, by show 0 < 4; decide, by show 4 ≤ 100000; decide, fun v H5 hv B5 k5 => ?_⟩
      obtain ⟨m, rfl, hm⟩ : ∃ m : Nat, v = .int (m : Int) ∧ m < 4096 := by
        rcases List.mem_cons.mp hv with rfl | hv
        · exact ⟨r1.toNat, by rw [Int.toNat_of_nonneg r10], by omega⟩
        rcases List.mem_cons.mp hv with rfl | hv
        · exact ⟨r2.toNat, by rw [Int.toNat_of_nonneg r20], by omega⟩
        rcases List.mem_cons.mp hv with rfl | hv
        · exact ⟨0, rfl, by decide⟩
        rcases List.mem_cons.mp hv with rfl | hv
        · exact ⟨4095, rfl, by decide⟩
        · cases hv
      -- the hands inside
      refine ⟨12, rfl, by decide, by decide, fun D hD => ?_⟩
      refine lc_range (lo := 0) (fun i H' => H' D = some (.lst (hnds ((List.range i).filter fun h => m.testBit h))) ∧ Same H5 H') ⟨upd_same, Same.new hD⟩ ?_ ?_
      · rintro j H' hj ⟨h1, h2⟩
        refine ⟨rfl, _, rfl, _, rfl, m, j, by rw [Int.zero_add] <;> rfl, hj, fun H6 s6 => ⟨_, rfl, ite2 (fun e => ?_) (fun e => ?_)⟩⟩
        · refine ⟨_, rfl, _, s6 _ _ h1, ?_, ?_, fun a o ha => ?_⟩
          · rw [hnds_len, sizeLine_eq]
            have := List.length_filter_le (fun h => m.testBit h) (List.range j)
            rw [List.length_range] at this
            have : j < 12 := hj
            omega
          · rw [List.range_succ, List.filter_append, upd_same]
            have e1 : List.filter (fun h => m.testBit h) [j] = [j] := by simp [e]
            rw [e1]
            unfold hnds
            rw [List.map_append, Int.zero_add]
            rfl
          · rw [upd_ne (ne_of_none ha hD)]
            exact s6 a o (h2 a o ha)
        · refine ⟨?_, fun a o ha => s6 a o (h2 a o ha)⟩
          rw [List.range_succ, List.filter_append]
          have e1 : List.filter (fun h => m.testBit h) [j] = [] := by simp [e]
          rw [e1, List.append_nil]
          exact s6 _ _ h1
      rintro H6 ⟨hD6, s6⟩
      have hD6 : H6 D = some (.lst (hnds (mem m))) := hD6
      have B6 := B5.same s6
      obtain ⟨ob5, eb5⟩ := B5.some
      have nDb : D ≠ b := (ne_of_none eb5 hD).symm
      -- twice the members
      refine ⟨2, rfl, by decide, by decide, for_range (n := 2) (fun _ σ H' => ∃ v2 v5 v6 v7 v8 v9 v10 v11 : Option V, σ = [some (.ref a), some (.ref b), v2, some (.int (m : Int)), some (.ref D), v5, v6, v7, v8, v9, v10, v11] ∧ Bag H' b ∧ H' D = some (.lst (hnds (mem m))))
        ⟨_, _, _, _, _, _, _, _, rfl, B6, hD6⟩ ?_ ?_⟩
      · rintro j σ H7 hj ⟨v2, v5, v6, v7, v8, v9, v10, v11, rfl, B7, hD7⟩
        refine ⟨_, rfl, m, rfl, hm, fun p H8 hp hp8 s8 => ?_⟩
        have hD8 := s8 _ _ hD7
        have nDp : D ≠ p := ne_of_none hD7 hp
        refine ⟨_, rfl, _, rfl, _, _, _, rfl, .lst (SqL.of hp8) (dp_hnds _), .lst (SqL.of hD8) (dp_hnds _), fine_mem m, _, rfl, iteF ?_⟩
        refine ⟨_, rfl, m, rfl, hm, fun H9 s9 => ⟨_, rfl, _, _, rfl, .inl ⟨_, SqL.of (s9 _ _ hD8), rfl⟩, _, _, .int ((mem m).length : Int), rfl, .int _, by rw [hnds_len]; exact .int _, ?_, _, rfl, iteF ?_⟩⟩
        · exact (fine_nat (Nat.lt_of_le_of_lt (mem_len m) (by decide))).up (by decide) (by decide)
        have s79 : Same H7 (upd H9 p (.lst (hnds (mem m) ++ [V.int 99]))) := Same.mut hp (s8.trans s9)
        refine ⟨_, rfl, .inl ⟨rfl, _, SqL.of (s9 _ _ hp8)⟩, p, _, _, rfl, rfl, s9 _ _ hp8, ?_, _, _, _, _, _, _, _, _, rfl, B7.same s79, s79 _ _ hD7⟩
        rw [hnds_len, sizeLine_eq]
        have := mem_len m
        omega
      rintro σ H7 ⟨v2, v5, v6, v7, v8, v9, v10, v11, rfl, B7, hD7⟩
      -- each hand
      refine ⟨12, rfl, by decide, by decide, for_range (n := 12) (fun _ σ H' => ∃ v2 v5 v6 v7 v8 v9 v10 v11 : Option V, σ = [some (.ref a), some (.ref b), v2, some (.int (m : Int)), some (.ref D), v5, v6, v7, v8, v9, v10, v11] ∧ Bag H' b ∧ H' D = some (.lst (hnds (mem m))))
        ⟨_, _, _, _, _, _, _, _, rfl, B7, hD7⟩ ?_ ?_⟩
      · rintro j σ H8 hj ⟨v2, v5, v6, v7, v8, v9, v10, v11, rfl, B8, hD8⟩
        have z0 : (0 : Int) + (j : Int) = (j : Int) := Int.zero_add _
        rw [z0]
        have h1000 : j ≤ 1000 := by omega
        obtain ⟨L, eMore, eLess, eWith, eWithout, eW2, eO2⟩ := with_without m j
        refine ⟨_, rfl, _, rfl, j, rfl, hj, fun Ha sa => ?_⟩
        refine ⟨_, rfl, _, rfl, D, _, m.testBit j, rfl, .inl (SqL.of (sa _ _ hD8)), rfl, flat_hnds _, inV_mem hj, .inr ⟨_, rfl, _, _, _, rfl, rfl, .inl (.inr (one_in _)), rfl, _, _, ((L + 2 ^ j : Nat) : Int), rfl, rfl, eMore, ?_⟩⟩
        refine ⟨_, rfl, _, rfl, j, rfl, hj, fun Hb sb => ?_⟩
        have hDb := sb _ _ (sa _ _ hD8)
        refine ⟨_, rfl, _, rfl, D, _, m.testBit j, rfl, .inl (SqL.of hDb), rfl, flat_hnds _, inV_mem hj, .inr ⟨_, rfl, _, _, _, rfl, rfl, .inl (.inr (one_in _)), rfl, _, _, ((L : Nat) : Int), rfl, rfl, eLess, ?_⟩⟩
        refine ⟨_, rfl, _, rfl, m, j, rfl, _, rfl, _, rfl, m, j, rfl, h1000, _, rfl, _, rfl, m, j, rfl, h1000, by show 3 ≤ sizeLine; decide, fun p hp => ?_⟩
        have hDp := Same.new (o := .lst [.bl (m.testBit j), .int ((m + (!m.testBit j).toNat * 2 ^ j : Nat) : Int), .int ((m : Int) - (((m.testBit j).toNat * 2 ^ j : Nat) : Int))]) hp _ _ hDb
        refine ⟨_, rfl, _, rfl, _, rfl, D, _, m.testBit j, rfl, .inl (SqL.of hDp), rfl, flat_hnds _, inV_mem hj, _, rfl, _, rfl, by show 3 ≤ sizeLine; decide, fun q hq => ?_⟩
        have sHq : Same H8 (upd (upd Hb p (.lst [.bl (m.testBit j), .int ((m + (!m.testBit j).toNat * 2 ^ j : Nat) : Int), .int ((m : Int) - (((m.testBit j).toNat * 2 ^ j : Nat) : Int))])) q (.lst [.bl (m.testBit j), .int ((L + 2 ^ j : Nat) : Int), .int ((L : Nat) : Int)])) :=
          ((sa.trans sb).trans (Same.new hp)).trans (Same.new hq)
        refine ⟨_, _, .list [.bool (m.testBit j), .int ((L + 2 ^ j : Nat) : Int), .int ((L : Nat) : Int)], rfl, .lst (SqL.of (Same.new hq _ _ upd_same)) ?_, .lst (SqL.of upd_same) (.cons (.bl _) (.cons (.int _) (.cons (.int _) .nil))), ?_, _, rfl, iteF ?_⟩
        · rw [eWith, eWithout]
          exact .cons (.bl _) (.cons (.int _) (.cons (.int _) .nil))
        · have hL : L < 2 ^ 14 := by
            have : (L : Int) ≤ m := by
              rw [← eWithout]
              have := Int.natCast_nonneg ((m.testBit j).toNat * 2 ^ j)
              omega
            omega
          have h2 : 2 ^ j ≤ 2 ^ 12 := Nat.pow_le_pow_right (by decide) (by omega)
          exact (Fine.list (.cons ((Fine.bool _).up (Nat.le_refl _) (Nat.le_refl _)) (.cons (fine_nat (by omega)) (.cons (fine_nat (by omega)) .nil)))).up (by decide) (by decide)
        refine ⟨_, rfl, _, rfl, L, j, rfl, h1000, _, rfl, true, rfl, decide_eq_true (by rw [eW2]), _, rfl, iteF ?_⟩
        refine ⟨_, rfl, _, rfl, L + 2 ^ j, j, rfl, h1000, _, rfl, true, rfl, decide_eq_true (by rw [eO2]), _, rfl, iteF ?_⟩
        exact ⟨_, _, _, _, _, _, _, _, rfl, B8.same sHq, sHq _ _ hD8⟩
      rintro σ H8 ⟨v2, v5, v6, v7, v8, v9, v10, v11, rfl, B8, hD8⟩
      -- the first so many hands
      refine ⟨_, rfl, b, 13, rfl, B8, by decide, small64 (by decide), fun r H9 r0 r13 B9 k9 => ?_⟩
      obtain ⟨n, rfl⟩ : ∃ n : Nat, r = (n : Int) := ⟨r.toNat, by omega⟩
      have hn : n ≤ 12 := by omega
      refine ⟨_, rfl, _, rfl, by omega, by omega, fun D2 hD2 => ?_⟩
      refine lc_range (lo := 0) (fun i H' => H' D2 = some (.lst (((List.range i).map fun h => ((2 ^ h : Nat) : Int)).map V.int)) ∧ Same H9 H') ⟨upd_same, Same.new hD2⟩ ?_ ?_
      · rintro j H' hj ⟨h1, h2⟩
        have hj' : j < 12 := by
          have : ((n : Nat) : Int).toNat = n := Int.toNat_natCast n
          omega
        refine ⟨rfl, _, rfl, j, by rw [Int.zero_add] <;> rfl, hj', fun H6 s6 => ⟨_, s6 _ _ h1, ?_, ?_, fun a o ha => ?_⟩⟩
        · rw [List.length_map, List.length_map, List.length_range, sizeLine_eq]
          omega
        · rw [upd_same, List.range_succ, List.map_append, List.map_append]
          rfl
        · rw [upd_ne (ne_of_none ha hD2)]
          exact s6 a o (h2 a o ha)
      rintro H6 ⟨h1, s6⟩
      rw [Int.toNat_natCast] at h1
      refine ⟨D2, _, rfl, SqL.of h1, ?_⟩
      refine ⟨_, rfl, _, rfl, ⟨by decide, by decide, by omega, by omega, by omega⟩, fun q hq => ?_⟩
      refine ⟨by show 2 ≤ sizeLine; decide, fun d hd => ?_⟩
      rw [pow_sum n]
      have er : rgV 0 (n : Int) = hnds (List.range n) := by
        unfold rgV hnds
        have : ((n : Int) - 0).toNat = n := by omega
        rw [this]
        exact List.map_congr_left fun x _ => by rw [Int.zero_add]
      rw [er] at hd ⊢
      have nqd : q ≠ d := ne_of_none upd_same hd
      have h2n : 2 ^ n - 1 < 4096 := by
        have : 2 ^ n ≤ 2 ^ 12 := Nat.pow_le_pow_right (by decide) hn
        omega
      refine ⟨_, rfl, n, rfl, hn, _, rfl, n, rfl, hn, 2 ^ n - 1, rfl, h2n, fun p Hp hp hp1 sp => ?_⟩
      rw [mem_all n hn] at hp1
      have sd : Same H9 (upd (upd H6 q (.lst (hnds (List.range n)))) d (.lst [.int ((2 ^ n - 1 : Nat) : Int), .ref q])) := (s6.trans (Same.new hq)).trans (Same.new hd)
      refine ⟨by show 2 ≤ sizeLine; decide, fun l2 hl2 => ?_⟩
      have sl := Same.new (o := .lst [.int ((2 ^ n - 1 : Nat) : Int), .ref p]) hl2
      refine ⟨_, rfl, _, _, .list [.int ((2 ^ n - 1 : Nat) : Int), .list (pnds (List.range n))], rfl,
        .lst (SqL.of upd_same) (.cons (.int _) (.cons (.lst (SqL.of (sl _ _ hp1)) (dp_hnds _)) .nil)),
        .lst (SqL.of (sl _ _ (sp _ _ upd_same))) (.cons (.int _) (.cons (.lst (SqL.of (sl _ _ (sp _ _ (by rw [upd_ne nqd]; exact upd_same)))) (dp_hnds _)) .nil)), ?_, _, rfl, iteF ?_⟩
      · have a : FineL 0 ((pnds (List.range n)).length * (1921 + 2)) (pnds (List.range n)) := FineL.all fun d hd => by
          obtain ⟨x, hx, rfl⟩ := List.mem_map.mp hd
          exact fine_nat (by have := List.mem_range.mp hx; omega)
        have el : (pnds (List.range n)).length = n := by
          unfold pnds
          rw [List.length_map, List.length_range]
        rw [el] at a
        exact (Fine.list (.cons ((fine_nat (by omega)).up (by decide) (Nat.le_refl _)) (.cons (Fine.list a) (FineL.nil.up (by decide) (Nat.le_refl _))))).up (by decide) (by omega)
      exact ⟨_, _, _, _, _, _, _, _, _, _, rfl, ((B9.same sd).same sp).same sl⟩
    · rintro σ H2 ⟨v2, v3, v4, v5, v6, v7, v8, v9, v10, v11, rfl, B2⟩
      refine ⟨0, rfl, by decide, 3, rfl, by decide, 12, rfl, by decide, by show 3 ≤ sizeLine; decide, fun p hp => ?_⟩
      refine ⟨by show 3 ≤ sizeLine; decide, fun q hq => ?_⟩
      exact ⟨.list [.int 0, .int 7, .int 4095], .list [.int 0, .int 7, .int 4095], true, .lst (SqL.of (Same.new hq _ _ upd_same)) (.cons (.int _) (.cons (.int _) (.cons (.int _) .nil))), .lst (SqL.of upd_same) (.cons (.int _) (.cons (.int _) (.cons (.int _) .nil))), by decide, by decide, by decide, go _⟩
end
theorem all_mk {l : PySem.W.OpenLaw} {w : World} {K : PySem.W.Frag} {h : Heap} {mg : Str → Option Value} {fa : Addr} (X : K.In h) (G : h.Ns mainGlobals mg) (hfa : mg "law" = some (.ref fa))
    {f0 : Addr} {od0 an0 : Option Addr} {sl0 : Array (Option Value)} {oc0 kV0 dc0 pm0 cd0 ct0 : Value}
    {f1 : Addr} {od1 an1 : Option Addr} {sl1 : Array (Option Value)} {oc1 kV1 dc1 pm1 cd1 ct1 : Value}
    {f2 : Addr} {od2 an2 : Option Addr} {sl2 : Array (Option Value)} {oc2 kV2 dc2 pm2 cd2 ct2 : Value}
    {f3 : Addr} {od3 an3 : Option Addr} {sl3 : Array (Option Value)} {oc3 kV3 dc3 pm3 cd3 ct3 : Value}
    {f4 : Addr} {od4 an4 : Option Addr} {sl4 : Array (Option Value)} {oc4 kV4 dc4 pm4 cd4 ct4 : Value}
    {f5 : Addr} {od5 an5 : Option Addr} {sl5 : Array (Option Value)} {oc5 kV5 dc5 pm5 cd5 ct5 : Value}
    {f6 : Addr} {od6 an6 : Option Addr} {sl6 : Array (Option Value)} {oc6 kV6 dc6 pm6 cd6 ct6 : Value}
    {f7 : Addr} {od7 an7 : Option Addr} {sl7 : Array (Option Value)} {oc7 kV7 dc7 pm7 cd7 ct7 : Value}
    {f8 : Addr} {od8 an8 : Option Addr} {sl8 : Array (Option Value)} {oc8 kV8 dc8 pm8 cd8 ct8 : Value}
    {f9 : Addr} {od9 an9 : Option Addr} {sl9 : Array (Option Value)} {oc9 kV9 dc9 pm9 cd9 ct9 : Value}
    {f10 : Addr} {od10 an10 : Option Addr} {sl10 : Array (Option Value)} {oc10 kV10 dc10 pm10 cd10 ct10 : Value}
    {f11 : Addr} {od11 an11 : Option Addr} {sl11 : Array (Option Value)} {oc11 kV11 dc11 pm11 cd11 ct11 : Value}
    {fL : Addr} {odL anL : Option Addr} {slL : Array (Option Value)} {ocL kVL dcL pmL cdL ctL : Value}
    (a0 : PySem.W.nsIn K mainGlobals "_law_bag" = some (some (.ref f0)))
    (l0 : K.lookup f0 = some ⟨oc0, od0, .func (PySem.W.fnOf "_law_bag" "_law_bag" (defArgs sLBag) (defBody sLBag) (defScope sLBag) .none kV0 dc0 pm0 an0 cd0 ct0), sl0⟩)
    (c0 : PySem.W.codeIn K cd0 "_law_bag" = true) (k0 : PySem.W.keepIn K (.ref f0) = true)
    (a1 : PySem.W.nsIn K mainGlobals "_law_take" = some (some (.ref f1)))
    (l1 : K.lookup f1 = some ⟨oc1, od1, .func (PySem.W.fnOf "_law_take" "_law_take" (defArgs sLTake) (defBody sLTake) (defScope sLTake) .none kV1 dc1 pm1 an1 cd1 ct1), sl1⟩)
    (c1 : PySem.W.codeIn K cd1 "_law_take" = true) (k1 : PySem.W.keepIn K (.ref f1) = true)
    (a2 : PySem.W.nsIn K mainGlobals "_law_one" = some (some (.ref f2)))
    (l2 : K.lookup f2 = some ⟨oc2, od2, .func (PySem.W.fnOf "_law_one" "_law_one" (defArgs sLOne) (defBody sLOne) (defScope sLOne) .none kV2 dc2 pm2 an2 cd2 ct2), sl2⟩)
    (c2 : PySem.W.codeIn K cd2 "_law_one" = true) (k2 : PySem.W.keepIn K (.ref f2) = true)
    (a3 : PySem.W.nsIn K mainGlobals "_law_alike" = some (some (.ref f3)))
    (l3 : K.lookup f3 = some ⟨oc3, od3, .func (PySem.W.fnOf "_law_alike" "_law_alike" (defArgs sLAlike) (defBody sLAlike) (defScope sLAlike) .none kV3 dc3 pm3 an3 cd3 ct3), sl3⟩)
    (c3 : PySem.W.codeIn K cd3 "_law_alike" = true) (k3 : PySem.W.keepIn K (.ref f3) = true)
    (a4 : PySem.W.nsIn K mainGlobals "_law_bit" = some (some (.ref f4)))
    (l4 : K.lookup f4 = some ⟨oc4, od4, .func (PySem.W.fnOf "_law_bit" "_law_bit" (defArgs sLBit) (defBody sLBit) (defScope sLBit) .none kV4 dc4 pm4 an4 cd4 ct4), sl4⟩)
    (c4 : PySem.W.codeIn K cd4 "_law_bit" = true) (k4 : PySem.W.keepIn K (.ref f4) = true)
    (a5 : PySem.W.nsIn K mainGlobals "_law_in" = some (some (.ref f5)))
    (l5 : K.lookup f5 = some ⟨oc5, od5, .func (PySem.W.fnOf "_law_in" "_law_in" (defArgs sLIn) (defBody sLIn) (defScope sLIn) .none kV5 dc5 pm5 an5 cd5 ct5), sl5⟩)
    (c5 : PySem.W.codeIn K cd5 "_law_in" = true) (k5 : PySem.W.keepIn K (.ref f5) = true)
    (a6 : PySem.W.nsIn K mainGlobals "all_of" = some (some (.ref f6)))
    (l6 : K.lookup f6 = some ⟨oc6, od6, .func (PySem.W.fnOf "all_of" "all_of" (defArgs sAllOf) (defBody sAllOf) (defScope sAllOf) .none kV6 dc6 pm6 an6 cd6 ct6), sl6⟩)
    (c6 : PySem.W.codeIn K cd6 "all_of" = true) (k6 : PySem.W.keepIn K (.ref f6) = true)
    (a7 : PySem.W.nsIn K mainGlobals "holds" = some (some (.ref f7)))
    (l7 : K.lookup f7 = some ⟨oc7, od7, .func (PySem.W.fnOf "holds" "holds" (defArgs sHolds) (defBody sHolds) (defScope sHolds) .none kV7 dc7 pm7 an7 cd7 ct7), sl7⟩)
    (c7 : PySem.W.codeIn K cd7 "holds" = true) (k7 : PySem.W.keepIn K (.ref f7) = true)
    (a8 : PySem.W.nsIn K mainGlobals "with_one" = some (some (.ref f8)))
    (l8 : K.lookup f8 = some ⟨oc8, od8, .func (PySem.W.fnOf "with_one" "with_one" (defArgs sWithOne) (defBody sWithOne) (defScope sWithOne) .none kV8 dc8 pm8 an8 cd8 ct8), sl8⟩)
    (c8 : PySem.W.codeIn K cd8 "with_one" = true) (k8 : PySem.W.keepIn K (.ref f8) = true)
    (a9 : PySem.W.nsIn K mainGlobals "without" = some (some (.ref f9)))
    (l9 : K.lookup f9 = some ⟨oc9, od9, .func (PySem.W.fnOf "without" "without" (defArgs sWithout) (defBody sWithout) (defScope sWithout) .none kV9 dc9 pm9 an9 cd9 ct9), sl9⟩)
    (c9 : PySem.W.codeIn K cd9 "without" = true) (k9 : PySem.W.keepIn K (.ref f9) = true)
    (a10 : PySem.W.nsIn K mainGlobals "members" = some (some (.ref f10)))
    (l10 : K.lookup f10 = some ⟨oc10, od10, .func (PySem.W.fnOf "members" "members" (defArgs sMembers) (defBody sMembers) (defScope sMembers) .none kV10 dc10 pm10 an10 cd10 ct10), sl10⟩)
    (c10 : PySem.W.codeIn K cd10 "members" = true) (k10 : PySem.W.keepIn K (.ref f10) = true)
    (a11 : PySem.W.nsIn K mainGlobals "size" = some (some (.ref f11)))
    (l11 : K.lookup f11 = some ⟨oc11, od11, .func (PySem.W.fnOf "size" "size" (defArgs sSize) (defBody sSize) (defScope sSize) .none kV11 dc11 pm11 an11 cd11 ct11), sl11⟩)
    (c11 : PySem.W.codeIn K cd11 "size" = true) (k11 : PySem.W.keepIn K (.ref f11) = true)
    (aL : PySem.W.nsIn K mainGlobals "law" = some (some (.ref fL)))
    (lL : K.lookup fL = some ⟨ocL, odL, .func (PySem.W.fnOf "law" "law" (defArgs sLaw) (defBody sLaw) (defScope sLaw) .none kVL dcL pmL anL cdL ctL), slL⟩)
    (cL : PySem.W.codeIn K cdL "law" = true) (kL : PySem.W.keepIn K (.ref fL) = true)
    (z_abs : PySem.W.nsIn K mainGlobals "abs" = some none)
    (z_int : PySem.W.nsIn K mainGlobals "int" = some none)
    (z_len : PySem.W.nsIn K mainGlobals "len" = some none)
    (z_list : PySem.W.nsIn K mainGlobals "list" = some none)
    (z_range : PySem.W.nsIn K mainGlobals "range" = some none)
    (z_repr : PySem.W.nsIn K mainGlobals "repr" = some none)
    (z_sum : PySem.W.nsIn K mainGlobals "sum" = some none)
    (z_enumerate : PySem.W.nsIn K mainGlobals "enumerate" = some none)
    : ∃ fd : FuncData, (∀ (s : Shared) (v : Value), BindsTo s fd ⟨[v], []⟩ [("_law_script", v)]) ∧ ∀ base : Heap, K.In base → base.Ns mainGlobals mg → FnG l.prog w K mg base 6 fa fd ["_law_script"] (spLaw K) := by
  have e := hfa.symm.trans (PySem.W.mg_of X G aL)
  cases e
  have T : Txt mg := ⟨PySem.W.mg_none_of X G z_abs, PySem.W.mg_none_of X G z_int, PySem.W.mg_none_of X G z_len, PySem.W.mg_none_of X G z_list, PySem.W.mg_none_of X G z_range, PySem.W.mg_none_of X G z_repr, PySem.W.mg_none_of X G z_sum, PySem.W.mg_none_of X G z_enumerate⟩
  have F0 := fun_mk (st := sLBag) l0 c0 k0
  have b0 := F0.binds (ps := ["_law_script"]) fun _ _ _ _ _ _ us hl => match us, hl with | [_], _ => rfl
  have D0 : Df K mg "_law_bag" sLBag ["_law_script"] := ⟨f0, _, F0, PySem.W.mg_of X G a0, k0, b0⟩
  have F1 := fun_mk (st := sLTake) l1 c1 k1
  have b1 := F1.binds (ps := ["_law_bag_here", "_law_many"]) fun _ _ _ _ _ _ us hl => match us, hl with | [_, _], _ => rfl
  have D1 : Df K mg "_law_take" sLTake ["_law_bag_here", "_law_many"] := ⟨f1, _, F1, PySem.W.mg_of X G a1, k1, b1⟩
  have F2 := fun_mk (st := sLOne) l2 c2 k2
  have b2 := F2.binds (ps := ["_law_bag_here", "_law_some"]) fun _ _ _ _ _ _ us hl => match us, hl with | [_, _], _ => rfl
  have D2 : Df K mg "_law_one" sLOne ["_law_bag_here", "_law_some"] := ⟨f2, _, F2, PySem.W.mg_of X G a2, k2, b2⟩
  have F3 := fun_mk (st := sLAlike) l3 c3 k3
  have b3 := F3.binds (ps := ["_law_found", "_law_due"]) fun _ _ _ _ _ _ us hl => match us, hl with | [_, _], _ => rfl
  have D3 : Df K mg "_law_alike" sLAlike ["_law_found", "_law_due"] := ⟨f3, _, F3, PySem.W.mg_of X G a3, k3, b3⟩
  have F4 := fun_mk (st := sLBit) l4 c4 k4
  have b4 := F4.binds (ps := ["_law_hand"]) fun _ _ _ _ _ _ us hl => match us, hl with | [_], _ => rfl
  have D4 : Df K mg "_law_bit" sLBit ["_law_hand"] := ⟨f4, _, F4, PySem.W.mg_of X G a4, k4, b4⟩
  have F5 := fun_mk (st := sLIn) l5 c5 k5
  have b5 := F5.binds (ps := ["_law_mask", "_law_hand"]) fun _ _ _ _ _ _ us hl => match us, hl with | [_, _], _ => rfl
  have D5 : Df K mg "_law_in" sLIn ["_law_mask", "_law_hand"] := ⟨f5, _, F5, PySem.W.mg_of X G a5, k5, b5⟩
  have F6 := fun_mk (st := sAllOf) l6 c6 k6
  have b6 := F6.binds (ps := ["hands"]) fun _ _ _ _ _ _ us hl => match us, hl with | [_], _ => rfl
  have D6 : Df K mg "all_of" sAllOf ["hands"] := ⟨f6, _, F6, PySem.W.mg_of X G a6, k6, b6⟩
  have F7 := fun_mk (st := sHolds) l7 c7 k7
  have b7 := F7.binds (ps := ["mask", "hand"]) fun _ _ _ _ _ _ us hl => match us, hl with | [_, _], _ => rfl
  have D7 : Df K mg "holds" sHolds ["mask", "hand"] := ⟨f7, _, F7, PySem.W.mg_of X G a7, k7, b7⟩
  have F8 := fun_mk (st := sWithOne) l8 c8 k8
  have b8 := F8.binds (ps := ["mask", "hand"]) fun _ _ _ _ _ _ us hl => match us, hl with | [_, _], _ => rfl
  have D8 : Df K mg "with_one" sWithOne ["mask", "hand"] := ⟨f8, _, F8, PySem.W.mg_of X G a8, k8, b8⟩
  have F9 := fun_mk (st := sWithout) l9 c9 k9
  have b9 := F9.binds (ps := ["mask", "hand"]) fun _ _ _ _ _ _ us hl => match us, hl with | [_, _], _ => rfl
  have D9 : Df K mg "without" sWithout ["mask", "hand"] := ⟨f9, _, F9, PySem.W.mg_of X G a9, k9, b9⟩
  have F10 := fun_mk (st := sMembers) l10 c10 k10
  have b10 := F10.binds (ps := ["mask"]) fun _ _ _ _ _ _ us hl => match us, hl with | [_], _ => rfl
  have D10 : Df K mg "members" sMembers ["mask"] := ⟨f10, _, F10, PySem.W.mg_of X G a10, k10, b10⟩
  have F11 := fun_mk (st := sSize) l11 c11 k11
  have b11 := F11.binds (ps := ["mask"]) fun _ _ _ _ _ _ us hl => match us, hl with | [_], _ => rfl
  have D11 : Df K mg "size" sSize ["mask"] := ⟨f11, _, F11, PySem.W.mg_of X G a11, k11, b11⟩
  have FL := fun_mk (st := sLaw) lL cL kL
  exact ⟨PySem.W.fnOf "law" "law" (defArgs sLaw) (defBody sLaw) (defScope sLaw) .none kVL dcL pmL anL cdL ctL, fun s v => .of_eq rfl, fun base _ _ =>
    ok_law FL T D0 D1 D2 D3 D4 D5 D6 D7 D8 D9 D10 D11⟩
theorem walk {l : PySem.W.OpenLaw} {q : Program} {loose : List Str} {XP : (Str → Option Value) → Heap → Prop} {YP : World → Heap → Prop} {d : DefRec} {K : Params → PySem.W.Frag} (hn : l.most = some 63) (hdf : d.params.defaults = [])
    (hY : ∀ (w : World) (h : Heap), YP w h → (K w.params).In h)
    (F : ∀ (w : World) (mg : Str → Option Value) (fa : Addr) (h : Heap), (K w.params).In h → h.Ns mainGlobals mg → mg d.name = some (.ref fa) →
      ∃ fd : FuncData, (∀ (s : Shared) (u : Value), BindsTo s fd ⟨[u], []⟩ [("_law_script", u)]) ∧ ∀ base : Heap, (K w.params).In base → base.Ns mainGlobals mg → FnG l.prog w (K w.params) mg base 6 fa fd ["_law_script"] (spLaw (K w.params))) :
    PySem.W.WalkO q loose XP YP l.row.toRowW d [] (fun f vs => PySem.call f vs) :=
  walkG (k := 6) (x := "_law_script") spLaw hn hdf ⟨rfl, by decide, by decide⟩ hY F fun K H a ns hl hS => ⟨a, ns, rfl, hS, hl, fun _ => rfl⟩
end My
open PySem PySem.W PyProof.Rows
set_option maxRecDepth 100000 in
set_option maxHeartbeats 0 in
theorem PySem.Challenge.cw_wholepoll_k17_sets_holds : PySem.Challenge.rw_wholepoll_k17_sets.Holds := by
  w_on; o_law; k_head; (case hw => w_witness2)
  k_fill
  refine My.walk (l := PySem.Challenge.rw_wholepoll_k17_sets) rfl rfl (fun w h Y => PySem.W.kIn_of Y) ?F
  case F =>
    intro w mg fa h KX G hmg
    refine' My.all_mk KX G hmg ?a0 ?l0 ?c0 ?k0 ?a1 ?l1 ?c1 ?k1 ?a2 ?l2 ?c2 ?k2 ?a3 ?l3 ?c3 ?k3 ?a4 ?l4 ?c4 ?k4 ?a5 ?l5 ?c5 ?k5 ?a6 ?l6 ?c6 ?k6 ?a7 ?l7 ?c7 ?k7 ?a8 ?l8 ?c8 ?k8 ?a9 ?l9 ?c9 ?k9 ?a10 ?l10 ?c10 ?k10 ?a11 ?l11 ?c11 ?k11 ?aL ?lL ?cL ?kL ?z_abs ?z_int ?z_len ?z_list ?z_range ?z_repr ?z_sum ?z_enumerate
    (case a0 => k_is)
    (case l0 => k_is)
    (case c0 => k_is)
    (case k0 => k_is)
    (case a1 => k_is)
    (case l1 => k_is)
    (case c1 => k_is)
    (case k1 => k_is)
    (case a2 => k_is)
    (case l2 => k_is)
    (case c2 => k_is)
    (case k2 => k_is)
    (case a3 => k_is)
    (case l3 => k_is)
    (case c3 => k_is)
    (case k3 => k_is)
    (case a4 => k_is)
    (case l4 => k_is)
    (case c4 => k_is)
    (case k4 => k_is)
    (case a5 => k_is)
    (case l5 => k_is)
    (case c5 => k_is)
    (case k5 => k_is)
    (case a6 => k_is)
    (case l6 => k_is)
    (case c6 => k_is)
    (case k6 => k_is)
    (case a7 => k_is)
    (case l7 => k_is)
    (case c7 => k_is)
    (case k7 => k_is)
    (case a8 => k_is)
    (case l8 => k_is)
    (case c8 => k_is)
    (case k8 => k_is)
    (case a9 => k_is)
    (case l9 => k_is)
    (case c9 => k_is)
    (case k9 => k_is)
    (case a10 => k_is)
    (case l10 => k_is)
    (case c10 => k_is)
    (case k10 => k_is)
    (case a11 => k_is)
    (case l11 => k_is)
    (case c11 => k_is)
    (case k11 => k_is)
    (case aL => k_is)
    (case lL => k_is)
    (case cL => k_is)
    (case kL => k_is)
    (case z_abs => k_is)
    (case z_int => k_is)
    (case z_len => k_is)
    (case z_list => k_is)
    (case z_range => k_is)
    (case z_repr => k_is)
    (case z_sum => k_is)
    (case z_enumerate => k_is)

