import PyProof.Rows.All
import Wide.All
import OpenK.AllK
import Wide.FinOn
import HandS.ForMost
import HandS.ForExc
import HandS.Steps
import HandS.FStr
import HandS.Small
import HandS.IsInst
import HandS.ExcIs
import HandS.CallSlots
import HandS.Defaults
import HandS.More
import HandS.StrMore
import HandS.Replace
import HandS.ReplaceDef
import HandS.ReplaceList
import HandS.ReplaceLit
import HandS.Codes
import HandS.Evl
import KE.KStateDown
import Lean
import HandS.Head0
import HandS.Head1
import HandS.Head2
import HandS.HeadEnd
import HandS.HeadHook1
import HandS.HeadHook2
import PySem.Challenge.RW_plainway_k01_a_part_told
set_option Elab.async false
set_option linter.all false
set_option maxRecDepth 100000
set_option maxHeartbeats 0
/-! Plainway: names for the readings, texts as lists of codes. -/
namespace Pl
open PySem PySem.Spec PyProof.Rows L2
/-- what a law's program stands on: the written part, the addresses of the classes -/
structure Ad where
  K : PySem.W.Frag
  cPath : Addr
  cBad : Addr
  cNo : Addr
  cRing : Addr
  cShares : Addr
/-- a callee as a caller sees it -/
structure Cal (P : Program) (w : World) (K : PySem.W.Frag) (mg : Str → Option Value) (base : Heap) (CX : CXT) (x : Str) (k : Nat) (ps : List Str) (sp : Sp) (f : Addr) (fd : FuncData) : Prop where
  ok : FnOk P w K mg base CX k f fd ps sp
  m : mg x = some (.ref f)
  kp : PySem.W.keepIn K (.ref f) = true
  b : Binds K fd ps []

/-! ### readings by name -/
abbrev rAddI : R2 := rI0 fun i j => .int (i + j)
abbrev rSubI : R2 := rI0 fun i j => .int (i - j)
abbrev rMulI : R2 := rI CMul fun i j => .int (i * j)
abbrev rDivI : R2 := rI CDiv fun i j => .int (i / j)
abbrev rModI : R2 := rI (fun _ j => 0 < j) fun i j => .int (i % j)
abbrev rLtI : R2 := rI0 fun i j => .bl (decide (i < j))
abbrev rLeI : R2 := rI0 fun i j => .bl (decide (i ≤ j))
abbrev rGtI : R2 := rI0 fun i j => .bl (decide (j < i))
abbrev rGeI : R2 := rI0 fun i j => .bl (decide (j ≤ i))
def rCatT : R2 := fun x y H Q => ∃ i j, x = .str i ∧ y = .str j ∧ i.length + j.length ≤ sizeLine ∧ Q (.str (i ++ j)) H
theorem opCatT {X : Cx} : OpR X (binaryOp .Add) rCatT := op_add_str
def rLenT : List V → Hp → VK → Prop := fun xs H Q => ∃ z, xs = [.str z] ∧ z.length ≤ sizeLine ∧ Q (.int z.length) H
theorem calLenT {X : Cx} : CallR X (.builtin "len") rLenT := call_len_str
def rLenL (K : PySem.W.Frag) : List V → Hp → VK → Prop := fun xs H Q => ∃ p ys, xs = [.ref p] ∧ (SqL K H p ys ∨ SqT K H p ys) ∧ Q (.int ys.length) H
theorem calLenL {X : Cx} : CallR X (.builtin "len") (rLenL X.K) := call_len_seq
def rStrI : List V → Hp → VK → Prop := fun xs H Q => ∃ i, xs = [.int i] ∧ i.natAbs.log2 < 1920 ∧ Q (.str (toString i)) H
theorem calStrI {X : Cx} : CallR X (.type "str") rStrI := call_str_int
def rIntT : List V → Hp → VK → Prop := fun xs H Q => ∃ a n, xs = [.str a] ∧ PySem.intText? a = some n ∧ a.length ≤ 640 ∧ Q (.int n) H
theorem calIntT {X : Cx} : CallR X (.type "int") rIntT := call_int_str
def rListOf (K : PySem.W.Frag) : List V → Hp → VK → Prop := fun xs H Q => ∃ p ys, xs = [.ref p] ∧ (SqL K H p ys ∨ SqT K H p ys) ∧ ∀ l, H l = none → Q (.ref l) (upd H l (.lst ys))
theorem calListOf {X : Cx} : CallR X (.type "list") (rListOf X.K) := call_list_of
def rSplit : V → List V → Hp → VK → Prop := fun x xs H Q => ∃ a b, x = .str a ∧ xs = [.str b] ∧ (b.length == 0) = false ∧ a.length + 2 ≤ sizeLine ∧ rNewStrs (Txt.split a b) H Q
theorem mtSplit {X : Cx} : MtR X "str.split" rSplit := mt_split
def rJoin (K : PySem.W.Frag) : V → List V → Hp → VK → Prop := fun x xs H Q => ∃ a p, ∃ ys : List Str, x = .str a ∧ xs = [.ref p] ∧ (SqL K H p (ys.map V.str) ∨ SqT K H p (ys.map V.str)) ∧
    (ys.map (·.length)).sum + ys.length * a.length ≤ 16777216 ∧ Q (.str (Txt.join a ys)) H
theorem mtJoin {X : Cx} : MtR X "str.join" (rJoin X.K) := mt_join
def rStarts : V → List V → Hp → VK → Prop := fun x xs H Q => ∃ a b, x = .str a ∧ xs = [.str b] ∧ Q (.bl (Txt.startswith a b)) H
theorem mtStarts {X : Cx} : MtR X "str.startswith" rStarts := mt_startswith
def rIsdigit : V → List V → Hp → VK → Prop := fun x xs H Q => ∃ a, x = .str a ∧ xs = [] ∧ True ∧ Q (.bl (Txt.isdigit a)) H
theorem mtIsdigit {X : Cx} : MtR X "str.isdigit" rIsdigit := mt_isdigit
def rSIndex : V → List V → Hp → VK → Prop := fun x xs H Q => ∃ a b i rest, x = .str a ∧ xs = [.str b] ∧ Builtin.Str.occurrences a b 0 a.length 1 = i :: rest ∧ Q (.int (i : Nat)) H
theorem mtSIndex {X : Cx} : MtR X "str.index" rSIndex := mt_sindex
def rZfill : V → List V → Hp → VK → Prop := fun x xs H Q => ∃ (a : Str) (i : Int), x = .str a ∧ xs = [.int i] ∧ PadOk i = true ∧ Q (.str (Txt.zfill a i)) H
theorem mtZfill {X : Cx} : MtR X "str.zfill" rZfill := mt_zfill
def rInsert : V → List V → Hp → VK → Prop := fun x vs H Q => ∃ (l : Addr) (xs : List V) (i : Int) (y : V), x = .ref l ∧ vs = [.int i, y] ∧ H l = some (.lst xs) ∧ xs.length < sizeLine ∧ 0 ≤ i ∧ i < 2 ^ 63 ∧
    Q .non (upd H l (.lst (xs.take i.toNat ++ [y] ++ xs.drop i.toNat)))
theorem mtInsert {X : Cx} : MtR X "list.insert" rInsert := mt_insert
/-- isinstance of the exception that a suite holds -/
def rIsX (K : PySem.W.Frag) (D a : Addr) (cls : Value) (d : Option Addr) : List V → Hp → VK → Prop := fun xs H Q => cls = .ref D ∧ d = none ∧ rIsE K D a xs H Q
theorem calIsX {X : Cx} {a D : Addr} {oe : Obj} {cls : Value} {d : Option Addr} {pn : List (Addr × Obj)} (C : ExcC X.K D) (hz : Zc cls d oe) (hf : ∃ vs, oe.data = .fields vs) : CallR (X.suite a ((a, oe) :: pn)) (.builtin "isinstance") (rIsX X.K D a cls d) := by
  intro pins s σ H xs us Q I r h
  obtain ⟨e1, e2, h⟩ := h
  subst e1 e2
  exact call_isE C hz hf pins s σ H xs us Q I r h
/-- name = e, the name in slot i -/
theorem ps_at {X : Cx} (i : Nat) {x : Str} {e : Expr} {te : TE} {pos pos' : Pos} (hN : X.N.Nodup) (he : PE X e te) (hi : X.N[i]? = some x := by rfl) (hx : Loc X.env.scope x := by first | exact Or.inl rfl | exact Or.inr rfl)
    (hs : swapsWith e (some (.Name x pos')) pos.line X.env = pure false := by rfl) (hf : X.fn x = true ∨ X.env.scope.names.lookup x = some .local := by first | exact .inl rfl | exact .inr rfl) :
    PS X (.Assign [.Name x pos'] e pos) (tAsg te (gName i)) := ps_set hN hi hx he hs hf
theorem pg_at {X : Cx} (i : Nat) {x : Str} {pos : Pos} (hN : X.N.Nodup) (hi : X.N[i]? = some x := by rfl) (hx : Loc X.env.scope x := by first | exact Or.inl rfl | exact Or.inr rfl)
    (hf : X.fn x = true ∨ X.env.scope.names.lookup x = some .local := by first | exact .inl rfl | exact .inr rfl) : PG X (.Name x pos) (gName i) := pg_name hN hi hx hf
/-- an own error's class as the top has made it -/
structure ExOk (K : PySem.W.Frag) (mg : Str → Option Value) (n : Str) (C : Addr) : Prop where
  g : mg n = some (.ref C)
  x : PySem.W.excIn K C [.type "ValueError", .type "Exception", .type "BaseException", .type "object"] "ValueError.__new__" = true
  k : PySem.W.keepIn K (.ref C) = true
  b : PySem.W.subIn K (.ref C) (.type "BaseException") = some true
  t : PySem.W.typeIn K (.ref C) = some (.type "type")
/-- an f-string's parts -/
def tFS (ts : List TE) : TE := fun σ H Q => tJs ts Str.empty σ H fun out H1 => Q (.str out) H1
/-- raise C(..) -/
def tRaiseX (C : Addr) (ta : TA) (E : XK) : TS := fun _ σ H => ta σ H fun vs H1 => vs.length ≤ sizeLine ∧ E (.ref C) none H1
/-- a def whose names are all plain locals: a token is out when its body begins -/
theorem okT {P : Program} {w : World} {K : PySem.W.Frag} {mg : Str → Option Value} {base : Heap} {x qual : Str} {params : Arguments} {body : List Stmt} {scope : Scope} {dvs : List V} {kws : List (Str × V)} {f : Addr} {fd : FuncData}
    {CX : CXT} {N ps : List Str} {k : Nat} {sp : Sp} (F : FunD K x qual params body scope dvs kws f fd) (sc : FnScope N ps scope) (hnc : ∀ y ∈ scope.names, y.2 ≠ .cell) (hps : 1 ≤ ps.length) (len : ∀ vs H Q E, sp vs H Q E → vs.length = ps.length)
    (hbody : ∀ (cdv : Value) (A : Around) (outer : List Env) (s : Shared) (H : Hp) (vs : List V) (Q : VK) (E : XK), Room k (A.deeper (envOfC qual scope s.heap.objs.size f cdv)) → sp vs H Q E →
      ∃ t, PSsT (cxOf CX P w K mg base N qual scope f cdv A outer s H E) body t ∧ t { nx := fun _ H' => Q .non H', rt := Q } (start N vs) H) : FnOk P w K mg base CX (k + 1) f fd ps sp := by
  obtain ⟨oc, od, dV, kV, doc, pm, an, cdv, ct, osl, rfl, lk, hcd, _, _⟩ := F.ex
  exact fn_ofT lk hcd sc hnc hps len fun A outer s H vs Q E hr hsp => hbody cdv A outer s H vs Q E hr hsp
/-! ### texts by their codes -/
abbrev S (l : List Nat) : Str := ⟨l.toArray⟩
theorem S_tl (x : Str) : S (TL.tl x) = x := TL.mk_tl x
theorem S_len (l : List Nat) : (S l).length = l.length := by rw [TL.len_tl, TL.tl_mk]
theorem S_app (a b : List Nat) : S a ++ S b = S (a ++ b) := TL.ext_tl (by rw [TL.tl_append, TL.tl_mk, TL.tl_mk, TL.tl_mk])
theorem S_inj {a b : List Nat} (h : S a = S b) : a = b := by
  have e := congrArg TL.tl h
  rwa [TL.tl_mk, TL.tl_mk] at e
theorem S_dec (a b : List Nat) : decide (V.str (S a) = V.str (S b)) = decide (a = b) := by
  by_cases e : a = b
  · rw [e, decide_eq_true rfl, decide_eq_true rfl]
  · rw [decide_eq_false e, decide_eq_false fun q => e (S_inj (V.str.inj q))]
theorem cut_nat (l : List Nat) (i j : Nat) : cutS (S l) (some (i : Int)) (some (j : Int)) = S ((l.drop i).take (j - i)) := by
  unfold cutS
  rw [S_len, HT.sIx_nat, HT.sIx_nat]
  show S ((l.drop (min i l.length)).take (min j l.length - min i l.length)) = _
  apply congrArg S
  by_cases h : i ≤ l.length
  · rw [Nat.min_eq_left h]
    by_cases h2 : j ≤ l.length
    · rw [Nat.min_eq_left h2]
    · rw [Nat.min_eq_right (by omega), List.take_of_length_le (by rw [List.length_drop]; omega), List.take_of_length_le (by rw [List.length_drop]; omega)]
  · have e1 : min i l.length = l.length := Nat.min_eq_right (by omega)
    rw [e1, List.drop_eq_nil_of_le (Nat.le_refl _), List.drop_eq_nil_of_le (show l.length ≤ i by omega), List.take_nil, List.take_nil]
theorem cut_to (l : List Nat) (j : Nat) : cutS (S l) none (some (j : Int)) = S (l.take j) := by
  have e := cut_nat l 0 j
  rw [List.drop_zero, Nat.sub_zero] at e
  rw [← e]
  unfold cutS
  rw [S_len, HT.sIx_nat, HT.sIx_nat, HT.sIx_none, Nat.zero_min]
theorem cut_from (l : List Nat) (i : Nat) : cutS (S l) (some (i : Int)) none = S (l.drop i) := by
  have e := cut_nat l i l.length
  rw [List.take_of_length_le (by rw [List.length_drop]; omega)] at e
  rw [← e]
  unfold cutS
  rw [S_len, HT.sIx_nat, HT.sIx_nat, HT.sIx_none, Nat.min_self]
theorem cutV_nat (l : List V) (i j : Nat) : cutV l (some (i : Int)) (some (j : Int)) = (l.drop i).take (j - i) := by
  unfold cutV
  rw [HT.sIx_nat, HT.sIx_nat]
  by_cases h : i ≤ l.length
  · rw [Nat.min_eq_left h]
    by_cases h2 : j ≤ l.length
    · rw [Nat.min_eq_left h2]
    · rw [Nat.min_eq_right (by omega), List.take_of_length_le (by rw [List.length_drop]; omega), List.take_of_length_le (by rw [List.length_drop]; omega)]
  · have e1 : min i l.length = l.length := Nat.min_eq_right (by omega)
    rw [e1, List.drop_eq_nil_of_le (Nat.le_refl _), List.drop_eq_nil_of_le (show l.length ≤ i by omega), List.take_nil, List.take_nil]
theorem cutV_to (l : List V) (j : Nat) : cutV l none (some (j : Int)) = l.take j := by
  have e := cutV_nat l 0 j
  rw [List.drop_zero, Nat.sub_zero] at e
  rw [← e]
  unfold cutV
  rw [HT.sIx_nat, HT.sIx_nat, HT.sIx_none, Nat.zero_min]
theorem cutV_from (l : List V) (i : Nat) : cutV l (some (i : Int)) none = l.drop i := by
  have e := cutV_nat l i l.length
  rw [List.take_of_length_le (by rw [List.length_drop]; omega)] at e
  rw [← e]
  unfold cutV
  rw [HT.sIx_nat, HT.sIx_nat, HT.sIx_none, Nat.min_self]
theorem line_big : 16777216 ≤ sizeLine := by rw [sizeLine_eq]; exact Nat.le_refl _
theorem le_line {n : Nat} (h : n ≤ 16777216) : n ≤ sizeLine := Nat.le_trans h line_big
theorem lt_line {n : Nat} (h : n < 16777216) : n < sizeLine := Nat.lt_of_lt_of_le h line_big
/-! ### heaps -/
theorem same_up {H H' : Hp} {p : Addr} {o : HO} (e : Same H H') (h : H' p = none) : Same H (upd H' p o) := fun b u q => by
  rw [upd_ne (ne_of_none (e b u q) h)]
  exact e b u q
/-- a thing of one's own, made after H, is written -/
theorem same_set {H H' : Hp} {p : Addr} {o : HO} (e : Same H H') (h : H p = none) : Same H (upd H' p o) := fun b u q => by
  rw [upd_ne (ne_of_none q h)]
  exact e b u q
theorem up_at {H : Hp} {p q : Addr} {o u : HO} (h : H p = some o) (hq : H q = none) : upd H q u p = some o := by
  rw [upd_ne (ne_of_none h hq)]
  exact h
theorem map_at {α : Type} {f : α → V} {l : List α} {i : Nat} {y : V} (h : (l.map f)[i]? = some y) : ∃ z, l[i]? = some z ∧ y = f z := by
  rw [List.getElem?_map] at h
  cases e : l[i]? with
  | none => rw [e] at h; cases h
  | some z => rw [e] at h; exact ⟨z, rfl, (Option.some.inj h).symm⟩
theorem take_snoc {α : Type} {l : List α} {i : Nat} {x : α} (h : l[i]? = some x) : l.take (i + 1) = l.take i ++ [x] := by
  rw [List.take_add_one, h]
  rfl
theorem yes {c : Bool} {A B : Prop} (hc : c = true) (h : A) : if c = true then A else B := by
  rw [if_pos hc]
  exact h
theorem no {c : Bool} {A B : Prop} (hc : c = false) (h : B) : if c = true then A else B := by
  rw [hc, if_neg Bool.false_ne_true]
  exact h
/-- both ways of a test -/
theorem both {c : Bool} {A B : Prop} (h1 : c = true → A) (h2 : c = false → B) : if c = true then A else B := by
  cases c with
  | true => exact yes rfl (h1 rfl)
  | false => exact no rfl (h2 rfl)
theorem atI_at {α : Type} {xs : List α} {z : Int} {v : α} (h0 : 0 ≤ z) (h : xs[z.toNat]? = some v) : atI xs z = some v := by
  have e : z = ((z.toNat : Nat) : Int) := by omega
  rw [e]
  exact atI_nat h
theorem pm (k : Nat) (h : 0 < k := by decide) : (0 : Int) < (k : Int) := Int.natCast_pos.mpr h
abbrev tCut := Evl.tCut
theorem pss_cut {X : Cx} {st : Stmt} {rest : List Stmt} {t u : TS} (h1 : PS X st t) (h2 : PSs X rest u) : PSs X (st :: rest) (tCut t u) := Evl.pss_cut h1 h2
/-- a comprehension over a range whose element keeps what is tracked -/
theorem lcR {te : TE} {vs : List Nat} {σ : L2.St} {H1 : Hp} {n : Nat} {Qd : Hp → Prop} {j : Nat} {D : Addr} (hD : H1 D = none) (P : Nat → V → Prop) (hn : n ≤ 1000000) (hw : ∀ x, wipe ((wipe σ vs).set j (some x)) vs = wipe σ vs)
    (he : ∀ (i : Nat) (H' : Hp) (Q' : VK), i < n → Same H1 H' → (∀ v H'', P i v → Same H' H'' → Q' v H'') → te ((wipe σ vs).set j (some (.int (i : Int)))) H' Q')
    (k : ∀ H' ys, Same H1 H' → H' D = some (.lst ys) → ys.length = n → (∀ (i : Nat) v, ys[i]? = some v → P i v) → Qd H') :
    ∃ W : Nat → Nat → Hp → Prop, (∃ m, W 0 m (upd H1 D (.lst []))) ∧ ∀ i m H, W i m H →
      ((Itr 0 n).stop i H ∧ Qd H) ∨ ((Itr 0 n).go i H ∧ ∃ Nx : Hp → Prop, (∀ H', Nx H' → ∃ m', m' < m ∧ W (i + 1) m' H') ∧ ∀ x H', (Itr 0 n).yld i H x H' → gName j x (wipe σ vs) H' fun σ2 H2 => wipe σ2 vs = wipe σ vs ∧ tYes σ2 H2 fun b H3 =>
        if b = true then te σ2 H3 fun y H4 => ∃ acc, H4 D = some (.lst acc) ∧ acc.length < sizeLine ∧ Nx (upd H4 D (.lst (acc ++ [y]))) else Nx H3) := by
  refine lc_range (lo := 0) (n := n) (fun i H' => ∃ ys : List V, Same H1 H' ∧ H' D = some (.lst ys) ∧ ys.length = i ∧ ∀ (i : Nat) v, ys[i]? = some v → P i v) ⟨[], same_up (Same.refl H1) hD, upd_same, rfl, fun i v h => absurd h (by simp)⟩ ?_ ?_
  · rintro i H' hi ⟨ys, e, hy, hl, hp⟩
    have e0 : (0 : Int) + (i : Int) = (i : Int) := Int.zero_add _
    refine ⟨hw _, ?_⟩
    show te ((wipe σ vs).set j (some (.int (0 + (i : Int))))) H' _
    rw [e0]
    refine he i H' _ hi e fun v H'' pv e2 => ⟨ys, e2 D _ hy, lt_line (by omega), ys ++ [v], same_set (e.trans e2) hD, upd_same, by rw [List.length_append]; show ys.length + 1 = _; omega, fun k u hk => ?_⟩
    by_cases hlt : k < ys.length
    · rw [List.getElem?_append_left hlt] at hk
      exact hp k u hk
    · rw [List.getElem?_append_right (by omega)] at hk
      have ek : k - ys.length = 0 := by
        cases q : k - ys.length with
        | zero => rfl
        | succ m => rw [q] at hk; simp at hk
      rw [ek] at hk
      have eu : v = u := Option.some.inj hk
      rw [← eu, show k = i by omega]
      exact pv
  · rintro H' ⟨ys, e, hy, hl, hp⟩
    exact k H' ys e hy hl hp
/-- .. over a list -/
theorem lcL {K : PySem.W.Frag} {a : Addr} {xs : List V} {te : TE} {vs : List Nat} {σ : L2.St} {H1 : Hp} {Qd : Hp → Prop} {j : Nat} {D : Addr} (hD : H1 D = none) (P : Nat → V → Prop) (hs : SqL K H1 a xs) (hn : xs.length ≤ 1000000) (hw : ∀ x, wipe ((wipe σ vs).set j (some x)) vs = wipe σ vs)
    (he : ∀ (i : Nat) (x : V) (H' : Hp) (Q' : VK), xs[i]? = some x → Same H1 H' → (∀ v H'', P i v → Same H' H'' → Q' v H'') → te ((wipe σ vs).set j (some x)) H' Q')
    (k : ∀ H' ys, Same H1 H' → H' D = some (.lst ys) → ys.length = xs.length → (∀ (i : Nat) v, ys[i]? = some v → P i v) → Qd H') :
    ∃ W : Nat → Nat → Hp → Prop, (∃ m, W 0 m (upd H1 D (.lst []))) ∧ ∀ i m H, W i m H →
      ((Itl K a).stop i H ∧ Qd H) ∨ ((Itl K a).go i H ∧ ∃ Nx : Hp → Prop, (∀ H', Nx H' → ∃ m', m' < m ∧ W (i + 1) m' H') ∧ ∀ x H', (Itl K a).yld i H x H' → gName j x (wipe σ vs) H' fun σ2 H2 => wipe σ2 vs = wipe σ vs ∧ tYes σ2 H2 fun b H3 =>
        if b = true then te σ2 H3 fun y H4 => ∃ acc, H4 D = some (.lst acc) ∧ acc.length < sizeLine ∧ Nx (upd H4 D (.lst (acc ++ [y]))) else Nx H3) := by
  refine lc_list (xs := xs) (fun i H' => ∃ ys : List V, Same H1 H' ∧ H' D = some (.lst ys) ∧ ys.length = i ∧ ∀ (i : Nat) v, ys[i]? = some v → P i v) ⟨[], same_up (Same.refl H1) hD, upd_same, rfl, fun i v h => absurd h (by simp)⟩ (fun i H' _ ⟨_, e, _⟩ => e.seq hs) ?_ ?_
  · rintro i x H' hi ⟨ys, e, hy, hl, hp⟩
    have hlt0 := (List.getElem?_eq_some_iff.mp hi).1
    refine ⟨hw _, ?_⟩
    show te ((wipe σ vs).set j (some x)) H' _
    refine he i x H' _ hi e fun v H'' pv e2 => ⟨ys, e2 D _ hy, lt_line (by omega), ys ++ [v], same_set (e.trans e2) hD, upd_same, by rw [List.length_append]; show ys.length + 1 = _; omega, fun k u hk => ?_⟩
    by_cases hlt : k < ys.length
    · rw [List.getElem?_append_left hlt] at hk
      exact hp k u hk
    · rw [List.getElem?_append_right (by omega)] at hk
      have ek : k - ys.length = 0 := by
        cases q : k - ys.length with
        | zero => rfl
        | succ m => rw [q] at hk; simp at hk
      rw [ek] at hk
      have eu : v = u := Option.some.inj hk
      rw [← eu, show k = i by omega]
      exact pv
  · rintro H' ⟨ys, e, hy, hl, hp⟩
    exact k H' ys e hy hl hp
/-- a[b], the receiver wants a token -/
theorem pet_ix {X : Cx} {a b : Expr} {ta tb : TE} {pos : Pos} {r : R2} (hr : IxR X r) (ha : PET X a ta) (hb : PE X b tb) (hs : PlainIx b) : PET X (.Subscript a b pos) (tOp r ta tb) := by
  intro pins s σ H Q h0 I h
  refine Subscript_ (thn (ha pins s σ H _ h0 I h) fun v s1 ⟨x, H1, I1, r1, q1⟩ => ?_)
  refine thn (hb.run pins s1 σ H1 _ I1 q1) fun u s2 ⟨y, H2, I2, r2, q2⟩ => ?_
  exact hr a b pins s2 σ H2 x y v u Q I2 r1 r2 q2 (hs _ _)
end Pl
/-! Plainway: the mathematics of signs, parts and escapes over lists of codes. -/
namespace Pl
open PySem PySem.Spec PyProof.Rows L2
/-- the signs' codes: 32 to 126 without 37 -/
def SG : List Nat := [32, 33, 34, 35, 36, 38, 39, 40, 41, 42, 43, 44, 45, 46, 47, 48, 49, 50, 51, 52, 53, 54, 55, 56, 57, 58, 59, 60, 61, 62, 63, 64, 65, 66, 67, 68, 69, 70, 71, 72, 73, 74, 75, 76, 77, 78, 79, 80, 81, 82, 83, 84, 85, 86, 87, 88, 89, 90, 91, 92, 93, 94, 95, 96, 97, 98, 99, 100, 101, 102, 103, 104, 105, 106, 107, 108, 109, 110, 111, 112, 113, 114, 115, 116, 117, 118, 119, 120, 121, 122, 123, 124, 125, 126]
theorem SG_len : SG.length = 94 := by decide +kernel
def Asc (l : List Nat) : Prop := ∀ c ∈ l, c < 128
theorem SG_asc : Asc SG := by unfold Asc; decide +kernel
def sg (n : Nat) : Nat := SG.getD n 0
theorem sg_mem {n : Nat} (h : n < 94) : sg n ∈ SG := by
  have h2 : n < SG.length := by rw [SG_len]; exact h
  unfold sg
  rw [List.getD_eq_getElem?_getD, List.getElem?_eq_getElem h2]
  exact List.getElem_mem h2
theorem sg_at {n : Nat} (h : n < 94) : SG[n]? = some (sg n) := by
  have h2 : n < SG.length := by rw [SG_len]; exact h
  unfold sg
  rw [List.getD_eq_getElem?_getD, List.getElem?_eq_getElem h2]
  rfl
theorem sg_lt {n : Nat} (h : n < 94) : sg n < 128 := SG_asc _ (sg_mem h)
theorem Asc.nil : Asc [] := fun _ h => absurd h (by simp)
theorem Asc.cons {c : Nat} {l : List Nat} (h : c < 128) (hl : Asc l) : Asc (c :: l) := fun x hx => by
  rcases List.mem_cons.mp hx with e | e
  · rw [e]; exact h
  · exact hl x e
theorem Asc.tail {c : Nat} {l : List Nat} (h : Asc (c :: l)) : Asc l := fun x hx => h x (List.mem_cons_of_mem _ hx)
theorem Asc.head {c : Nat} {l : List Nat} (h : Asc (c :: l)) : c < 128 := h c List.mem_cons_self
theorem Asc.app {a b : List Nat} (ha : Asc a) (hb : Asc b) : Asc (a ++ b) := fun x hx => (List.mem_append.mp hx).elim (ha x) (hb x)
theorem Asc.sub {a b : List Nat} (hb : Asc b) (h : ∀ x ∈ a, x ∈ b) : Asc a := fun x hx => hb x (h x hx)
theorem Asc.take {l : List Nat} (h : Asc l) (n : Nat) : Asc (l.take n) := h.sub fun _ => List.mem_of_mem_take
theorem Asc.drop {l : List Nat} (h : Asc l) (n : Nat) : Asc (l.drop n) := h.sub fun _ => List.mem_of_mem_drop
/-! ### figures -/
def dig (c : Nat) : Bool := decide (48 ≤ c) && decide (c ≤ 57)
def two (a b : Nat) : Nat := 10 * (a - 48) + (b - 48)
theorem dig_iff {c : Nat} : dig c = true ↔ 48 ≤ c ∧ c ≤ 57 := by
  unfold dig
  rw [Bool.and_eq_true, decide_eq_true_eq, decide_eq_true_eq]
theorem uni_dig : ∀ c, c < 128 → Unicode.isDigit c = dig c := by decide +kernel
theorem int_two0 : ∀ a, a < 10 → ∀ b, b < 10 → PySem.intText? (S [48 + a, 48 + b]) = some ((10 * a + b : Nat) : Int) := by decide +kernel
theorem int_two {a b : Nat} (ha : dig a = true) (hb : dig b = true) : PySem.intText? (S [a, b]) = some ((two a b : Nat) : Int) := by
  obtain ⟨h1, h2⟩ := dig_iff.mp ha
  obtain ⟨h3, h4⟩ := dig_iff.mp hb
  have h := int_two0 (a - 48) (by omega) (b - 48) (by omega)
  rw [show 48 + (a - 48) = a by omega, show 48 + (b - 48) = b by omega] at h
  exact h
theorem two_lt {a b : Nat} (ha : dig a = true) (hb : dig b = true) : two a b < 100 := by
  obtain ⟨h1, h2⟩ := dig_iff.mp ha
  obtain ⟨h3, h4⟩ := dig_iff.mp hb
  unfold two
  omega
theorem isdigit_S {l : List Nat} (h : Asc l) : Txt.isdigit (S l) = (decide (0 < l.length) && l.all dig) := by
  unfold Txt.isdigit
  rw [S_len]
  have e : (S l).cps.all Unicode.isDigit = l.all dig := by
    show l.toArray.all Unicode.isDigit = l.all dig
    rw [List.all_toArray]
    rw [Bool.eq_iff_iff, List.all_eq_true, List.all_eq_true]
    exact ⟨fun q x hx => by rw [← uni_dig x (h x hx)]; exact q x hx, fun q x hx => by rw [uni_dig x (h x hx)]; exact q x hx⟩
  rw [e]
/-- the sign that two figures tell -/
def signOf : List Nat → Option Nat
  | [a, b] => if dig a && dig b && decide (two a b ≤ 93) then some (sg (two a b)) else none
  | _ => none
theorem signOf_pair (a b : Nat) : signOf [a, b] = if (dig a && dig b && decide (two a b ≤ 93)) = true then some (sg (two a b)) else none := rfl
/-- the name that a part tells, from the left -/
def readL : List Nat → Option (List Nat)
  | [] => some []
  | c :: r => if c = 126 then (match signOf (r.take 2) with
      | some z => (readL (r.drop 2)).map (z :: ·)
      | none => none) else (readL r).map (c :: ·)
termination_by l => l.length
decreasing_by
  · rw [List.length_drop, List.length_cons]; omega
  · rw [List.length_cons]; omega
theorem readL_nil : readL [] = some [] := by rw [readL]
theorem readL_esc {r : List Nat} {z : Nat} (h : signOf (r.take 2) = some z) : readL (126 :: r) = (readL (r.drop 2)).map (z :: ·) := by
  rw [readL, if_pos rfl, h]
theorem readL_bad {r : List Nat} (h : signOf (r.take 2) = none) : readL (126 :: r) = none := by
  rw [readL, if_pos rfl, h]
theorem readL_plain {c : Nat} {r : List Nat} (h : c ≠ 126) : readL (c :: r) = (readL r).map (c :: ·) := by
  rw [readL, if_neg h]
theorem signOf_two {p : List Nat} {z : Nat} (h : signOf p = some z) : ∃ a b, p = [a, b] ∧ dig a = true ∧ dig b = true ∧ two a b ≤ 93 ∧ z = sg (two a b) := by
  match p, h with
  | [a, b], h =>
    rw [signOf_pair] at h
    by_cases q : (dig a && dig b && decide (two a b ≤ 93)) = true
    · rw [if_pos q] at h
      rw [Bool.and_eq_true, Bool.and_eq_true, decide_eq_true_eq] at q
      exact ⟨a, b, rfl, q.1.1, q.1.2, q.2, (Option.some.inj h).symm⟩
    · rw [if_neg q] at h
      cases h
theorem readL_len : ∀ (n : Nat) (l r : List Nat), l.length ≤ n → readL l = some r → r.length ≤ l.length
  | _, [], r, _, h => by rw [readL_nil] at h; rw [← Option.some.inj h]; exact Nat.le_refl _
  | 0, c :: l, r, hn, _ => absurd hn (by rw [List.length_cons]; omega)
  | n + 1, c :: l, r, hn, h => by
    rw [List.length_cons] at hn ⊢
    by_cases hc : c = 126
    · subst hc
      cases q : signOf (l.take 2) with
      | none => rw [readL_bad q] at h; cases h
      | some z =>
        rw [readL_esc q] at h
        obtain ⟨t, ht, e⟩ := Option.map_eq_some_iff.mp h
        have i := readL_len n (l.drop 2) t (by rw [List.length_drop]; omega) ht
        rw [List.length_drop] at i
        rw [← e, List.length_cons]
        omega
    · rw [readL_plain hc] at h
      obtain ⟨t, ht, e⟩ := Option.map_eq_some_iff.mp h
      have i := readL_len n l t (by omega) ht
      rw [← e, List.length_cons]
      omega
theorem readL_asc : ∀ (n : Nat) (l r : List Nat), l.length ≤ n → Asc l → readL l = some r → Asc r
  | _, [], r, _, _, h => by rw [readL_nil] at h; rw [← Option.some.inj h]; exact Asc.nil
  | 0, c :: l, r, hn, _, _ => absurd hn (by rw [List.length_cons]; omega)
  | n + 1, c :: l, r, hn, ha, h => by
    rw [List.length_cons] at hn
    by_cases hc : c = 126
    · subst hc
      cases q : signOf (l.take 2) with
      | none => rw [readL_bad q] at h; cases h
      | some z =>
        rw [readL_esc q] at h
        obtain ⟨t, ht, e⟩ := Option.map_eq_some_iff.mp h
        obtain ⟨a, b, _, _, _, h93, ez⟩ := signOf_two q
        rw [← e, ez]
        exact Asc.cons (sg_lt (by omega)) (readL_asc n (l.drop 2) t (by rw [List.length_drop]; omega) (ha.tail.drop 2) ht)
    · rw [readL_plain hc] at h
      obtain ⟨t, ht, e⟩ := Option.map_eq_some_iff.mp h
      rw [← e]
      exact Asc.cons ha.head (readL_asc n l t (by omega) ha.tail ht)
/-! ### cut at one sign -/
def cut (s : Nat) : List Nat → List (List Nat)
  | [] => [[]]
  | c :: r => if c = s then [] :: cut s r else ((cut s r).headD [] |> fun h => (c :: h) :: (cut s r).tail)
theorem cut_nil (s : Nat) : cut s [] = [[]] := rfl
theorem cut_hit (s : Nat) (r : List Nat) : cut s (s :: r) = [] :: cut s r := by
  show (if s = s then [] :: cut s r else _) = _
  rw [if_pos rfl]
theorem cut_ne (s : Nat) : ∀ l, ∃ h t, cut s l = h :: t
  | [] => ⟨[], [], rfl⟩
  | c :: r => by
    unfold cut
    by_cases e : c = s
    · rw [if_pos e]; exact ⟨_, _, rfl⟩
    · rw [if_neg e]; exact ⟨_, _, rfl⟩
theorem cut_miss {s c : Nat} {r h : List Nat} {t : List (List Nat)} (hc : c ≠ s) (e : cut s r = h :: t) : cut s (c :: r) = (c :: h) :: t := by
  show (if c = s then _ else ((c :: (cut s r).headD []) :: (cut s r).tail)) = _
  rw [if_neg hc, e]
  rfl
/-- the layer's split by one sign is this -/
theorem spl_cut (s : Nat) : ∀ (l acc h : List Nat) (t : List (List Nat)), cut s l = h :: t → TL.spl [s] 0 acc l = (acc ++ h) :: t
  | [], acc, h, t, e => by
    rw [cut_nil] at e
    cases e
    rw [TL.spl_nil, List.append_nil]
  | c :: r, acc, h, t, e => by
    by_cases hc : c = s
    · subst hc
      rw [cut_hit] at e
      cases e
      have hp : TL.pre [c] (c :: r) = true := by
        unfold TL.pre
        exact beq_self_eq_true _
      rw [TL.spl_hit hp]
      obtain ⟨h', t', e'⟩ := cut_ne c r
      rw [show ([c] : List Nat).length - 1 = 0 from rfl, spl_cut c r [] h' t' e', e', List.nil_append, List.append_nil]
    · obtain ⟨h', t', e'⟩ := cut_ne s r
      rw [cut_miss hc e'] at e
      cases e
      have hp : TL.pre [s] (c :: r) = false := by
        unfold TL.pre
        exact beq_eq_false_iff_ne.mpr fun q => hc (List.cons.inj q).1
      rw [TL.spl_miss hp, spl_cut s r (acc ++ [c]) h' _ e', List.append_assoc]
      rfl
theorem split_cut {l : List Nat} {s : Nat} (hs : s < 256) : Txt.split (S l) (S [s]) = (cut s l).map S := by
  have h1 := TL.split_spl (S l) (S [s]) (by rw [TL.tl_mk]; exact List.cons_ne_nil _ _) (TL.kind_ok (by
    show ([s].toArray).all (· < 256) = true
    rw [List.all_toArray, List.all_eq_true]
    intro x hx
    rw [List.mem_singleton.mp hx]
    exact decide_eq_true hs))
  obtain ⟨h, t, e⟩ := cut_ne s l
  rw [TL.tl_mk, TL.tl_mk, spl_cut s l [] h t e, List.nil_append, ← e] at h1
  refine TL.map_tl_inj ?_
  rw [h1, List.map_map]
  have e2 : (TL.tl ∘ S) = id := by funext x; rfl
  rw [e2, List.map_id]
theorem cut_mem {s : Nat} : ∀ (l : List Nat) (p : List Nat), p ∈ cut s l → (∀ c ∈ p, c ∈ l) ∧ p.length ≤ l.length
  | [], p, h => by
    rw [cut_nil] at h
    rw [List.mem_singleton.mp h]
    exact ⟨fun c hc => absurd hc (by simp), Nat.le_refl _⟩
  | c :: r, p, h => by
    by_cases hc : c = s
    · subst hc
      rw [cut_hit] at h
      rcases List.mem_cons.mp h with e | e
      · rw [e]
        exact ⟨fun c hc => absurd hc (by simp), Nat.zero_le _⟩
      · obtain ⟨h1, h2⟩ := cut_mem r p e
        exact ⟨fun x hx => List.mem_cons_of_mem _ (h1 x hx), Nat.le_succ_of_le h2⟩
    · obtain ⟨h', t', e'⟩ := cut_ne s r
      rw [cut_miss hc e'] at h
      rcases List.mem_cons.mp h with e | e
      · obtain ⟨h1, h2⟩ := cut_mem r h' (by rw [e']; exact List.mem_cons_self)
        rw [e]
        refine ⟨fun x hx => ?_, Nat.succ_le_succ h2⟩
        rcases List.mem_cons.mp hx with q | q
        · rw [q]; exact List.mem_cons_self
        · exact List.mem_cons_of_mem _ (h1 x q)
      · obtain ⟨h1, h2⟩ := cut_mem r p (by rw [e']; exact List.mem_cons_of_mem _ e)
        exact ⟨fun x hx => List.mem_cons_of_mem _ (h1 x hx), Nat.le_succ_of_le h2⟩
theorem cut_free {s : Nat} : ∀ (l : List Nat) (p : List Nat), p ∈ cut s l → s ∉ p
  | [], p, h => by
    rw [cut_nil] at h
    rw [List.mem_singleton.mp h]
    simp
  | c :: r, p, h => by
    by_cases hc : c = s
    · subst hc
      rw [cut_hit] at h
      rcases List.mem_cons.mp h with e | e
      · rw [e]; simp
      · exact cut_free r p e
    · obtain ⟨h', t', e'⟩ := cut_ne s r
      rw [cut_miss hc e'] at h
      rcases List.mem_cons.mp h with e | e
      · rw [e]
        intro q
        rcases List.mem_cons.mp q with z | z
        · exact hc z.symm
        · exact cut_free r h' (by rw [e']; exact List.mem_cons_self) z
      · exact cut_free r p (by rw [e']; exact List.mem_cons_of_mem _ e)
theorem cut_count {s : Nat} : ∀ l : List Nat, (cut s l).length ≤ l.length + 1
  | [] => Nat.le_refl _
  | c :: r => by
    by_cases hc : c = s
    · subst hc
      rw [cut_hit, List.length_cons, List.length_cons]
      have := cut_count (s := c) r
      omega
    · obtain ⟨h', t', e'⟩ := cut_ne s r
      rw [cut_miss hc e']
      have := cut_count (s := s) r
      rw [e'] at this
      rw [List.length_cons] at this ⊢
      rw [List.length_cons]
      omega
/-- what the pieces behind the first tilde tell -/
def restL : List (List Nat) → Option (List Nat)
  | [] => some []
  | p :: ps => match signOf (p.take 2) with
    | some z => (restL ps).map fun t => z :: (p.drop 2 ++ t)
    | none => none
theorem restL_good {p : List Nat} {ps : List (List Nat)} {z : Nat} (h : signOf (p.take 2) = some z) : restL (p :: ps) = (restL ps).map fun t => z :: (p.drop 2 ++ t) := by
  show (match signOf (p.take 2) with | some z => _ | none => none) = _
  rw [h]
theorem restL_bad {p : List Nat} {ps : List (List Nat)} (h : signOf (p.take 2) = none) : restL (p :: ps) = none := by
  show (match signOf (p.take 2) with | some z => _ | none => none) = _
  rw [h]
theorem signOf_free {p : List Nat} {z : Nat} (h : signOf p = some z) : 126 ∉ p := by
  obtain ⟨a, b, e, h1, h2, _, _⟩ := signOf_two h
  obtain ⟨q1, q2⟩ := dig_iff.mp h1
  obtain ⟨q3, q4⟩ := dig_iff.mp h2
  rw [e]
  simp only [List.mem_cons, List.not_mem_nil, or_false, not_or]
  omega
theorem read_cut : ∀ (n : Nat) (l h : List Nat) (t : List (List Nat)), l.length ≤ n → cut 126 l = h :: t → readL l = (restL t).map (h ++ ·)
  | _, [], h, t, _, e => by
    rw [cut_nil] at e
    cases e
    rw [readL_nil]
    rfl
  | 0, c :: l, h, t, hn, _ => absurd hn (by rw [List.length_cons]; omega)
  | n + 1, c :: l, h, t, hn, e => by
    rw [List.length_cons] at hn
    by_cases hc : c = 126
    · subst hc
      rw [cut_hit] at e
      cases e
      obtain ⟨h', t', e'⟩ := cut_ne 126 l
      have key : ∀ z, signOf (l.take 2) = some z → signOf (h'.take 2) = some z ∧ cut 126 (l.drop 2) = h'.drop 2 :: t' := fun z q => by
        obtain ⟨a, b, e1, h1, h2, _, _⟩ := signOf_two q
        obtain ⟨q1, q2⟩ := dig_iff.mp h1
        obtain ⟨q3, q4⟩ := dig_iff.mp h2
        match l, e1, e' with
        | x :: y :: l', e1, e' =>
          have e2 : [x, y] = [a, b] := e1
          cases e2
          obtain ⟨h2, t2, e2⟩ := cut_ne 126 l'
          rw [cut_miss (show a ≠ 126 by omega) (cut_miss (show b ≠ 126 by omega) e2)] at e'
          cases e'
          exact ⟨q, e2⟩
      have back : signOf (l.take 2) = none → signOf (h'.take 2) = none := fun q => by
        cases q2 : signOf (h'.take 2) with
        | none => rfl
        | some z =>
          exfalso
          obtain ⟨a, b, e1, h1, h2, _, _⟩ := signOf_two q2
          match l, e' with
          | [], e' => rw [cut_nil] at e'; cases e'; cases e1
          | x :: l', e' =>
            by_cases hx : x = 126
            · subst hx; rw [cut_hit] at e'; cases e'; cases e1
            · obtain ⟨h2', t2, e2⟩ := cut_ne 126 l'
              rw [cut_miss hx e2] at e'
              cases e'
              match l', e2 with
              | [], e2 => rw [cut_nil] at e2; cases e2; cases e1
              | y :: l'', e2 =>
                by_cases hy : y = 126
                · subst hy; rw [cut_hit] at e2; cases e2; cases e1
                · obtain ⟨h3, t3, e3⟩ := cut_ne 126 l''
                  rw [cut_miss hy e3] at e2
                  cases e2
                  have e4 : [x, y] = [a, b] := e1
                  cases e4
                  have q' : signOf [a, b] = none := q
                  have q2' : signOf [a, b] = some z := q2
                  rw [q'] at q2'
                  cases q2'
      rw [e']
      cases q : signOf (l.take 2) with
      | none =>
        rw [readL_bad q, restL_bad (back q)]
        rfl
      | some z =>
        obtain ⟨k1, k2⟩ := key z q
        rw [readL_esc q, read_cut n (l.drop 2) _ _ (by rw [List.length_drop]; omega) k2]
        rw [restL_good k1]
        cases restL t' <;> rfl
    · obtain ⟨h', t', e'⟩ := cut_ne 126 l
      rw [cut_miss hc e'] at e
      cases e
      rw [readL_plain hc, read_cut n l h' _ (by omega) e']
      generalize restL _ = o
      cases o <;> rfl
end Pl
namespace Pl
open PySem PySem.Spec PyProof.Rows L2
theorem restL_none : ∀ {t : List (List Nat)} {i : Nat} {p : List Nat}, t[i]? = some p → signOf (p.take 2) = none → restL t = none
  | [], i, p, h, _ => by simp at h
  | a :: t, 0, p, h, e => by
    have q : a = p := Option.some.inj h
    rw [q]
    exact restL_bad e
  | a :: t, i + 1, p, h, e => by
    have ih := restL_none (t := t) (i := i) (p := p) h e
    cases q : signOf (a.take 2) with
    | none => exact restL_bad q
    | some z => rw [restL_good q, ih]; rfl
theorem restL_snoc : ∀ {t : List (List Nat)} {T p : List Nat} {z : Nat}, restL t = some T → signOf (p.take 2) = some z → restL (t ++ [p]) = some (T ++ (z :: p.drop 2))
  | [], T, p, z, h, e => by
    have q : ([] : List Nat) = T := Option.some.inj h
    rw [← q]
    show restL [p] = _
    rw [restL_good e]
    show some (z :: (p.drop 2 ++ [])) = _
    rw [List.append_nil]
    rfl
  | a :: t, T, p, z, h, e => by
    cases q : signOf (a.take 2) with
    | none => rw [restL_bad q] at h; cases h
    | some y =>
      rw [restL_good q] at h
      obtain ⟨T', h', e'⟩ := Option.map_eq_some_iff.mp h
      show restL (a :: (t ++ [p])) = _
      rw [restL_good q, restL_snoc h' e, ← e']
      show some (y :: (a.drop 2 ++ (T' ++ z :: p.drop 2))) = some ((y :: (a.drop 2 ++ T')) ++ z :: p.drop 2)
      rw [List.cons_append, List.append_assoc]
theorem joinL_nil : ∀ ps : List (List Nat), TL.joinL [] ps = ps.flatten
  | [] => rfl
  | [p] => by show p = _; rw [List.flatten_cons, List.flatten_nil, List.append_nil]
  | p :: q :: r => by
    show p ++ ([] ++ TL.joinL [] (q :: r)) = _
    rw [joinL_nil (q :: r), List.nil_append]
    rfl
theorem join_S (s : List Nat) (ps : List (List Nat)) : Txt.join (S s) (ps.map S) = S (TL.joinL s ps) := by
  refine TL.ext_tl ?_
  rw [TL.join_eq, TL.tl_join, TL.tl_mk, TL.tl_mk, List.map_map]
  have e2 : (TL.tl ∘ S) = id := by funext x; rfl
  rw [e2, List.map_id]
theorem sum_len_S (ps : List (List Nat)) : ((ps.map S).map (·.length)).sum = ps.flatten.length := by
  rw [List.length_flatten, List.map_map]
  exact congrArg List.sum (List.map_congr_left fun x _ => S_len x)
theorem mapV_S (ps : List (List Nat)) : (ps.map S).map V.str = ps.map fun l => V.str (S l) := by
  rw [List.map_map]
  rfl
end Pl
namespace Pl
open PySem PySem.Spec PyProof.Rows L2
/-! ### _sign_of -/
def sp_sign_of (c : Ad) : Sp := fun vs H Q E => ∃ p : List Nat, vs = [.str (S p)] ∧ Asc p ∧ p.length ≤ 2 ∧ (∀ z, signOf p = some z → Q (.str (S [z])) H) ∧ (signOf p = none → E (.ref c.cBad) none H)
def t_sign_of (c : Ad) (E : XK) : TS :=
  tSeq (tIfS (tOr (tTest (tOp (rLtI) (tCB rLenT (tCons (tVar 0) (tNil))) (tC (.int 2)))) (tNot (tB (tBM0 c.K "str" rIsdigit (tVar 0)))))
    (tRaiseX c.cBad (tCons (tFS [tC (.str "no two figures behind a tilde: "), tFmtR (tVar 0)]) (tNil)) E)
    (tNext))
    (tSeq (tAsg (tCB rIntT (tCons (tVar 0) (tNil))) (gName 1))
    (tSeq (tIfS (tTest (tOp (rGeI) (tVar 1) (tCB rLenT (tCons (tC (.str " !\"#$&'()*+,-./0123456789:;<=>?@ABCDEFGHIJKLMNOPQRSTUVWXYZ[\\]^_`abcdefghijklmnopqrstuvwxyz{|}~")) (tNil)))))
    (tRaiseX c.cBad (tCons (tFS [tC (.str "no sign has the number "), tFmt (tVar 0)]) (tNil)) E)
    (tNext))
    (tRet (tOp rIxS (tC (.str " !\"#$&'()*+,-./0123456789:;<=>?@ABCDEFGHIJKLMNOPQRSTUVWXYZ[\\]^_`abcdefghijklmnopqrstuvwxyz{|}~")) (tVar 1)))))
abbrev N_sign_of : List Str := ["figures", "number"]

theorem len_sign_of {c : Ad} {vs H Q E} (h : sp_sign_of c vs H Q E) : vs.length = 1 := by
  obtain ⟨p, rfl, _⟩ := h
  rfl
theorem lit_signs : (" !\"#$&'()*+,-./0123456789:;<=>?@ABCDEFGHIJKLMNOPQRSTUVWXYZ[\\]^_`abcdefghijklmnopqrstuvwxyz{|}~" : Str) = S SG := by decide +kernel
theorem lit_m1 : ("no two figures behind a tilde: " : Str).length = 31 := by decide +kernel
theorem lit_m2 : ("no sign has the number " : Str).length = 23 := by decide +kernel
theorem app_len (x y : Str) : (x ++ y).length = x.length + y.length := by rw [TL.len_tl, TL.len_tl, TL.len_tl, TL.tl_append, List.length_append]
theorem repr_small {p : List Nat} (hp : Asc p) : (reprText (S p)).length ≤ 10 * p.length + 2 := by
  have h := StrLaws.reprText_len (S p) fun x hx => Nat.lt_trans (hp x hx) (by decide)
  rwa [S_len] at h
theorem pure_sign_of {c : Ad} {vs H Q E} (h : sp_sign_of c vs H Q E) : t_sign_of c E { nx := fun _ H' => Q .non H', rt := Q } (start N_sign_of vs) H := by
  obtain ⟨p, rfl, ha, hl, kS, kN⟩ := h
  have hz : (S p).length ≤ sizeLine := by rw [S_len]; exact le_line (by omega)
  refine ⟨_, rfl, _, rfl, hz, _, _, rfl, rfl, _, rfl, ?_⟩
  have raise1 : signOf p = none → ∀ D : Ends, tRaiseX c.cBad (tCons (tFS [tC (.str "no two figures behind a tilde: "), tFmtR (tVar 0)]) tNil) E D [some (.str (S p)), none] H := fun hn D => by
    have hr := repr_small ha
    refine ⟨_, rfl, by rw [app_len, lit_m1]; exact le_line (by decide), _, rfl, Or.inl ⟨_, rfl, le_line (by omega), _, rfl, ?_, by show 1 ≤ sizeLine; exact le_line (by decide), kN hn⟩⟩
    rw [app_len, app_len, lit_m1]
    exact le_line (by have : Str.empty.length = 0 := rfl; omega)
  have raise2 : signOf p = none → ∀ (D : Ends) (o : Option V), tRaiseX c.cBad (tCons (tFS [tC (.str "no sign has the number "), tFmt (tVar 0)]) tNil) E D [some (.str (S p)), o] H := fun hn D o => by
    refine ⟨_, rfl, by rw [app_len, lit_m2]; exact le_line (by decide), _, rfl, Or.inl ⟨_, rfl, hz, _, rfl, ?_, by show 1 ≤ sizeLine; exact le_line (by decide), kN hn⟩⟩
    rw [app_len, app_len, lit_m2]
    exact le_line (by have e0 : Str.empty.length = 0 := rfl; have e1 := S_len p; omega)
  rw [S_len]
  by_cases c1 : p.length < 2
  · refine yes (decide_eq_true (by omega)) (yes rfl (raise1 ?_ _))
    match p, c1 with
    | [], _ => rfl
    | [_], _ => rfl
  · refine no (decide_eq_false (by omega)) ?_
    match p, c1, hl with
    | [], c1, _ => exact absurd (show 0 < 2 by decide) c1
    | [_], c1, _ => exact absurd (show 1 < 2 by decide) c1
    | _ :: _ :: _ :: _, _, hl => exact absurd hl (by rw [List.length_cons, List.length_cons, List.length_cons]; omega)
    | [a, b], _, _ =>
      refine ⟨_, rfl, rfl, _, rfl, rfl, trivial, _, rfl, ?_⟩
      rw [isdigit_S ha]
      by_cases c2 : dig a = true ∧ dig b = true
      · obtain ⟨d1, d2⟩ := c2
        have e2 : (decide (0 < ([a, b] : List Nat).length) && [a, b].all dig) = true := by
          rw [List.all_cons, List.all_cons, d1, d2]
          rfl
        rw [e2]
        refine no rfl ⟨_, rfl, _, _, rfl, int_two d1 d2, by rw [S_len]; show 2 ≤ 640; decide, ?_⟩
        refine ⟨_, rfl, _, rfl, le_line (by rw [lit_signs, S_len, SG_len]; decide), _, _, rfl, rfl, _, rfl, ?_⟩
        rw [lit_signs, S_len, SG_len]
        have hs : signOf [a, b] = if (dig a && dig b && decide (two a b ≤ 93)) = true then some (sg (two a b)) else none := rfl
        rw [d1, d2] at hs
        by_cases c3 : two a b ≤ 93
        · rw [decide_eq_true c3, if_pos (by rfl)] at hs
          refine no (decide_eq_false (by omega)) ⟨_, rfl, _, _, sg (two a b), rfl, rfl, by rw [S_len, SG_len]; exact le_line (by decide), atI_nat (sg_at (by omega)), kS _ hs⟩
        · rw [decide_eq_false c3, if_neg (by decide)] at hs
          exact yes (decide_eq_true (by omega)) (raise2 hs _ _)
      · have e2 : (decide (0 < ([a, b] : List Nat).length) && [a, b].all dig) = false := by
          rw [List.all_cons, List.all_cons, List.all_nil, Bool.and_true]
          cases q1 : dig a with
          | false => rfl
          | true => cases q2 : dig b with
            | false => rfl
            | true => exact absurd ⟨q1, q2⟩ c2
        rw [e2]
        refine yes rfl (raise1 ?_ _)
        rw [signOf_pair]
        refine if_neg fun q => c2 ?_
        rw [Bool.and_eq_true, Bool.and_eq_true] at q
        exact q.1
/-! ### name_of -/
def sp_name_of (c : Ad) : Sp := fun vs H Q E => ∃ l : List Nat, vs = [.str (S l)] ∧ Asc l ∧ l.length ≤ 1000000 ∧ (∀ r, readL l = some r → ∀ H', Same H H' → Q (.str (S r)) H') ∧ (readL l = none → ∀ H', Same H H' → E (.ref c.cBad) none H')
def t_name_of (c : Ad) (E : XK) : TS :=
  tSeq (tAsg (tBM c.K "str" rSplit (tVar 0) (tCons (tC (.str "~")) (tNil))) (gName 1))
    (tSeq (tAsg (tLst (tCons (tOp (rIxL c.K) (tVar 1) (tC (.int 0))) (tNil))) (gName 2))
    (tSeq (tFor (iList c.K (tSl (rSlL c.K) (tVar 1) (tPart (tC (.int 1))) (tNoPart))) (gName 3)
    (tSeq (tDrop (tBM c.K "list" rAppend (tVar 2) (tCons (tCall (sp_sign_of c) [] E (tCons (tSl rSlS (tVar 3) (tNoPart) (tPart (tC (.int 2)))) (tNil))) (tNil))))
    (tDrop (tBM c.K "list" rAppend (tVar 2) (tCons (tSl rSlS (tVar 3) (tPart (tC (.int 2))) (tNoPart)) (tNil))))))
    (tRet (tBM c.K "str" (rJoin c.K) (tC (.str "")) (tCons (tVar 2) (tNil))))))
abbrev N_name_of : List Str := ["part", "pieces", "told", "piece"]

theorem len_name_of {c : Ad} {vs H Q E} (h : sp_name_of c vs H Q E) : vs.length = 1 := by
  obtain ⟨p, rfl, _⟩ := h
  rfl
theorem lit_tilde : ("~" : Str) = S [126] := by decide +kernel
theorem lit_none : ("" : Str) = S [] := by decide +kernel
theorem pure_name_of {c : Ad} {vs H Q E} (h : sp_name_of c vs H Q E) : t_name_of c E { nx := fun _ H' => Q .non H', rt := Q } (start N_name_of vs) H := by
  obtain ⟨l, rfl, ha, hl, kS, kN⟩ := h
  obtain ⟨h0, t, ec⟩ := cut_ne 126 l
  have er := read_cut l.length l h0 t (Nat.le_refl _) ec
  -- pieces = part.split(TILDE)
  refine ⟨_, rfl, rfl, S l, S [126], rfl, by rw [lit_tilde], by rw [S_len]; decide, by rw [S_len]; exact le_line (by omega), fun p1 hp1 => ?_⟩
  rw [split_cut (by decide), ec]
  -- told = [pieces[0]]
  refine ⟨_, rfl, p1, _, _, _, rfl, rfl, SqL.of upd_same, atI_nat (xs := ((h0 :: t).map S).map V.str) (j := 0) rfl, le_line (by show 1 ≤ 16777216; decide), fun p2 hp2 => ?_⟩
  -- for piece in pieces[1:]
  refine ⟨_, rfl, _, rfl, p1, ((h0 :: t).map S).map V.str, rfl, SqL.of (up_at upd_same hp2), fun p3 hp3 => ?_⟩
  have ed : cutV (((h0 :: t).map S).map V.str) (some 1) none = t.map fun l => V.str (S l) := by
    refine (cutV_from _ 1).trans ?_
    rw [mapV_S]
    rfl
  rw [ed]
  have f1 : H p1 = none := hp1
  have s1 : Same H (upd H p1 (.lst (((h0 :: t).map S).map V.str))) := same_up (Same.refl H) hp1
  have f2 : H p2 = none := s1.free hp2
  have s2 := same_up (o := .lst [V.str (S h0)]) s1 hp2
  have s3 := same_up (o := .lst (t.map fun l => V.str (S l))) s2 hp3
  have n32 : p2 ≠ p3 := ne_of_none (upd_same) hp3
  have hmem : ∀ p ∈ t, Asc p ∧ p.length ≤ l.length := fun p hp => by
    obtain ⟨q1, q2⟩ := cut_mem l p (by rw [ec]; exact List.mem_cons_of_mem _ hp)
    exact ⟨ha.sub q1, q2⟩
  have htl : t.length ≤ l.length := by
    have q := cut_count (s := 126) l
    rw [ec, List.length_cons] at q
    omega
  refine ⟨p3, rfl, ⟨_, SqL.of upd_same⟩, for_list (K := c.K) (a := p3) (xs := t.map fun l => V.str (S l)) (fun i σ H' => ∃ (v : Option V) (acc : List (List Nat)) (T : List Nat), σ = [some (.str (S l)), some (.ref p1), some (.ref p2), v] ∧ Same H H' ∧
    H' p3 = some (.lst (t.map fun l => V.str (S l))) ∧ H' p2 = some (.lst (acc.map fun l => V.str (S l))) ∧ acc.length = 1 + 2 * i ∧ restL (t.take i) = some T ∧ acc.flatten = h0 ++ T)
    ⟨none, [h0], [], rfl, s3, upd_same, by rw [upd_ne n32]; exact upd_same, rfl, rfl, by simp⟩ (fun i σ H' _ ⟨_, _, _, _, _, q, _⟩ => SqL.of q) ?_ ?_⟩
  · rintro i y σ H' hi ⟨v, acc, T, rfl, e1, e3, e2, e4, e5, e6⟩
    obtain ⟨p, hp, rfl⟩ := map_at hi
    have hpm := List.mem_of_getElem? hp
    obtain ⟨pa, pl⟩ := hmem p hpm
    have hil : i < t.length := (List.getElem?_eq_some_iff.mp hp).1
    refine ⟨_, rfl, Or.inl ⟨rfl, _, SqL.of e2⟩, _, rfl, _, rfl, S p, rfl, by rw [S_len]; exact le_line (by omega), ?_⟩
    refine ⟨p.take 2, by rw [show cutS (S p) none (some 2) = S (p.take 2) from cut_to p 2]; rfl, pa.take 2, by rw [List.length_take]; omega, fun z hz => ?_, fun hn => kN ?_ H' e1⟩
    · refine ⟨p2, _, _, rfl, rfl, e2, by rw [List.length_map]; exact lt_line (by omega), ?_⟩
      have n3 : p3 ≠ p2 := n32.symm
      refine ⟨_, rfl, Or.inl ⟨rfl, _, SqL.of upd_same⟩, _, rfl, _, rfl, S p, rfl, by rw [S_len]; exact le_line (by omega), p2, _, _, rfl, rfl, upd_same, by rw [List.length_append, List.length_map]; exact lt_line (by show acc.length + 1 < 16777216; omega), ?_⟩
      rw [show cutS (S p) (some 2) none = S (p.drop 2) from cut_from p 2]
      refine ⟨some (.str (S p)), acc ++ [[z], p.drop 2], T ++ (z :: p.drop 2), rfl, same_set (same_set e1 f2) f2, by rw [upd_ne n3, upd_ne n3]; exact e3, ?_, by rw [List.length_append]; show acc.length + 2 = _; omega, ?_, ?_⟩
      · rw [upd_same, List.map_append, List.append_assoc]
        rfl
      · rw [take_snoc hp]
        exact restL_snoc e5 hz
      · rw [List.flatten_append, e6, List.append_assoc]
        show h0 ++ (T ++ ([z] ++ (p.drop 2 ++ []))) = _
        rw [List.append_nil]
        rfl
    · rw [er, restL_none hp hn]
      rfl
  · rintro σ H' ⟨v, acc, T, rfl, e1, e3, e2, e4, e5, e6⟩
    rw [List.length_map, List.take_length] at e5
    rw [List.length_map] at e4
    have eR : readL l = some (h0 ++ T) := by
      rw [er, e5]
      rfl
    have hR := readL_len _ l _ (Nat.le_refl _) eR
    refine ⟨rfl, _, rfl, S [], p2, acc.map S, by rw [lit_none], rfl, Or.inl (SqL.of (by rw [e2, mapV_S])), ?_, ?_⟩
    · rw [sum_len_S, e6, S_len, List.length_map]
      show (h0 ++ T).length + acc.length * 0 ≤ _
      omega
    · rw [join_S, joinL_nil, e6]
      exact kS _ eR H' e1
/-! ### _law_of -/
def cell (ns : List Int) (k : Nat) : Int := ns.getD k 0
def sp_law_of (c : Ad) : Sp := fun vs H Q _ => ∃ (a : Addr) (ns : List Int) (k : Nat), vs = [.ref a, .int (k : Int)] ∧ SqL c.K H a (ns.map V.int) ∧ ns.length ≤ 63 ∧ ∀ H', Same H H' → Q (.int (cell ns k)) H'
def t_law_of (c : Ad) : TS :=
  tRet (tOp (rIxL c.K) (tOp rCat (tSl (rSlL c.K) (tVar 0) (tPart (tVar 1)) (tPart (tOp rAddI (tVar 1) (tC (.int 1))))) (tLst (tCons (tC (.int 0)) (tNil)))) (tC (.int 0)))
abbrev N_law_of : List Str := ["_law_script", "_law_k"]

theorem len_law_of {c : Ad} {vs H Q E} (h : sp_law_of c vs H Q E) : vs.length = 2 := by
  obtain ⟨_, _, _, rfl, _⟩ := h
  rfl
theorem cell_cut (ns : List Int) (k : Nat) : (((ns.map V.int).drop k).take 1 ++ [V.int 0])[0]? = some (V.int (cell ns k)) := by
  unfold cell
  rw [List.getD_eq_getElem?_getD]
  by_cases h : k < ns.length
  · rw [← List.map_drop, ← List.map_take, List.drop_eq_getElem_cons h, List.getElem?_eq_getElem h]
    rfl
  · rw [List.drop_eq_nil_of_le (by rw [List.length_map]; omega), List.getElem?_eq_none (show ns.length ≤ k by omega)]
    rfl
theorem pure_law_of {c : Ad} {vs H Q E} (h : sp_law_of c vs H Q E) : t_law_of c { nx := fun _ H' => Q .non H', rt := Q } (start N_law_of vs) H := by
  obtain ⟨a, ns, k, rfl, hs, hl, kk⟩ := h
  refine ⟨_, rfl, _, rfl, _, rfl, _, rfl, _, _, rfl, rfl, _, rfl, a, _, rfl, hs, fun p hp => ?_⟩
  have ec : cutV (ns.map V.int) (some (k : Int)) (some ((k : Int) + 1)) = ((ns.map V.int).drop k).take 1 := by
    refine (cutV_nat _ k (k + 1)).trans ?_
    rw [Nat.add_sub_cancel_left]
  rw [ec]
  have hz : (((ns.map V.int).drop k).take 1).length ≤ 1 := by rw [List.length_take]; omega
  refine ⟨by show 1 ≤ sizeLine; exact le_line (by decide), fun p2 hp2 => ⟨p, p2, _, _, rfl, rfl, up_at upd_same hp2, upd_same, ?_, fun p3 hp3 => ?_⟩⟩
  · exact le_line (by show _ + 1 ≤ 16777216; omega)
  · refine ⟨p3, _, 0, _, rfl, rfl, SqL.of upd_same, atI_nat (j := 0) (cell_cut ns k), kk _ ?_⟩
    exact same_up (same_up (same_up (Same.refl H) hp) hp2) hp3
/-! ### _law_signs -/
def sp_law_signs (c : Ad) : Sp := fun vs H Q _ => vs = [] ∧ Q (.str (S SG)) H
def t_law_signs (c : Ad) : TS :=
  tSeq (tAsg (tOp rCatT (tOp rCatT (tC (.str " !\"#$&'()*+,-./")) (tC (.str "0123456789"))) (tC (.str ":;<=>?@"))) (gName 0))
    (tSeq (tAsg (tOp rCatT (tOp rCatT (tVar 0) (tC (.str "ABCDEFGHIJKLMNOPQRSTUVWXYZ"))) (tC (.str "[\\]^_`"))) (gName 0))
    (tRet (tOp rCatT (tOp rCatT (tVar 0) (tC (.str "abcdefghijklmnopqrstuvwxyz"))) (tC (.str "{|}~")))))
abbrev N_law_signs : List Str := ["_law_some"]

theorem len_law_signs {c : Ad} {vs H Q E} (h : sp_law_signs c vs H Q E) : vs.length = 0 := by
  obtain ⟨rfl, _⟩ := h
  rfl
theorem lit_g1 : (" !\"#$&'()*+,-./" : Str) = S (SG.take 15) := by decide +kernel
theorem lit_g2 : ("0123456789" : Str) = S [48, 49, 50, 51, 52, 53, 54, 55, 56, 57] := by decide +kernel
theorem lit_g3 : (":;<=>?@" : Str) = S [58, 59, 60, 61, 62, 63, 64] := by decide +kernel
theorem lit_g4 : ("ABCDEFGHIJKLMNOPQRSTUVWXYZ" : Str) = S ((SG.drop 32).take 26) := by decide +kernel
theorem lit_g5 : ("[\\]^_`" : Str) = S [91, 92, 93, 94, 95, 96] := by decide +kernel
theorem lit_g6 : ("abcdefghijklmnopqrstuvwxyz" : Str) = S ((SG.drop 64).take 26) := by decide +kernel
theorem lit_g7 : ("{|}~" : Str) = S [123, 124, 125, 126] := by decide +kernel
theorem S_fit {a b : List Nat} (h : a.length + b.length ≤ 16777216) : (S a).length + (S b).length ≤ sizeLine := by
  rw [S_len, S_len]
  exact le_line h
theorem pure_law_signs {c : Ad} {vs H Q E} (h : sp_law_signs c vs H Q E) : t_law_signs c { nx := fun _ H' => Q .non H', rt := Q } (start N_law_signs vs) H := by
  obtain ⟨rfl, kk⟩ := h
  refine ⟨_, _, rfl, rfl, by rw [lit_g1, lit_g2]; exact S_fit (by decide), _, _, rfl, rfl, by rw [lit_g1, lit_g2, lit_g3, S_app]; exact S_fit (by decide), ?_⟩
  refine ⟨_, rfl, _, _, rfl, rfl, by rw [lit_g1, lit_g2, lit_g3, lit_g4, S_app, S_app]; exact S_fit (by decide), _, _, rfl, rfl, by rw [lit_g1, lit_g2, lit_g3, lit_g4, lit_g5, S_app, S_app, S_app]; exact S_fit (by decide), ?_⟩
  refine ⟨_, rfl, _, _, rfl, rfl, by rw [lit_g1, lit_g2, lit_g3, lit_g4, lit_g5, lit_g6, S_app, S_app, S_app, S_app]; exact S_fit (by decide), _, _, rfl, rfl, by rw [lit_g1, lit_g2, lit_g3, lit_g4, lit_g5, lit_g6, lit_g7, S_app, S_app, S_app, S_app, S_app]; exact S_fit (by decide), ?_⟩
  show Q (.str _) H
  rw [lit_g1, lit_g2, lit_g3, lit_g4, lit_g5, lit_g6, lit_g7, S_app, S_app, S_app, S_app, S_app, S_app]
  exact kk
/-! ### _law_read -/
def oV : Option (List Nat) → V
  | none => .non
  | some l => .str (S l)
def sp_law_read (c : Ad) : Sp := fun vs H Q _ => ∃ l : List Nat, vs = [.str (S l)] ∧ Asc l ∧ l.length ≤ 1000000 ∧ Q (oV (readL l)) H
def t_law_read (c : Ad) : TS :=
  tSeq (tAsg (tC (.str "")) (gName 1))
    (tSeq (tAsg (tC (.int 0)) (gName 2))
    (tSeq (tWhile (tTest (tOp (rLtI) (tVar 2) (tCB rLenT (tCons (tVar 0) (tNil)))))
    (tIfS (tTest (tOp (rNe) (tOp rIxS (tVar 0) (tVar 2)) (tC (.str "~"))))
    (tSeq (tAsg (tOp rCatT (tVar 1) (tOp rIxS (tVar 0) (tVar 2))) (gName 1))
    (tAsg (tOp rAddI (tVar 2) (tC (.int 1))) (gName 2)))
    (tSeq (tAsg (tSl rSlS (tVar 0) (tPart (tOp rAddI (tVar 2) (tC (.int 1)))) (tPart (tOp rAddI (tVar 2) (tC (.int 3))))) (gName 3))
    (tSeq (tIfS (tOr (tTest (tOp (rLtI) (tCB rLenT (tCons (tVar 3) (tNil))) (tC (.int 2)))) (tOr (tTest (tOp (rNotInS) (tOp rIxS (tVar 3) (tC (.int 0))) (tC (.str "0123456789")))) (tTest (tOp (rNotInS) (tOp rIxS (tVar 3) (tC (.int 1))) (tC (.str "0123456789"))))))
    (tRet (tC .non))
    (tNext))
    (tSeq (tIfS (tTest (tOp (rGtI) (tCB rIntT (tCons (tVar 3) (tNil))) (tC (.int 93))))
    (tRet (tC .non))
    (tNext))
    (tSeq (tAsg (tOp rCatT (tVar 1) (tOp rIxS (tCall (sp_law_signs c) [] E0 tNil) (tCB rIntT (tCons (tVar 3) (tNil))))) (gName 1))
    (tAsg (tOp rAddI (tVar 2) (tC (.int 3))) (gName 2))))))))
    (tRet (tVar 1))))
abbrev N_law_read : List Str := ["_law_part", "_law_found", "_law_k", "_law_two"]

theorem len_law_read {c : Ad} {vs H Q E} (h : sp_law_read c vs H Q E) : vs.length = 1 := by
  obtain ⟨_, rfl, _⟩ := h
  rfl
theorem dig_mem {x : Nat} : x ∈ [48, 49, 50, 51, 52, 53, 54, 55, 56, 57] ↔ dig x = true := by
  rw [dig_iff]
  simp only [List.mem_cons, List.not_mem_nil, or_false]
  omega
theorem drop_at {l : List Nat} {k x : Nat} (h : l[k]? = some x) : l.drop k = x :: l.drop (k + 1) := by
  obtain ⟨h1, h2⟩ := List.getElem?_eq_some_iff.mp h
  rw [List.drop_eq_getElem_cons h1, h2]
theorem pure_law_read {c : Ad} {vs H Q E} (h : sp_law_read c vs H Q E) : t_law_read c { nx := fun _ H' => Q .non H', rt := Q } (start N_law_read vs) H := by
  obtain ⟨l, rfl, ha, hl, kk⟩ := h
  have hz : (S l).length ≤ sizeLine := by rw [S_len]; exact le_line (by omega)
  -- the loop: found tells the part ahead of k
  refine ⟨fun m σ H' => ∃ (k : Nat) (f : List Nat) (v : Option V), m = l.length - k ∧ k ≤ l.length ∧ f.length ≤ k ∧ readL l = (readL (l.drop k)).map (f ++ ·) ∧ σ = [some (.str (S l)), some (.str (S f)), some (.int (k : Int)), v] ∧ H' = H,
    ⟨l.length, 0, [], none, rfl, Nat.zero_le _, Nat.le_refl _, ?_, ?_, rfl⟩, ?_⟩
  · rw [List.drop_zero]
    cases readL l <;> rfl
  · rw [← lit_none]
    rfl
  · rintro m σ H' ⟨k, f, v, rfl, hk, hf, er, rfl, rfl⟩
    refine ⟨_, rfl, _, rfl, _, rfl, hz, _, _, rfl, rfl, _, rfl, ?_⟩
    rw [S_len]
    by_cases hlt : k < l.length
    · refine yes (decide_eq_true (by omega)) ?_
      have hx : l[k]? = some l[k] := List.getElem?_eq_getElem hlt
      generalize l[k] = x at hx
      have ed := drop_at hx
      have hax : x < 128 := ha x (List.mem_of_getElem? hx)
      refine ⟨fun σ' H'' => ∃ (k' : Nat) (f' : List Nat) (v' : Option V), k < k' ∧ k' ≤ l.length ∧ f'.length ≤ k' ∧ readL l = (readL (l.drop k')).map (f' ++ ·) ∧ σ' = [some (.str (S l)), some (.str (S f')), some (.int (k' : Int)), v'] ∧ H'' = H',
        fun σ' H'' ⟨k', f', v', q1, q2, q3, q4, q5, q6⟩ => ⟨l.length - k', by omega, k', f', v', rfl, q2, q3, q4, q5, q6⟩, ?_⟩
      refine ⟨_, rfl, _, rfl, _, _, x, rfl, rfl, hz, atI_nat hx, rfl, _, rfl, ?_⟩
      rw [lit_tilde, S_dec]
      by_cases hc : x = 126
      · subst hc
        refine no (by rw [decide_eq_true rfl]; rfl) ?_
        -- the two figures
        refine ⟨_, rfl, _, rfl, _, _, rfl, rfl, _, rfl, _, rfl, _, _, rfl, rfl, _, rfl, S l, rfl, hz, ?_⟩
        have e2 : cutS (S l) (some ((k : Int) + 1)) (some ((k : Int) + 3)) = S ((l.drop (k + 1)).take 2) := by
          refine (cut_nat l (k + 1) (k + 3)).trans ?_
          rw [show k + 3 - (k + 1) = 2 by omega]
        rw [e2, lit_g2]
        have h2 : ((l.drop (k + 1)).take 2).length ≤ 2 := by rw [List.length_take]; omega
        have bad : signOf ((l.drop (k + 1)).take 2) = none → readL l = none := fun q => by
          rw [er, ed, readL_bad q]
          rfl
        generalize ew : (l.drop (k + 1)).take 2 = w at h2 bad
        have hwz : (S w).length ≤ sizeLine := by rw [S_len]; exact le_line (by omega)
        refine ⟨_, rfl, _, rfl, hwz, _, _, rfl, rfl, _, rfl, ?_⟩
        rw [S_len]
        match w, h2, ew with
        | [], _, _ => exact yes (decide_eq_true (by decide)) (yes rfl (by show Q .non _; rw [bad rfl] at kk; exact kk))
        | [a], _, _ => exact yes (decide_eq_true (by show ((1 : Nat) : Int) < 2; decide)) (yes rfl (by show Q .non _; rw [bad rfl] at kk; exact kk))
        | _ :: _ :: _ :: _, h2, _ => exact absurd h2 (by rw [List.length_cons, List.length_cons, List.length_cons]; omega)
        | [a, b], _, ew =>
          refine no (decide_eq_false (by show ¬ ((2 : Nat) : Int) < 2; decide)) ?_
          have h0 : atI ([a, b] : List Nat) (0 : Int) = some a := atI_nat (j := 0) rfl
          have h1 : atI ([a, b] : List Nat) (1 : Int) = some b := atI_nat (j := 1) rfl
          refine ⟨_, rfl, _, _, a, rfl, rfl, hwz, h0, a, _, rfl, rfl, _, rfl, ?_⟩
          by_cases da : dig a = true
          · refine no (by rw [decide_eq_true (show a ∈ (S [48, 49, 50, 51, 52, 53, 54, 55, 56, 57]).cps.toList from dig_mem.mpr da)]; rfl) ?_
            refine ⟨_, rfl, _, _, b, rfl, rfl, hwz, h1, b, _, rfl, rfl, _, rfl, ?_⟩
            by_cases db : dig b = true
            · refine no (by rw [decide_eq_true (show b ∈ (S [48, 49, 50, 51, 52, 53, 54, 55, 56, 57]).cps.toList from dig_mem.mpr db)]; rfl) ?_
              refine ⟨_, rfl, _, _, rfl, int_two da db, by rw [S_len]; show 2 ≤ 640; decide, _, _, rfl, rfl, _, rfl, ?_⟩
              have hs := signOf_pair a b
              rw [da, db] at hs
              by_cases h93 : two a b ≤ 93
              · refine no (decide_eq_false (by omega)) ?_
                rw [decide_eq_true h93, if_pos (by rfl)] at hs
                refine ⟨_, rfl, rfl, _, rfl, _, _, rfl, int_two da db, by rw [S_len]; show 2 ≤ 640; decide, S SG, _, sg (two a b), rfl, rfl, by rw [S_len, SG_len]; exact le_line (by decide), atI_nat (sg_at (by omega)), ?_⟩
                have hk3 : k + 3 ≤ l.length := by
                  have q := congrArg List.length ew
                  rw [List.length_take, List.length_drop] at q
                  have q2 : min 2 (l.length - (k + 1)) = 2 := q
                  omega
                refine ⟨_, _, rfl, rfl, S_fit (by show f.length + 1 ≤ 16777216; omega), _, rfl, _, _, rfl, rfl, k + 3, f ++ [sg (two a b)], some (.str (S [a, b])), by omega, hk3, by rw [List.length_append]; show f.length + 1 ≤ k + 3; omega, ?_, ?_, rfl⟩
                · rw [er, ed, readL_esc (by rw [ew]; exact hs), List.drop_drop, show k + 1 + 2 = k + 3 by omega]
                  generalize readL (l.drop (k + 3)) = o
                  cases o with
                  | none => rfl
                  | some r =>
                    show some (f ++ (sg (two a b) :: r)) = some ((f ++ [sg (two a b)]) ++ r)
                    rw [List.append_assoc]
                    rfl
                · rw [S_app]
                  rfl
              · refine yes (decide_eq_true (by omega)) ?_
                rw [decide_eq_false h93, if_neg (by decide)] at hs
                show Q .non _
                rw [bad hs] at kk
                exact kk
            · refine yes (by rw [decide_eq_false (fun q => db (dig_mem.mp q))]; rfl) ?_
              show Q .non _
              rw [bad (by rw [signOf_pair]; exact if_neg fun q => db (by rw [Bool.and_eq_true, Bool.and_eq_true] at q; exact q.1.2))] at kk
              exact kk
          · refine yes (by rw [decide_eq_false (fun q => da (dig_mem.mp q))]; rfl) (yes rfl ?_)
            show Q .non _
            rw [bad (by rw [signOf_pair]; exact if_neg fun q => da (by rw [Bool.and_eq_true, Bool.and_eq_true] at q; exact q.1.1))] at kk
            exact kk
      · refine yes (by rw [decide_eq_false fun q => hc (List.cons.inj q).1]; rfl) ?_
        refine ⟨_, rfl, _, rfl, _, rfl, S l, _, x, rfl, rfl, hz, atI_nat hx, _, _, rfl, rfl, S_fit (by show f.length + 1 ≤ 16777216; omega), ?_⟩
        refine ⟨_, rfl, _, _, rfl, rfl, k + 1, f ++ [x], v, by omega, by omega, by rw [List.length_append]; show f.length + 1 ≤ k + 1; omega, ?_, ?_, rfl⟩
        · rw [er, ed, readL_plain hc]
          generalize readL (l.drop (k + 1)) = o
          cases o with
          | none => rfl
          | some r =>
            show some (f ++ (x :: r)) = some ((f ++ [x]) ++ r)
            rw [List.append_assoc]
            rfl
        · rw [S_app]
          rfl
    · refine no (decide_eq_false (by omega)) ?_
      have ek : k = l.length := by omega
      subst ek
      rw [List.drop_length, readL_nil] at er
      refine ⟨_, rfl, ?_⟩
      show Q (.str (S f)) _
      have e3 : readL l = some f := by
        rw [er]
        show some (f ++ []) = _
        rw [List.append_nil]
      rw [e3] at kk
      exact kk
/-! ### _law_broken_by -/
def sp_law_broken_by (c : Ad) : Sp := fun vs H Q _ => ∃ n : Int, vs = [.int n] ∧ ∀ (l : List Nat) (H' : Hp), Same H H' → l.length ≤ 3 → Asc l → Q (.str (S l)) H'
def t_law_broken_by (c : Ad) : TS :=
  tSeq (tAsg (tLst (tCons (tC (.str "~")) (tCons (tC (.str "~1")) (tCons (tC (.str "~x1")) (tCons (tC (.str "~1x")) (tCons (tC (.str "~ 1")) (tCons (tC (.str "~-1")) (tCons (tC (.str "~+3")) (tCons (tC (.str "~~1")) (tCons (tOp rCatT (tC (.str "~")) (tCB rStrI (tCons (tOp rModI (tOp rDivI (tVar 0) (tC (.int 12))) (tC (.int 10))) (tNil)))) (tNil))))))))))) (gName 1))
    (tSeq (tIfS (tTest (tOp (rLtI) (tOp rModI (tVar 0) (tC (.int 12))) (tC (.int 9))))
    (tRet (tOp (rIxL c.K) (tVar 1) (tOp rModI (tVar 0) (tC (.int 12)))))
    (tNext))
    (tRet (tOp rCatT (tC (.str "~9")) (tCB rStrI (tCons (tOp rAddI (tC (.int 4)) (tOp rModI (tOp rDivI (tVar 0) (tC (.int 12))) (tC (.int 6)))) (tNil))))))
abbrev N_law_broken_by : List Str := ["_law_cell", "_law_odd"]

theorem len_law_broken_by {c : Ad} {vs H Q E} (h : sp_law_broken_by c vs H Q E) : vs.length = 1 := by
  obtain ⟨_, rfl, _⟩ := h
  rfl
/-- str of a figure -/
theorem str_fig {n : Int} (h0 : 0 ≤ n) (h1 : n < 10) : (Str.ofString (toString n)) = S [48 + n.toNat] := by
  have e : n = ((n.toNat : Nat) : Int) := by omega
  have key : ∀ k : Nat, k < 10 → (Str.ofString (toString ((k : Nat) : Int))) = S [48 + k] := by decide +kernel
  rw [e, key n.toNat (by omega)]
  rfl
theorem log_small {n : Int} (h0 : 0 ≤ n) (h1 : n < 1000) : n.natAbs.log2 < 1920 := by
  have h := Nat.log2_le_self n.natAbs
  omega
/-- a short text of plain signs -/
def Short (k : Nat) (v : V) : Prop := ∃ l : List Nat, v = .str (S l) ∧ l.length ≤ k ∧ Asc l
theorem short_lit {k : Nat} {x : Str} {l : List Nat} (e : x = S l) (h : (decide (l.length ≤ k) && l.all fun c => decide (c < 128)) = true) : Short k (.str x) := by
  rw [Bool.and_eq_true, decide_eq_true_eq, List.all_eq_true] at h
  exact ⟨l, by rw [e], h.1, fun c hc => of_decide_eq_true (h.2 c hc)⟩
theorem pure_law_broken_by {c : Ad} {vs H Q E} (h : sp_law_broken_by c vs H Q E) : t_law_broken_by c { nx := fun _ H' => Q .non H', rt := Q } (start N_law_broken_by vs) H := by
  obtain ⟨n, rfl, kk⟩ := h
  have q1 := Int.emod_nonneg (n / 12) (show (10 : Int) ≠ 0 by decide)
  have q2 := Int.emod_lt_of_pos (n / 12) (show (0 : Int) < 10 by decide)
  have m1 := Int.emod_nonneg n (show (12 : Int) ≠ 0 by decide)
  have m2 := Int.emod_lt_of_pos n (show (0 : Int) < 12 by decide)
  have r1 := Int.emod_nonneg (n / 12) (show (6 : Int) ≠ 0 by decide)
  have r2 := Int.emod_lt_of_pos (n / 12) (show (0 : Int) < 6 by decide)
  refine ⟨_, rfl, _, _, rfl, rfl, ⟨by decide, by decide⟩, _, _, rfl, rfl, pm 10, _, rfl, log_small q1 (by omega), _, _, rfl, rfl, by rw [lit_tilde, str_fig q1 q2]; exact S_fit (by show 1 + 1 ≤ 16777216; decide), le_line (by show 9 ≤ 16777216; decide), fun p hp => ?_⟩
  have e9 : (("~" : Str) ++ Str.ofString (toString (n / 12 % 10))) = S [126, 48 + (n / 12 % 10).toNat] := by
    rw [lit_tilde, str_fig q1 q2, S_app]
    rfl
  refine ⟨_, rfl, _, _, rfl, rfl, pm 12, _, _, rfl, rfl, _, rfl, ?_⟩
  by_cases c9 : n % 12 < 9
  · refine yes (decide_eq_true c9) ?_
    have hall : ∀ v ∈ [V.str "~", V.str "~1", V.str "~x1", V.str "~1x", V.str "~ 1", V.str "~-1", V.str "~+3", V.str "~~1", V.str (("~" : Str) ++ Str.ofString (toString (n / 12 % 10)))], Short 3 v := by
      refine List.forall_mem_cons.mpr ⟨short_lit (l := [126]) (by decide +kernel) rfl, List.forall_mem_cons.mpr ⟨short_lit (l := [126, 49]) (by decide +kernel) rfl, List.forall_mem_cons.mpr ⟨short_lit (l := [126, 120, 49]) (by decide +kernel) rfl, List.forall_mem_cons.mpr ⟨short_lit (l := [126, 49, 120]) (by decide +kernel) rfl,
        List.forall_mem_cons.mpr ⟨short_lit (l := [126, 32, 49]) (by decide +kernel) rfl, List.forall_mem_cons.mpr ⟨short_lit (l := [126, 45, 49]) (by decide +kernel) rfl, List.forall_mem_cons.mpr ⟨short_lit (l := [126, 43, 51]) (by decide +kernel) rfl, List.forall_mem_cons.mpr ⟨short_lit (l := [126, 126, 49]) (by decide +kernel) rfl,
        List.forall_mem_cons.mpr ⟨⟨_, by rw [e9], by show 2 ≤ 3; decide, Asc.cons (by decide) (Asc.cons (by omega) Asc.nil)⟩, fun _ hx => absurd hx (by simp)⟩⟩⟩⟩⟩⟩⟩⟩⟩
    have hj : (n % 12).toNat < 9 := by omega
    have hg := List.getElem?_eq_getElem (l := [V.str "~", V.str "~1", V.str "~x1", V.str "~1x", V.str "~ 1", V.str "~-1", V.str "~+3", V.str "~~1", V.str (("~" : Str) ++ Str.ofString (toString (n / 12 % 10)))]) (i := (n % 12).toNat) hj
    obtain ⟨l, el, hl, ha⟩ := hall _ (List.mem_of_getElem? hg)
    refine ⟨_, rfl, _, rfl, _, _, rfl, rfl, pm 12, p, _, n % 12, .str (S l), rfl, rfl, SqL.of upd_same, at_of (j := (n % 12).toNat) (by omega) (by rw [← el]; exact hg), kk l _ (same_up (Same.refl H) hp) hl ha⟩
  · refine no (decide_eq_false c9) ?_
    refine ⟨_, rfl, _, _, rfl, rfl, ⟨by decide, by decide⟩, _, _, rfl, rfl, pm 6, _, _, rfl, rfl, _, rfl, log_small (by omega) (by omega), _, _, rfl, rfl, ?_, ?_⟩
    · rw [str_fig (by omega) (by omega), show ("~9" : Str) = S [126, 57] by decide +kernel]
      exact S_fit (by show 2 + 1 ≤ 16777216; decide)
    · rw [str_fig (by omega) (by omega), show ("~9" : Str) = S [126, 57] by decide +kernel, S_app]
      exact kk _ _ (same_up (Same.refl H) hp) (by show 3 ≤ 3; decide) (Asc.cons (by decide) (Asc.cons (by decide) (Asc.cons (by omega) Asc.nil)))
/-! ### _law_piece_by -/
def sp_law_piece_by (c : Ad) : Sp := fun vs H Q _ => ∃ n : Int, vs = [.int n] ∧ ∀ l : List Nat, l.length ≤ 3 → Asc l → Q (.str (S l)) H
def t_law_piece_by (c : Ad) : TS :=
  tSeq (tAsg (tOp rDivI (tVar 0) (tC (.int 2))) (gName 1))
    (tSeq (tIfS (tTest (tOp (rEq) (tOp rModI (tVar 0) (tC (.int 2))) (tC (.int 0))))
    (tRet (tOp rIxS (CwR.tReplC (CwR.tReplC (tCall (sp_law_signs c) [] E0 tNil) "/" "") "~" "") (tOp rModI (tVar 1) (tC (.int 92)))))
    (tNext))
    (tRet (tOp rCatT (tOp rCatT (tC (.str "~")) (tCB rStrI (tCons (tOp rDivI (tOp rModI (tVar 1) (tC (.int 94))) (tC (.int 10))) (tNil)))) (tCB rStrI (tCons (tOp rModI (tOp rModI (tVar 1) (tC (.int 94))) (tC (.int 10))) (tNil))))))
abbrev N_law_piece_by : List Str := ["_law_cell", "_law_more"]

theorem len_law_piece_by {c : Ad} {vs H Q E} (h : sp_law_piece_by c vs H Q E) : vs.length = 1 := by
  obtain ⟨_, rfl, _⟩ := h
  rfl
theorem two_gone : Txt.replace (Txt.replace (S SG) "/" "") "~" "" = S ((SG.take 14) ++ (SG.drop 15).take 78) := by decide +kernel
theorem one_gone : Txt.replace (S SG) "/" "" = S ((SG.take 14) ++ (SG.drop 15)) := by decide +kernel
theorem SG92_len : ((SG.take 14) ++ (SG.drop 15).take 78).length = 92 := by decide +kernel
theorem SG92_asc : Asc ((SG.take 14) ++ (SG.drop 15).take 78) := by unfold Asc; decide +kernel
theorem pure_law_piece_by {c : Ad} {vs H Q E} (h : sp_law_piece_by c vs H Q E) : t_law_piece_by c { nx := fun _ H' => Q .non H', rt := Q } (start N_law_piece_by vs) H := by
  obtain ⟨n, rfl, kk⟩ := h
  have q1 := Int.emod_nonneg (n / 2) (show (92 : Int) ≠ 0 by decide)
  have q2 := Int.emod_lt_of_pos (n / 2) (show (0 : Int) < 92 by decide)
  have r1 := Int.emod_nonneg (n / 2) (show (94 : Int) ≠ 0 by decide)
  have r2 := Int.emod_lt_of_pos (n / 2) (show (0 : Int) < 94 by decide)
  have d1 : 0 ≤ n / 2 % 94 / 10 ∧ n / 2 % 94 / 10 < 10 := by omega
  have d2 : 0 ≤ n / 2 % 94 % 10 ∧ n / 2 % 94 % 10 < 10 := by omega
  refine ⟨_, rfl, _, _, rfl, rfl, ⟨by decide, by decide⟩, ?_⟩
  refine ⟨_, rfl, _, _, rfl, rfl, pm 2, rfl, _, rfl, both (fun _ => ?_) (fun _ => ?_)⟩
  · refine ⟨rfl, _, rfl, by rw [S_len, SG_len]; decide, _, rfl, by rw [one_gone, S_len]; decide +kernel, _, rfl, _, _, rfl, rfl, pm 92, ?_⟩
    rw [two_gone]
    have hj : (n / 2 % 92).toNat < ((SG.take 14) ++ (SG.drop 15).take 78).length := by rw [SG92_len]; omega
    have hg := List.getElem?_eq_getElem hj
    exact ⟨S _, _, _, rfl, rfl, by rw [S_len, SG92_len]; exact le_line (by decide), atI_at (by omega) hg, kk [_] (by show 1 ≤ 3; decide) (Asc.cons (SG92_asc _ (List.getElem_mem hj)) Asc.nil)⟩
  · refine ⟨_, rfl, _, _, rfl, rfl, pm 94, _, _, rfl, rfl, ⟨by decide, by decide⟩, _, rfl, log_small d1.1 (by omega), _, _, rfl, rfl, by rw [lit_tilde, str_fig d1.1 d1.2]; exact S_fit (by show 1 + 1 ≤ 16777216; decide), _, rfl, _, _, rfl, rfl, pm 94, _, _, rfl, rfl, pm 10, _, rfl, log_small d2.1 (by omega), _, _, rfl, rfl, ?_, ?_⟩
    · rw [lit_tilde, str_fig d1.1 d1.2, str_fig d2.1 d2.2, S_app]
      exact S_fit (by show 2 + 1 ≤ 16777216; decide)
    · rw [lit_tilde, str_fig d1.1 d1.2, str_fig d2.1 d2.2, S_app, S_app]
      exact kk _ (by show 3 ≤ 3; decide) (Asc.cons (by decide) (Asc.cons (by omega) (Asc.cons (by omega) Asc.nil)))
end Pl
namespace Pl
open PySem PySem.Spec PyProof.Rows L2
/-! ### the law -/
def sp_law (c : Ad) : Sp := fun vs H Q _ => ∃ (a : Addr) (ns : List Int), vs = [.ref a] ∧ SqL c.K H a (ns.map V.int) ∧ ns.length ≤ 63 ∧ ∀ H', Q (.bl true) H'
def t_law (c : Ad) : TS :=
  tSeq (tAsg (tCall (sp_law_of c) [] E0 (tCons (tVar 0) (tCons (tC (.int 0)) (tNil)))) (gName 1))
    (tSeq (tAsg (tLc (iRng1 (tCons (tOp rModI (tOp rDivI (tVar 1) (tC (.int 3))) (tC (.int 11))) (tNil))) (gName 3) (tYes) (tCall (sp_law_of c) [] E0 (tCons (tVar 0) (tCons (tOp rAddI (tC (.int 1)) (tVar 3)) (tNil)))) [3]) (gName 2))
    (tCut (tIfS (tTest (tOp (rEq) (tOp rModI (tOp rDivI (tVar 1) (tC (.int 33))) (tC (.int 8))) (tC (.int 1))))
    (tAsg (tLc (iRng1 (tCons (tOp rAddI (tC (.int 60)) (tOp rModI (tOp rDivI (tVar 1) (tC (.int 264))) (tC (.int 241)))) (tNil))) (gName 3) (tYes) (tOp rAddI (tCall (sp_law_of c) [] E0 (tCons (tVar 0) (tCons (tC (.int 1)) (tNil)))) (tOp rMulI (tOp rMulI (tC (.int 5)) (tVar 3)) (tVar 3))) [3]) (gName 2))
    (tNext))
    (tSeq (tAsg (tLc (iList c.K (tVar 2)) (gName 5) (tYes) (tCall (sp_law_piece_by c) [] E0 (tCons (tVar 5) (tNil))) [5]) (gName 4))
    (tCut (tIfS (tTest (tOp (rEq) (tOp rModI (tVar 1) (tC (.int 3))) (tC (.int 1))))
    (tSeq (tAsg (tOp rModI (tCall (sp_law_of c) [] E0 (tCons (tVar 0) (tCons (tC (.int 12)) (tNil)))) (tOp rAddI (tCB (rLenL c.K) (tCons (tVar 4) (tNil))) (tC (.int 1)))) (gName 6))
    (tDrop (tBM c.K "list" rInsert (tVar 4) (tCons (tVar 6) (tCons (tCall (sp_law_broken_by c) [] E0 (tCons (tCall (sp_law_of c) [] E0 (tCons (tVar 0) (tCons (tC (.int 13)) (tNil)))) (tNil))) (tNil))))))
    (tNext))
    (tSeq (tAsg (tBM c.K "str" (rJoin c.K) (tC (.str "")) (tCons (tVar 4) (tNil))) (gName 7))
    (tSeq (tAsg (tCall (sp_law_read c) [] E0 (tCons (tVar 7) (tNil))) (gName 8))
    (tSeq (tAsg (tC .non) (gName 9))
    (tSeq (fun D σ H => (fun W => (tAsg (tCallS (sp_name_of c) (WE W) (tCons (tVar 7) (tNil))) (gName 9))) (wAs c.K (.ref c.cPath) 10 (fun a cls d => tRet (tAndV (tOp (rIsN) (tVar 8) (tC .non)) (tAndV (tCB (rIsX c.K c.cBad a cls d) (tCons (tVar 10) (tCons (tC (.ref c.cBad)) (tNil)))) (tCB (rIsX c.K c.cBad a cls d) (tCons (tVar 10) (tCons (tC (.ty "ValueError")) (tNil))))))) (fun _ _ _ _ => False) D) D σ H)
    (tRet (tAndV (tCB (rIsi c.K) (tCons (tVar 9) (tCons (tC (.ty "str")) (tNil)))) (tOp (rEq) (tVar 9) (tVar 8))))))))))))
abbrev N_law : List Str := ["_law_script", "_law_first", "_law_cells", "_law_k", "_law_pieces", "_law_cell", "_law_at", "_law_part", "_law_due", "_law_found", "e"]

theorem len_law {c : Ad} {vs H Q E} (h : sp_law c vs H Q E) : vs.length = 1 := by
  obtain ⟨_, _, rfl, _⟩ := h
  rfl
/-- texts in a list, all short -/
theorem shorts {k : Nat} : ∀ {ys : List V}, (∀ v ∈ ys, Short k v) → ∃ ps : List (List Nat), ys = (ps.map S).map V.str ∧ (∀ p ∈ ps, p.length ≤ k ∧ Asc p) ∧ ps.length = ys.length
  | [], _ => ⟨[], rfl, fun _ h => absurd h (by simp), rfl⟩
  | v :: ys, h => by
    obtain ⟨l, e, hl, ha⟩ := h v List.mem_cons_self
    obtain ⟨ps, e2, h2, h3⟩ := shorts (ys := ys) fun v hv => h v (List.mem_cons_of_mem _ hv)
    refine ⟨l :: ps, by rw [e, e2]; rfl, fun p hp => ?_, by rw [List.length_cons, List.length_cons, h3]⟩
    rcases List.mem_cons.mp hp with q | q
    · rw [q]; exact ⟨hl, ha⟩
    · exact h2 p q
theorem flat_len {k : Nat} : ∀ {ps : List (List Nat)}, (∀ p ∈ ps, p.length ≤ k) → ps.flatten.length ≤ k * ps.length
  | [], _ => by simp
  | p :: ps, h => by
    have h1 := h p List.mem_cons_self
    have h2 := flat_len (ps := ps) fun q hq => h q (List.mem_cons_of_mem _ hq)
    rw [List.flatten_cons, List.length_append, List.length_cons, Nat.mul_succ]
    omega
theorem flat_asc : ∀ {ps : List (List Nat)}, (∀ p ∈ ps, Asc p) → Asc ps.flatten
  | [], _ => Asc.nil
  | p :: ps, h => by
    rw [List.flatten_cons]
    exact Asc.app (h p List.mem_cons_self) (flat_asc fun q hq => h q (List.mem_cons_of_mem _ hq))
theorem mem_get {α : Type} {P : Nat → α → Prop} {R : α → Prop} {ys : List α} (h : ∀ (i : Nat) v, ys[i]? = some v → P i v) (hr : ∀ i v, P i v → R v) : ∀ v ∈ ys, R v := fun v hv => by
  obtain ⟨i, e⟩ := List.mem_iff_getElem?.mp hv
  exact hr i v (h i v e)
theorem pure_law {c : Ad} {vs H Q E} (hx : PySem.W.exmOne c.K (.ref c.cBad) (.ref c.cPath) = some true) (hv : PySem.W.kitOne c.K (.ref c.cBad) (.type "ValueError") = some true) (h : sp_law c vs H Q E) :
    t_law c { nx := fun _ H' => Q .non H', rt := Q } (start N_law vs) H := by
  obtain ⟨a, ns, rfl, hs, hl, kk⟩ := h
  -- first
  refine ⟨_, rfl, a, ns, 0, rfl, hs, hl, fun H1 s1 => ?_⟩
  generalize cell ns 0 = n0
  have m1 := Int.emod_nonneg (n0 / 3) (show (11 : Int) ≠ 0 by decide)
  have m2 := Int.emod_lt_of_pos (n0 / 3) (show (0 : Int) < 11 by decide)
  have r1 := Int.emod_nonneg (n0 / 264) (show (241 : Int) ≠ 0 by decide)
  have r2 := Int.emod_lt_of_pos (n0 / 264) (show (0 : Int) < 241 by decide)
  -- cells
  refine ⟨_, rfl, _, _, rfl, rfl, ⟨by decide, by decide⟩, _, _, rfl, rfl, pm 11, _, rfl, by omega, by omega, fun D hD => lcR (n := (n0 / 3 % 11).toNat) hD (fun _ v => ∃ z, v = V.int z) (by omega) (fun _ => rfl) (fun i H' Q' hi e hq => ?_) (fun H2 ys e2 hD2 hy hz => ?_)⟩
  · refine ⟨_, rfl, _, rfl, _, _, rfl, rfl, a, ns, 1 + i, ?_, (s1.trans e).seq hs, hl, fun H'' e' => hq _ _ ⟨_, rfl⟩ e'⟩
    show [V.ref a, V.int (1 + (i : Int))] = _
    rw [show (1 : Int) + (i : Int) = ((1 + i : Nat) : Int) by omega]
  -- if far
  have hints : ∀ {ys : List V}, (∀ (i : Nat) v, ys[i]? = some v → ∃ z, v = V.int z) → ∃ zs : List Int, ys = zs.map V.int := fun {ys} => by
    intro h
    induction ys with
    | nil => exact ⟨[], rfl⟩
    | cons y ys ih =>
      obtain ⟨z, e⟩ := h 0 y rfl
      obtain ⟨zs, e2⟩ := ih fun i v hi => h (i + 1) v hi
      exact ⟨z :: zs, by rw [e, e2]; rfl⟩
  have s2 : Same H H2 := s1.trans e2
  refine ⟨fun σ' H' => ∃ (D : Addr) (zs : List Int), σ' = [some (.ref a), some (.int n0), some (.ref D), none, none, none, none, none, none, none, none] ∧ Same H H' ∧ H' D = some (.lst (zs.map V.int)) ∧ zs.length ≤ 300, ?_, ?_⟩
  · refine ⟨_, rfl, _, _, rfl, rfl, ⟨by decide, by decide⟩, _, _, rfl, rfl, pm 8, rfl, _, rfl, both (fun _ => ?_) (fun _ => ?_)⟩
    · refine ⟨_, rfl, _, _, rfl, rfl, ⟨by decide, by decide⟩, _, _, rfl, rfl, pm 241, _, _, rfl, rfl, _, rfl, by omega, by omega, fun D' hD' => lcR (n := (60 + n0 / 264 % 241).toNat) hD' (fun _ v => ∃ z, v = V.int z) (by omega) (fun _ => rfl) (fun i H' Q' hi e hq => ?_) (fun H3 ys' e3 hD3 hy' hz' => ?_)⟩
      · refine ⟨_, rfl, a, ns, 1, rfl, (s2.trans e).seq hs, hl, fun H'' e' => ?_⟩
        refine ⟨_, rfl, _, _, rfl, rfl, Or.inl ⟨by decide, by decide⟩, _, rfl, _, _, rfl, rfl, Or.inr ⟨by omega, by omega⟩, _, _, rfl, rfl, hq _ _ ⟨_, rfl⟩ e'⟩
      · obtain ⟨zs, rfl⟩ := hints hz'
        rw [List.length_map] at hy'
        exact ⟨D', zs, rfl, s2.trans e3, hD3, by omega⟩
    · obtain ⟨zs, rfl⟩ := hints hz
      rw [List.length_map] at hy
      exact ⟨D, zs, rfl, s2, hD2, by omega⟩
  -- pieces
  rintro σ3 H3 ⟨D3, zs, rfl, s3, hD3, hz3⟩
  refine ⟨_, rfl, D3, rfl, ⟨_, SqL.of hD3⟩, fun D4 hD4 => lcL (xs := zs.map V.int) hD4 (fun _ v => Short 3 v) (SqL.of hD3) (by rw [List.length_map]; omega) (fun _ => rfl) (fun i x H' Q' hi e hq => ?_) (fun H4 ys e4 hD4' hy hz => ?_)⟩
  · obtain ⟨z, _, rfl⟩ := map_at hi
    exact ⟨_, rfl, z, rfl, fun l hl hal => hq _ _ ⟨l, rfl, hl, hal⟩ (Same.refl _)⟩
  rw [List.length_map] at hy
  have s4 : Same H H4 := s3.trans e4
  -- a broken one put in
  refine ⟨fun σ' H' => ∃ (ys : List V) (o : Option V), σ' = [some (.ref a), some (.int n0), some (.ref D3), none, some (.ref D4), none, o, none, none, none, none] ∧ Same H H' ∧ H' D4 = some (.lst ys) ∧ ys.length ≤ 301 ∧ ∀ v ∈ ys, Short 3 v, ?_, ?_⟩
  · refine ⟨_, rfl, _, _, rfl, rfl, pm 3, rfl, _, rfl, both (fun _ => ?_) (fun _ => ?_)⟩
    · refine ⟨_, rfl, a, ns, 12, rfl, s4.seq hs, hl, fun H5 e5 => ?_⟩
      have g5 := e5 _ _ hD4'
      refine ⟨_, rfl, D4, _, rfl, Or.inl (SqL.of g5), _, _, rfl, rfl, _, _, rfl, rfl, ?_, ?_⟩
      · rw [hy]
        omega
      · have w1 := Int.emod_nonneg (cell ns 12) (show ((ys.length : Int) + 1) ≠ 0 by omega)
        have w2 := Int.emod_lt_of_pos (cell ns 12) (show (0 : Int) < (ys.length : Int) + 1 by omega)
        refine ⟨_, rfl, Or.inl ⟨rfl, _, SqL.of g5⟩, _, rfl, _, rfl, a, ns, 13, rfl, (s4.trans e5).seq hs, hl, fun H6 e6 => ⟨_, rfl, fun l H7 e7 hl7 ha7 => ?_⟩⟩
        have g7 := e7 _ _ (e6 _ _ g5)
        refine ⟨D4, _, _, _, rfl, rfl, g7, by rw [hy]; exact lt_line (by omega), w1, by omega, ?_⟩
        refine ⟨_, _, rfl, same_set (s4.trans (e5.trans (e6.trans e7))) (s3.free hD4), upd_same, ?_, fun v hv => ?_⟩
        · rw [List.length_append, List.length_append, List.length_take, List.length_drop]
          show min _ ys.length + 1 + (ys.length - _) ≤ 301
          omega
        · have hm := mem_get hz fun _ _ h => h
          rcases List.mem_append.mp hv with q | q
          · rcases List.mem_append.mp q with q | q
            · exact hm v (List.mem_of_mem_take q)
            · rw [List.mem_singleton.mp q]; exact ⟨l, rfl, hl7, ha7⟩
          · exact hm v (List.mem_of_mem_drop q)
    · exact ⟨ys, none, rfl, s4, hD4', by omega, mem_get hz fun _ _ h => h⟩
  rintro σ5 H5 ⟨ys, o, rfl, s5, hD5, hy5, hz5⟩
  obtain ⟨ps, rfl, hps, hpl⟩ := shorts hz5
  rw [List.length_map, List.length_map] at hpl hy5
  have hfl := flat_len fun p hp => (hps p hp).1
  have hfa := flat_asc fun p hp => (hps p hp).2
  -- the part
  refine ⟨rfl, _, rfl, S [], D4, ps.map S, by rw [lit_none], rfl, Or.inl (SqL.of hD5), ?_, ?_⟩
  · rw [sum_len_S, S_len, List.length_map]
    show ps.flatten.length + ps.length * 0 ≤ _
    omega
  rw [join_S, joinL_nil]
  generalize ps.flatten = l at hfl hfa
  -- what is due
  refine ⟨_, rfl, l, rfl, hfa, by omega, ?_⟩
  -- what is told
  refine ⟨_, rfl, l, rfl, hfa, by omega, fun r hr H6 e6 => ?_, fun hn H6 e6 => ?_⟩
  · rw [hr]
    refine ⟨_, rfl, _, _, _, _, true, rfl, .ty _, .base (.str _), kit_ty (by decide +kernel), _, rfl, yes rfl ?_⟩
    refine ⟨_, rfl, _, rfl, rfl, ?_⟩
    show Q (.bl (decide (V.str (S r) = V.str (S r)))) _
    rw [decide_eq_true rfl]
    exact kk _
  · rw [hn]
    refine ⟨true, hx, fun _ a' _ => ?_, fun q => Bool.noConfusion q⟩
    refine ⟨_, rfl, rfl, _, rfl, yes rfl ?_⟩
    refine ⟨_, rfl, rfl, rfl, .ref c.cBad, .ref c.cBad, true, rfl, fun u hu => hu, ?_, _, rfl, yes rfl ?_⟩
    · show (if (Value.ref c.cBad == Value.ref c.cBad) = true then some true else _) = some true
      rw [if_pos (beq_self_eq_true _)]
    · exact ⟨_, rfl, rfl, rfl, .ty "ValueError", .type "ValueError", true, rfl, fun u hu => hu, hv, kk _⟩
end Pl
/-! Plainway: the head's facts: defs, constants, own errors, and one more look. -/
namespace Pl
open PySem PySem.Spec PyProof.Rows L2
abbrev AlP : Type := He.AlD × Bool
def obsP (n : Nat) (fa : List He.Fa) (fn : List He.DefD) (ex : PySem.W.Frag → Bool) (g : Addr → Option Obj) : AlP := (He.obsDG n fa fn g, ex (He.frG g (He.asD g n)))
def hookP (n : Nat) (fa : List He.Fa) (fn : List He.DefD) (ex : PySem.W.Frag → Bool) : PySem.W.Hook where
  α := AlP
  obs := fun s => obsP n fa fn ex s.heap.get?
  val := fun _ => (He.valD fn, true)
  says := fun _ h => ∃ K : PySem.W.Frag, K.In h ∧ He.SaysD fa fn K ∧ ex K = true
  of := fun _ s e => ⟨He.frG s.heap.get? (He.asD s.heap.get? n), He.frG_in, congrArg (fun z : AlP => z.1) e, congrArg (fun z : AlP => z.2) e⟩
  keeps := fun _ _ _ ⟨K, hK, a, b⟩ k => ⟨K, PySem.W.Frag.In.keeps hK k, a, b⟩
theorem obsP_eq {n : Nat} {fa : List He.Fa} {fn : List He.DefD} {ex : PySem.W.Frag → Bool} {g : Addr → Option Obj} {s : Shared} (h : ∀ a, g a = s.heap.get? a) : obsP n fa fn ex g = (hookP n fa fn ex).obs s := by
  have e : g = s.heap.get? := funext h
  rw [e] <;> rfl
/-- what isinstance asks of an own error's class -/
def excB (K : PySem.W.Frag) (D : Addr) : Bool :=
  He.eqO (PySem.W.findIn K (.ref D) "__getattribute__") (some (some (.builtin "BaseException.__getattribute__"))) && (He.eqO (PySem.W.findIn K (.ref D) "__getattr__") (some none) &&
  (decide (PySem.W.subIn K (.ref D) (.type "BaseException") = some true) && (PySem.W.hasDictIn K D && (He.eqO (PySem.W.findIn K (.ref D) "__class__") (some (some (.builtin "object.__class__"))) &&
  (He.eqO (PySem.W.specialIn K (.builtin "object.__class__") "__get__") (some (some (.builtin "getset_descriptor.__get__"))) && (decide (PySem.W.takesIn K (.builtin "object.__class__") = some true) && decide (PySem.W.mroIn K D (.type "object") = some true)))))))
theorem excB_ok {K : PySem.W.Frag} {D : Addr} (h : excB K D = true) : ExcC K D := by
  obtain ⟨h1, h⟩ := He.ba h
  obtain ⟨h2, h⟩ := He.ba h
  obtain ⟨h3, h⟩ := He.ba h
  obtain ⟨h4, h⟩ := He.ba h
  obtain ⟨h5, h⟩ := He.ba h
  obtain ⟨h6, h⟩ := He.ba h
  obtain ⟨h7, h8⟩ := He.ba h
  exact ⟨He.eqO_ok h1, He.eqO_ok h2, of_decide_eq_true h3, h4, He.eqO_ok h5, He.eqO_ok h6, of_decide_eq_true h7, of_decide_eq_true h8⟩
def kitE (K : PySem.W.Frag) (D : Addr) (c : Value) (b : Bool) : Bool := decide (PySem.W.kitOne K (.ref D) c = some b)
theorem kitE_ok {K : PySem.W.Frag} {D : Addr} {c : Value} {b : Bool} (h : kitE K D c b = true) : PySem.W.kitOne K (.ref D) c = some b := of_decide_eq_true h
theorem ex_ok {K : PySem.W.Frag} {h : Heap} {mg : Str → Option Value} (X : K.In h) (G : h.Ns mainGlobals mg) {x : Str} (c1 : (He.Fa.glo x).ok K = true) (c2 : (He.Fa.exc x).ok K = true) : ExOk K mg x (He.ga K x) := by
  obtain ⟨a1, a2, a3, a4⟩ := He.exc_ok c2
  exact ⟨He.glo_ok X G c1, a1, a2, a3, a4⟩
abbrev FnP (K : PySem.W.Frag) (x : Str) (st : Stmt) (f : Addr) (fd : FuncData) : Prop := FunD K x x (defArgs st) (defBody st) (defScope st) [] [] f fd
end Pl
namespace PlRow
open PySem PySem.Spec PyProof.Rows L2 Pl
def top (i : Nat) : Stmt := PySem.Challenge.pw_plainway_k01_a_part_told.main.body.getD i (.Pass ⟨0, 0, 0, 0⟩)
section
variable {P : Program} {w : World} {c : Ad} {mg : Str → Option Value} {base : Heap}
abbrev s_law_of : Stmt := top 9
theorem sc_law_of : FnScope N_law_of ["_law_script", "_law_k"] (defScope s_law_of) := ⟨rfl, rfl, rfl, by decide +kernel, rfl, by decide +kernel, by decide +kernel⟩
theorem ok_law_of {f : Addr} {fd : FuncData} (F : FnP c.K "_law_of" s_law_of f fd) (mf : mg "_law_of" = some (.ref f))
     :
    Cal P w c.K mg base CX0 "_law_of" 1 ["_law_script", "_law_k"] (sp_law_of c) f fd := by
  refine ⟨F.ok sc_law_of (fun vs H Q E h => len_law_of h) (fun cdv A outer s H vs Q E hr h => ⟨t_law_of c, ?_, pure_law_of h⟩), mf, F.kp, F.bindsN fun _ _ _ _ _ _ us hl => match us, hl with | [_, _], _ => rfl⟩
  exact PSs.nox (pss_one (ps_ret (pe_ix ix_list (pe_op op_cat (pe_slice sl_list (pv 0) (po_some (pv 1)) (po_some (pe_op op_add (pv 1) (pe_int)))) (pe_lst (pa_cons (pe_int) (pa_nil)))) (pe_int) (fun _ _ => rfl))))
abbrev s_law_signs : Stmt := top 10
theorem sc_law_signs : FnScope N_law_signs [] (defScope s_law_signs) := ⟨rfl, rfl, rfl, by decide +kernel, rfl, by decide +kernel, by decide +kernel⟩
theorem ok_law_signs {f : Addr} {fd : FuncData} (F : FnP c.K "_law_signs" s_law_signs f fd) (mf : mg "_law_signs" = some (.ref f))
     :
    Cal P w c.K mg base CX0 "_law_signs" 1 [] (sp_law_signs c) f fd := by
  refine ⟨F.ok sc_law_signs (fun vs H Q E h => len_law_signs h) (fun cdv A outer s H vs Q E hr h => ⟨t_law_signs c, ?_, pure_law_signs h⟩), mf, F.kp, F.bindsN fun _ _ _ _ _ _ us hl => match us, hl with | [], _ => rfl⟩
  exact PSs.nox (pss_cons (ps_at 0 sc_law_signs.nd (pe_op opCatT (pe_op opCatT (pe_str) (pe_str)) (pe_str)))
    (pss_cons (ps_at 0 sc_law_signs.nd (pe_op opCatT (pe_op opCatT (pv 0) (pe_str)) (pe_str)))
    (pss_one (ps_ret (pe_op opCatT (pe_op opCatT (pv 0) (pe_str)) (pe_str))))))
abbrev s_law_piece_by : Stmt := top 12
theorem sc_law_piece_by : FnScope N_law_piece_by ["_law_cell"] (defScope s_law_piece_by) := ⟨rfl, rfl, rfl, by decide +kernel, rfl, by decide +kernel, by decide +kernel⟩
theorem ok_law_piece_by {f : Addr} {fd : FuncData} (F : FnP c.K "_law_piece_by" s_law_piece_by f fd) (mf : mg "_law_piece_by" = some (.ref f))
    {f_law_signs : Addr} {fd_law_signs : FuncData} (C_law_signs : Cal P w c.K mg base CX0 "_law_signs" 1 [] (sp_law_signs c) f_law_signs fd_law_signs)
    (m_str : mg "str" = none) :
    Cal P w c.K mg base CX0 "_law_piece_by" 2 ["_law_cell"] (sp_law_piece_by c) f fd := by
  refine ⟨okT F sc_law_piece_by (by decide +kernel) (by decide) (fun vs H Q E h => len_law_piece_by h) (fun cdv A outer s H vs Q E hr h => ⟨t_law_piece_by c, ?_, pure_law_piece_by h⟩), mf, F.kp, F.bindsN fun _ _ _ _ _ _ us hl => match us, hl with | [_], _ => rfl⟩
  exact psst_cons (PST.of (ps_at 1 sc_law_piece_by.nd (pe_op op_fdiv (pv 0) (pe_int))))
    (psst_cons (CwR.pst_if (pt_cmpR op_eq (pe_op op_mod (pv 0) (pe_int)) (pe_int) (nomark _))
    (CwR.psst_one (CwR.pst_ret (pet_ix ix_str (CwR.pet_replT (CwR.pet_replC (pe_call0 C_law_signs.ok (hr.mono (by decide)) rfl C_law_signs.m C_law_signs.kp C_law_signs.b .nil pass0) (by decide +kernel)) (by decide +kernel)) (pe_op op_mod (pv 1) (pe_int)) (fun _ _ => rfl))))
    CwR.psst_nil)
    (PSsT.of (pss_one (ps_ret (pe_op opCatT (pe_op opCatT (pe_str) (pe_callTy calStrI rfl m_str (by decide +kernel) (pa_cons (pe_op op_fdiv (pe_op op_mod (pv 1) (pe_int)) (pe_int)) (pa_nil)))) (pe_callTy calStrI rfl m_str (by decide +kernel) (pa_cons (pe_op op_mod (pe_op op_mod (pv 1) (pe_int)) (pe_int)) (pa_nil))))))))
abbrev s_law_broken_by : Stmt := top 13
theorem sc_law_broken_by : FnScope N_law_broken_by ["_law_cell"] (defScope s_law_broken_by) := ⟨rfl, rfl, rfl, by decide +kernel, rfl, by decide +kernel, by decide +kernel⟩
theorem ok_law_broken_by {f : Addr} {fd : FuncData} (F : FnP c.K "_law_broken_by" s_law_broken_by f fd) (mf : mg "_law_broken_by" = some (.ref f))
    (m_str : mg "str" = none) :
    Cal P w c.K mg base CX0 "_law_broken_by" 1 ["_law_cell"] (sp_law_broken_by c) f fd := by
  refine ⟨F.ok sc_law_broken_by (fun vs H Q E h => len_law_broken_by h) (fun cdv A outer s H vs Q E hr h => ⟨t_law_broken_by c, ?_, pure_law_broken_by h⟩), mf, F.kp, F.bindsN fun _ _ _ _ _ _ us hl => match us, hl with | [_], _ => rfl⟩
  exact PSs.nox (pss_cons (ps_at 1 sc_law_broken_by.nd (pe_lst (pa_cons (pe_str) (pa_cons (pe_str) (pa_cons (pe_str) (pa_cons (pe_str) (pa_cons (pe_str) (pa_cons (pe_str) (pa_cons (pe_str) (pa_cons (pe_str) (pa_cons (pe_op opCatT (pe_str) (pe_callTy calStrI rfl m_str (by decide +kernel) (pa_cons (pe_op op_mod (pe_op op_fdiv (pv 0) (pe_int)) (pe_int)) (pa_nil)))) (pa_nil))))))))))))
    (pss_cons (ps_if (pt_cmpR op_lt (pe_op op_mod (pv 0) (pe_int)) (pe_int) (nomark _))
    (pss_one (ps_ret (pe_ix ix_list (pv 1) (pe_op op_mod (pv 0) (pe_int)) (fun _ _ => rfl))))
    (pss_nil))
    (pss_one (ps_ret (pe_op opCatT (pe_str) (pe_callTy calStrI rfl m_str (by decide +kernel) (pa_cons (pe_op op_add (pe_int) (pe_op op_mod (pe_op op_fdiv (pv 0) (pe_int)) (pe_int))) (pa_nil))))))))
abbrev s_law_read : Stmt := top 11
theorem sc_law_read : FnScope N_law_read ["_law_part"] (defScope s_law_read) := ⟨rfl, rfl, rfl, by decide +kernel, rfl, by decide +kernel, by decide +kernel⟩
theorem ok_law_read {f : Addr} {fd : FuncData} (F : FnP c.K "_law_read" s_law_read f fd) (mf : mg "_law_read" = some (.ref f))
    (m_len : mg "len" = none)
    (m_int : mg "int" = none)
    {f_law_signs : Addr} {fd_law_signs : FuncData} (C_law_signs : Cal P w c.K mg base CX0 "_law_signs" 1 [] (sp_law_signs c) f_law_signs fd_law_signs) :
    Cal P w c.K mg base CX0 "_law_read" 2 ["_law_part"] (sp_law_read c) f fd := by
  refine ⟨F.ok sc_law_read (fun vs H Q E h => len_law_read h) (fun cdv A outer s H vs Q E hr h => ⟨t_law_read c, ?_, pure_law_read h⟩), mf, F.kp, F.bindsN fun _ _ _ _ _ _ us hl => match us, hl with | [_], _ => rfl⟩
  exact PSs.nox (pss_cons (ps_at 1 sc_law_read.nd (pe_str))
    (pss_cons (ps_at 2 sc_law_read.nd (pe_int))
    (pss_cons (ps_while PassesOwn.never (pt_cmpR op_lt (pv 2) (pe_callB calLenT rfl m_len (by decide +kernel) (pa_cons (pv 0) (pa_nil))) (nomark _))
    (pss_one (ps_if (pt_cmpR op_ne (pe_ix ix_str (pv 0) (pv 2) (fun _ _ => rfl)) (pe_str) (nomark _))
    (pss_cons (ps_at 1 sc_law_read.nd (pe_op opCatT (pv 1) (pe_ix ix_str (pv 0) (pv 2) (fun _ _ => rfl))))
    (pss_one (ps_at 2 sc_law_read.nd (pe_op op_add (pv 2) (pe_int)))))
    (pss_cons (ps_at 3 sc_law_read.nd (pe_slice sl_str (pv 0) (po_some (pe_op op_add (pv 2) (pe_int))) (po_some (pe_op op_add (pv 2) (pe_int)))))
    (pss_cons (ps_if (PW.pt (pw_or (pt_cmpR op_lt (pe_callB calLenT rfl m_len (by decide +kernel) (pa_cons (pv 3) (pa_nil))) (pe_int) (nomark _)) (pw_or (pt_cmpR op_notInS (pe_ix ix_str (pv 3) (pe_int) (fun _ _ => rfl)) (pe_str) (by rfl)) (pw_or1 (pt_cmpR op_notInS (pe_ix ix_str (pv 3) (pe_int) (fun _ _ => rfl)) (pe_str) (by rfl))))))
    (pss_one (ps_ret (pe_non)))
    (pss_nil))
    (pss_cons (ps_if (pt_cmpR op_gt (pe_callTy calIntT rfl m_int (by decide +kernel) (pa_cons (pv 3) (pa_nil))) (pe_int) (nomark _))
    (pss_one (ps_ret (pe_non)))
    (pss_nil))
    (pss_cons (ps_at 1 sc_law_read.nd (pe_op opCatT (pv 1) (pe_ix ix_str (pe_call0 C_law_signs.ok (hr.mono (by decide)) rfl C_law_signs.m C_law_signs.kp C_law_signs.b .nil pass0) (pe_callTy calIntT rfl m_int (by decide +kernel) (pa_cons (pv 3) (pa_nil))) (fun _ _ => rfl))))
    (pss_one (ps_at 2 sc_law_read.nd (pe_op op_add (pv 2) (pe_int)))))))))))
    (pss_one (ps_ret (pv 1))))))
abbrev s_sign_of : Stmt := top 7
theorem sc_sign_of : FnScope N_sign_of ["figures"] (defScope s_sign_of) := ⟨rfl, rfl, rfl, by decide +kernel, rfl, by decide +kernel, by decide +kernel⟩
theorem ok_sign_of {f : Addr} {fd : FuncData} (F : FnP c.K "_sign_of" s_sign_of f fd) (mf : mg "_sign_of" = some (.ref f))
    (m_len : mg "len" = none)
    (x_BadEscape : ExOk c.K mg "BadEscape" c.cBad)
    (m_int : mg "int" = none)
    (g_SIGNS : ∃ t, mg "SIGNS" = some (.str " !\"#$&'()*+,-./0123456789:;<=>?@ABCDEFGHIJKLMNOPQRSTUVWXYZ[\\]^_`abcdefghijklmnopqrstuvwxyz{|}~" t)) :
    Cal P w c.K mg base (L2.CX P w) "_sign_of" 1 ["figures"] (sp_sign_of c) f fd := by
  refine ⟨F.ok sc_sign_of (fun vs H Q E h => len_sign_of h) (fun cdv A outer s H vs Q E hr h => ⟨t_sign_of c E, ?_, pure_sign_of h⟩), mf, F.kp, F.bindsN fun _ _ _ _ _ _ us hl => match us, hl with | [_], _ => rfl⟩
  exact pss_cons (ps_if (PW.pt (pw_or (pt_cmpR op_lt (pe_callB calLenT rfl m_len (by decide +kernel) (pa_cons (pv 0) (pa_nil))) (pe_int) (nomark _)) (pw_or1 (pt_not (pt_val (pe_bm0 PySem.F.plainAttrs_str PySem.F.slot_str_isdigit PySem.F.type_str_isdigit mtIsdigit (pv 0)))))))
    (pss_one (ps_raise rfl (takes_of rfl rfl rfl rfl) (pmk_ownA PySem.F.excBase_ValueError x_BadEscape.x x_BadEscape.g x_BadEscape.k (raises_own x_BadEscape.b x_BadEscape.t) (by exact rfl) (pa_cons (pe_joined (.cons (pe_str) (.cons (pe_fmtR (pv 0)) (.nil)))) (pa_nil)))))
    (pss_nil))
    (pss_cons (ps_at 1 sc_sign_of.nd (pe_callTy calIntT rfl m_int (by decide +kernel) (pa_cons (pv 0) (pa_nil))))
    (pss_cons (ps_if (pt_cmpR op_ge (pv 1) (pe_callB calLenT rfl m_len (by decide +kernel) (pa_cons (pe_glob rfl g_SIGNS.choose_spec ⟨_, rfl⟩) (pa_nil))) (nomark _))
    (pss_one (ps_raise rfl (takes_of rfl rfl rfl rfl) (pmk_ownA PySem.F.excBase_ValueError x_BadEscape.x x_BadEscape.g x_BadEscape.k (raises_own x_BadEscape.b x_BadEscape.t) (by exact rfl) (pa_cons (pe_joined (.cons (pe_str) (.cons (pe_fmt (pv 0)) (.nil)))) (pa_nil)))))
    (pss_nil))
    (pss_one (ps_ret (pe_ix ix_str (pe_glob rfl g_SIGNS.choose_spec ⟨_, rfl⟩) (pv 1) (fun _ _ => rfl))))))
abbrev s_name_of : Stmt := top 6
theorem sc_name_of : FnScope N_name_of ["part"] (defScope s_name_of) := ⟨rfl, rfl, rfl, by decide +kernel, rfl, by decide +kernel, by decide +kernel⟩
theorem ok_name_of {f : Addr} {fd : FuncData} (F : FnP c.K "name_of" s_name_of f fd) (mf : mg "name_of" = some (.ref f))
    (g_TILDE : ∃ t, mg "TILDE" = some (.str "~" t))
    {f_sign_of : Addr} {fd_sign_of : FuncData} (C_sign_of : Cal P w c.K mg base (L2.CX P w) "_sign_of" 1 ["figures"] (sp_sign_of c) f_sign_of fd_sign_of) :
    Cal P w c.K mg base (L2.CX P w) "name_of" 2 ["part"] (sp_name_of c) f fd := by
  refine ⟨F.ok sc_name_of (fun vs H Q E h => len_name_of h) (fun cdv A outer s H vs Q E hr h => ⟨t_name_of c E, ?_, pure_name_of h⟩), mf, F.kp, F.bindsN fun _ _ _ _ _ _ us hl => match us, hl with | [_], _ => rfl⟩
  exact pss_cons (ps_at 1 sc_name_of.nd (pe_bm PySem.F.plainAttrs_str PySem.F.slot_str_split PySem.F.type_str_split mtSplit (pv 0) (pa_cons (pe_glob rfl g_TILDE.choose_spec ⟨_, rfl⟩) (pa_nil))))
    (pss_cons (ps_at 2 sc_name_of.nd (pe_lst (pa_cons (pe_ix ix_list (pv 1) (pe_int) (fun _ _ => rfl)) (pa_nil))))
    (pss_cons (ps_for (passes_of rfl) rfl (pi_list (pe_slice sl_list (pv 1) (po_some (pe_int)) (po_none))) (pg_at 3 sc_name_of.nd)
    (pss_cons (ps_expr (pe_bm PySem.F.plainAttrs_list PySem.F.slot_list_append PySem.F.type_list_append mt_append (pv 2) (pa_cons (pe_call C_sign_of.ok (hr.mono (by decide)) rfl C_sign_of.m C_sign_of.kp C_sign_of.b .nil (passes_call (takes_of rfl rfl rfl rfl) (fun _ _ _ _ h => h)) (pa_cons (pe_slice sl_str (pv 3) (po_none) (po_some (pe_int))) (pa_nil))) (pa_nil))))
    (pss_one (ps_expr (pe_bm PySem.F.plainAttrs_list PySem.F.slot_list_append PySem.F.type_list_append mt_append (pv 2) (pa_cons (pe_slice sl_str (pv 3) (po_some (pe_int)) (po_none)) (pa_nil)))))))
    (pss_one (ps_ret (pe_bm PySem.F.plainAttrs_str PySem.F.slot_str_join PySem.F.type_str_join mtJoin (pe_str) (pa_cons (pv 2) (pa_nil)))))))
abbrev s_law : Stmt := top 14
theorem sc_law : FnScope N_law ["_law_script"] (defScope s_law) := ⟨rfl, rfl, rfl, by decide +kernel, rfl, by decide +kernel, by decide +kernel⟩
theorem ok_law {f : Addr} {fd : FuncData} (F : FnP c.K "law" s_law f fd) (mf : mg "law" = some (.ref f))
    {f_law_of : Addr} {fd_law_of : FuncData} (C_law_of : Cal P w c.K mg base CX0 "_law_of" 1 ["_law_script", "_law_k"] (sp_law_of c) f_law_of fd_law_of)
    (m_range : mg "range" = none)
    {f_law_piece_by : Addr} {fd_law_piece_by : FuncData} (C_law_piece_by : Cal P w c.K mg base CX0 "_law_piece_by" 2 ["_law_cell"] (sp_law_piece_by c) f_law_piece_by fd_law_piece_by)
    (m_len : mg "len" = none)
    {f_law_broken_by : Addr} {fd_law_broken_by : FuncData} (C_law_broken_by : Cal P w c.K mg base CX0 "_law_broken_by" 1 ["_law_cell"] (sp_law_broken_by c) f_law_broken_by fd_law_broken_by)
    {f_law_read : Addr} {fd_law_read : FuncData} (C_law_read : Cal P w c.K mg base CX0 "_law_read" 2 ["_law_part"] (sp_law_read c) f_law_read fd_law_read)
    (x_PathError : ExOk c.K mg "PathError" c.cPath)
    {f_name_of : Addr} {fd_name_of : FuncData} (C_name_of : Cal P w c.K mg base (L2.CX P w) "name_of" 2 ["part"] (sp_name_of c) f_name_of fd_name_of)
    (m_isinstance : mg "isinstance" = none)
    (x_BadEscape : ExOk c.K mg "BadEscape" c.cBad)
    (m_ValueError : mg "ValueError" = none)
    (m_str : mg "str" = none)
    (xc_BadEscape : ExcC c.K c.cBad) (hx : PySem.W.exmOne c.K (.ref c.cBad) (.ref c.cPath) = some true) (hv : PySem.W.kitOne c.K (.ref c.cBad) (.type "ValueError") = some true) :
    Cal P w c.K mg base CX0 "law" 3 ["_law_script"] (sp_law c) f fd := by
  refine ⟨F.ok sc_law (fun vs H Q E h => len_law h) (fun cdv A outer s H vs Q E hr h => ⟨t_law c, ?_, pure_law hx hv h⟩), mf, F.kp, F.bindsN fun _ _ _ _ _ _ us hl => match us, hl with | [_], _ => rfl⟩
  exact PSs.nox (pss_cons (ps_at 1 sc_law.nd (pe_call C_law_of.ok (hr.mono (by decide)) rfl C_law_of.m C_law_of.kp C_law_of.b .nil pass0 (pa_cons (pv 0) (pa_cons (pe_int) (pa_nil)))))
    (pss_cons (ps_setLc (i := 2) (own := [("_law_k", 3)]) (tt := (tYes)) rfl sc_law.nd rfl rfl (sw_true rfl rfl rfl (by decide +kernel)) (pi_range1 rfl m_range (pa_cons (pe_op op_mod (pe_op op_fdiv (pv 1) (pe_int)) (pe_int)) (pa_nil))) (blkOk_by (N := N_law) (sc := defScope s_law) (by decide +kernel)) (fun _ _ _ _ _ => pg_at 3 sc_law.nd) (fun _ _ _ _ _ => pts_nil) (fun _ _ _ _ _ => pe_call C_law_of.ok (hr.mono (by decide)) rfl C_law_of.m C_law_of.kp C_law_of.b .nil pass0 (pa_cons (pv 0) (pa_cons (pe_op op_add (pe_int) (pv 3)) (pa_nil)))))
    (pss_cut (ps_if (pt_cmpR op_eq (pe_op op_mod (pe_op op_fdiv (pv 1) (pe_int)) (pe_int)) (pe_int) (nomark _))
    (pss_one (ps_setLc (i := 2) (own := [("_law_k", 3)]) (tt := (tYes)) rfl sc_law.nd rfl rfl (sw_true rfl rfl rfl (by decide +kernel)) (pi_range1 rfl m_range (pa_cons (pe_op op_add (pe_int) (pe_op op_mod (pe_op op_fdiv (pv 1) (pe_int)) (pe_int))) (pa_nil))) (blkOk_by (N := N_law) (sc := defScope s_law) (by decide +kernel)) (fun _ _ _ _ _ => pg_at 3 sc_law.nd) (fun _ _ _ _ _ => pts_nil) (fun _ _ _ _ _ => pe_op op_add (pe_call C_law_of.ok (hr.mono (by decide)) rfl C_law_of.m C_law_of.kp C_law_of.b .nil pass0 (pa_cons (pv 0) (pa_cons (pe_int) (pa_nil)))) (pe_op op_mul (pe_op op_mul (pe_int) (pv 3)) (pv 3)))))
    (pss_nil))
    (pss_cons (ps_setLc (i := 4) (own := [("_law_cell", 5)]) (tt := (tYes)) rfl sc_law.nd rfl rfl (sw_true rfl rfl rfl (by decide +kernel)) (pi_list (pv 2)) (blkOk_by (N := N_law) (sc := defScope s_law) (by decide +kernel)) (fun _ _ _ _ _ => pg_at 5 sc_law.nd) (fun _ _ _ _ _ => pts_nil) (fun _ _ _ _ _ => pe_call C_law_piece_by.ok (hr.mono (by decide)) rfl C_law_piece_by.m C_law_piece_by.kp C_law_piece_by.b .nil pass0 (pa_cons (pv 5) (pa_nil))))
    (pss_cut (ps_if (pt_cmpR op_eq (pe_op op_mod (pv 1) (pe_int)) (pe_int) (nomark _))
    (pss_cons (ps_at 6 sc_law.nd (pe_op op_mod (pe_call C_law_of.ok (hr.mono (by decide)) rfl C_law_of.m C_law_of.kp C_law_of.b .nil pass0 (pa_cons (pv 0) (pa_cons (pe_int) (pa_nil)))) (pe_op op_add (pe_callB calLenL rfl m_len (by decide +kernel) (pa_cons (pv 4) (pa_nil))) (pe_int))))
    (pss_one (ps_expr (pe_bm PySem.F.plainAttrs_list PySem.F.slot_list_insert PySem.F.type_list_insert mtInsert (pv 4) (pa_cons (pv 6) (pa_cons (pe_call C_law_broken_by.ok (hr.mono (by decide)) rfl C_law_broken_by.m C_law_broken_by.kp C_law_broken_by.b .nil pass0 (pa_cons (pe_call C_law_of.ok (hr.mono (by decide)) rfl C_law_of.m C_law_of.kp C_law_of.b .nil pass0 (pa_cons (pv 0) (pa_cons (pe_int) (pa_nil)))) (pa_nil))) (pa_nil)))))))
    (pss_nil))
    (pss_cons (ps_at 7 sc_law.nd (pe_bm PySem.F.plainAttrs_str PySem.F.slot_str_join PySem.F.type_str_join mtJoin (pe_str) (pa_cons (pv 4) (pa_nil))))
    (pss_cons (ps_at 8 sc_law.nd (pe_call C_law_read.ok (hr.mono (by decide)) rfl C_law_read.m C_law_read.kp C_law_read.b .nil pass0 (pa_cons (pv 7) (pa_nil))))
    (pss_cons (ps_at 9 sc_law.nd (pe_non))
    (pss_cons (ps_try_as (i := 10) (tb := fun W => (tAsg (tCallS (sp_name_of c) (WE W) (tCons (tVar 7) (tNil))) (gName 9))) (ts := fun a cls d => tRet (tAndV (tOp (rIsN) (tVar 8) (tC .non)) (tAndV (tCB (rIsX c.K c.cBad a cls d) (tCons (tVar 10) (tCons (tC (.ref c.cBad)) (tNil)))) (tCB (rIsX c.K c.cBad a cls d) (tCons (tVar 10) (tCons (tC (.ty "ValueError")) (tNil))))))) (Wout := fun _ _ _ _ => False) rfl rfl sc_law.nd rfl rfl ⟨rfl, by decide, Or.inl x_PathError.g⟩ takes0
    (fun W pn xe tk _ => pss_one (ps_at 9 sc_law.nd (pe_callS C_name_of.ok (hr.mono (by decide)) rfl C_name_of.m C_name_of.kp C_name_of.b (fun σ => passAt tk σ) (pa_cons (pv 7) (pa_nil)))))
    (fun a oe cls d pn hz hf => pss_one (ps_ret (pe_and (pe_cmpR op_isN1 (pv 8) (pe_non) (nomark _)) (pe_and (pe_callB (calIsX xc_BadEscape hz hf) rfl m_isinstance (by decide +kernel) (pa_cons (pv 10) (pa_cons (pe_glob rfl x_BadEscape.g rfl) (pa_nil)))) (pe_one (pe_callB (calIsX xc_BadEscape hz hf) rfl m_isinstance (by decide +kernel) (pa_cons (pv 10) (pa_cons (pe_bltn rfl m_ValueError (by decide +kernel) rfl) (pa_nil))))))))))
    (pss_one (ps_ret (pe_and (pe_callB call_isi rfl m_isinstance (by decide +kernel) (pa_cons (pv 9) (pa_cons (pe_bltn rfl m_str (by decide +kernel) rfl) (pa_nil)))) (pe_one (pe_cmpR op_eq (pv 9) (pv 8) (nomark _)))))))))))))))
end
def d_law_of : He.DefD := ⟨("_law_of", none), "_law_of", "_law_of", defArgs s_law_of, defBody s_law_of, defScope s_law_of, [], []⟩
def d_law_signs : He.DefD := ⟨("_law_signs", none), "_law_signs", "_law_signs", defArgs s_law_signs, defBody s_law_signs, defScope s_law_signs, [], []⟩
def d_law_piece_by : He.DefD := ⟨("_law_piece_by", none), "_law_piece_by", "_law_piece_by", defArgs s_law_piece_by, defBody s_law_piece_by, defScope s_law_piece_by, [], []⟩
def d_law_broken_by : He.DefD := ⟨("_law_broken_by", none), "_law_broken_by", "_law_broken_by", defArgs s_law_broken_by, defBody s_law_broken_by, defScope s_law_broken_by, [], []⟩
def d_law_read : He.DefD := ⟨("_law_read", none), "_law_read", "_law_read", defArgs s_law_read, defBody s_law_read, defScope s_law_read, [], []⟩
def d_sign_of : He.DefD := ⟨("_sign_of", none), "_sign_of", "_sign_of", defArgs s_sign_of, defBody s_sign_of, defScope s_sign_of, [], []⟩
def d_name_of : He.DefD := ⟨("name_of", none), "name_of", "name_of", defArgs s_name_of, defBody s_name_of, defScope s_name_of, [], []⟩
def d_law : He.DefD := ⟨("law", none), "law", "law", defArgs s_law, defBody s_law, defScope s_law, [], []⟩
def fn : List He.DefD := [d_law_of, d_law_signs, d_law_piece_by, d_law_broken_by, d_law_read, d_sign_of, d_name_of, d_law]
def fa : List He.Fa := [.glo "law", .glo "_law_of", .glo "_law_signs", .glo "_law_piece_by", .glo "_law_broken_by", .glo "_law_read", .glo "_sign_of", .glo "name_of", .free "str", .free "len", .free "int", .free "range", .free "isinstance", .free "ValueError", .str "SIGNS" " !\"#$&'()*+,-./0123456789:;<=>?@ABCDEFGHIJKLMNOPQRSTUVWXYZ[\\]^_`abcdefghijklmnopqrstuvwxyz{|}~", .str "TILDE" "~", .glo "BadEscape", .exc "BadEscape", .glo "PathError", .exc "PathError"]
def ex (K : PySem.W.Frag) : Bool := excB K (He.ga K "BadEscape") && (kitE K (He.ga K "BadEscape") (.type "ValueError") true && He.Fa.ok K (.exm "BadEscape" "PathError" true))
abbrev R : PySem.W.OpenRow := PySem.W.OpenLaw.row PySem.Challenge.rw_plainway_k01_a_part_told
abbrev hk : PySem.W.Hook := hookP 4 fa fn ex
def ob (s : PySem.W.SharedT) : AlP := obsP 4 fa fn ex (HandSHeadRun.getT s)
theorem ob_eq (s : PySem.W.SharedT) : ob s = hk.obs s.abs := obsP_eq (HandSHeadRun.getT_eq s)
def loose : List PySem.Str := ["PathError", "BadEscape", "name_of", "_sign_of", "_law_of", "_law_signs", "_law_read", "_law_piece_by", "_law_broken_by", "SIGNS", "TILDE"]
theorem run (w : World) : HandSHeadRun.RunEq R (PySem.W.view R.prog [14]) hk ob 6000 loose w := by
  intro os
  kernel_rfl
def ad (K : PySem.W.Frag) : Ad := { K := K, cPath := He.ga K "PathError", cBad := He.ga K "BadEscape", cNo := He.ga K "NoShare", cRing := He.ga K "Ring", cShares := He.ga K "Shares" }
theorem facts {P : Program} {w : World} {K : PySem.W.Frag} {h : Heap} {mg : Str → Option Value} {f : Addr} (X : K.In h) (G : h.Ns mainGlobals mg) (hfa : mg ("law" : Str) = some (.ref f)) (s : He.SaysD fa fn K) (z : ex K = true) :
    ∃ fd : FuncData, (∀ (s : Shared) (v : Value), BindsTo s fd ⟨[v], []⟩ [("_law_script", v)]) ∧ ∀ base : Heap, K.In base → base.Ns mainGlobals mg → FnOk P w K mg base CX0 3 f fd ["_law_script"] (sp_law (ad K)) := by
  obtain ⟨fd_law_of, F_law_of⟩ := s.def_ 0 (d := d_law_of) rfl
  have mf_law_of := He.glo_ok X G (s.fact 1 (f := .glo "_law_of") rfl)
  obtain ⟨fd_law_signs, F_law_signs⟩ := s.def_ 1 (d := d_law_signs) rfl
  have mf_law_signs := He.glo_ok X G (s.fact 2 (f := .glo "_law_signs") rfl)
  obtain ⟨fd_law_piece_by, F_law_piece_by⟩ := s.def_ 2 (d := d_law_piece_by) rfl
  have mf_law_piece_by := He.glo_ok X G (s.fact 3 (f := .glo "_law_piece_by") rfl)
  obtain ⟨fd_law_broken_by, F_law_broken_by⟩ := s.def_ 3 (d := d_law_broken_by) rfl
  have mf_law_broken_by := He.glo_ok X G (s.fact 4 (f := .glo "_law_broken_by") rfl)
  obtain ⟨fd_law_read, F_law_read⟩ := s.def_ 4 (d := d_law_read) rfl
  have mf_law_read := He.glo_ok X G (s.fact 5 (f := .glo "_law_read") rfl)
  obtain ⟨fd_sign_of, F_sign_of⟩ := s.def_ 5 (d := d_sign_of) rfl
  have mf_sign_of := He.glo_ok X G (s.fact 6 (f := .glo "_sign_of") rfl)
  obtain ⟨fd_name_of, F_name_of⟩ := s.def_ 6 (d := d_name_of) rfl
  have mf_name_of := He.glo_ok X G (s.fact 7 (f := .glo "name_of") rfl)
  obtain ⟨fd_law, F_law⟩ := s.def_ 7 (d := d_law) rfl
  have mf_law := He.glo_ok X G (s.fact 0 (f := .glo "law") rfl)
  have m_str := He.free_ok X G (s.fact 8 (f := .free "str") rfl)
  have m_len := He.free_ok X G (s.fact 9 (f := .free "len") rfl)
  have m_int := He.free_ok X G (s.fact 10 (f := .free "int") rfl)
  have m_range := He.free_ok X G (s.fact 11 (f := .free "range") rfl)
  have m_isinstance := He.free_ok X G (s.fact 12 (f := .free "isinstance") rfl)
  have m_ValueError := He.free_ok X G (s.fact 13 (f := .free "ValueError") rfl)
  have g_SIGNS := He.str_ok X G (s.fact 14 (f := .str "SIGNS" " !\"#$&'()*+,-./0123456789:;<=>?@ABCDEFGHIJKLMNOPQRSTUVWXYZ[\\]^_`abcdefghijklmnopqrstuvwxyz{|}~") rfl)
  have g_TILDE := He.str_ok X G (s.fact 15 (f := .str "TILDE" "~") rfl)
  have x_BadEscape := ex_ok X G (s.fact 16 (f := .glo "BadEscape") rfl) (s.fact 17 (f := .exc "BadEscape") rfl)
  have x_PathError := ex_ok X G (s.fact 18 (f := .glo "PathError") rfl) (s.fact 19 (f := .exc "PathError") rfl)
  obtain ⟨z1, z2⟩ := He.ba z
  obtain ⟨z2, z3⟩ := He.ba z2
  have xc_BadEscape : ExcC (ad K).K (ad K).cBad := excB_ok z1
  have e := hfa.symm.trans mf_law
  cases e
  have b := FunD.bindsA (ps := ["_law_script"]) F_law fun _ _ _ _ _ _ us hl => match us, hl with | [_], _ => rfl
  refine ⟨fd_law, fun s v => b s [v] rfl, fun base _ _ => ?_⟩
  have C_law_of := ok_law_of (P := P) (w := w) (c := ad K) (mg := mg) (base := base) F_law_of mf_law_of 
  have C_law_signs := ok_law_signs (P := P) (w := w) (c := ad K) (mg := mg) (base := base) F_law_signs mf_law_signs 
  have C_law_piece_by := ok_law_piece_by (P := P) (w := w) (c := ad K) (mg := mg) (base := base) F_law_piece_by mf_law_piece_by C_law_signs m_str
  have C_law_broken_by := ok_law_broken_by (P := P) (w := w) (c := ad K) (mg := mg) (base := base) F_law_broken_by mf_law_broken_by m_str
  have C_law_read := ok_law_read (P := P) (w := w) (c := ad K) (mg := mg) (base := base) F_law_read mf_law_read m_len m_int C_law_signs
  have C_sign_of := ok_sign_of (P := P) (w := w) (c := ad K) (mg := mg) (base := base) F_sign_of mf_sign_of m_len x_BadEscape m_int g_SIGNS
  have C_name_of := ok_name_of (P := P) (w := w) (c := ad K) (mg := mg) (base := base) F_name_of mf_name_of g_TILDE C_sign_of
  have C_law := ok_law (P := P) (w := w) (c := ad K) (mg := mg) (base := base) F_law mf_law C_law_of m_range C_law_piece_by m_len C_law_broken_by C_law_read x_PathError C_name_of m_isinstance x_BadEscape m_ValueError m_str xc_BadEscape (He.exm_ok z3) (kitE_ok z2)
  exact C_law.ok
end PlRow
open PySem PySem.W PySem.Calls PyProof.Rows
set_option maxRecDepth 100000 in
set_option maxHeartbeats 0 in
theorem PySem.Challenge.cw_plainway_k01_a_part_told_holds : PySem.Challenge.rw_plainway_k01_a_part_told.Holds := by
  w_on; o_law
  refine HandSHeadRun.head_any (r := OpenLaw.row PySem.Challenge.rw_plainway_k01_a_part_told) (q := view (OpenLaw.row PySem.Challenge.rw_plainway_k01_a_part_told).prog [14]) (H := PlRow.hk) (ob := PlRow.ob) (M := 6000) (loose := PlRow.loose) (d := HandSHeadRun.topDef (OpenLaw.row PySem.Challenge.rw_plainway_k01_a_part_told).prog 14) (kwd := []) PlRow.ob_eq
    (by kernel_rfl) (fun s => by kernel_rfl) PlRow.run (by kernel_rfl) (by kernel_rfl) (by kernel_rfl) (by rfl) (by first | assumption | decide +kernel) (by decide +kernel) ⟨rfl, rfl, rfl, rfl, rfl, by decide +kernel⟩ ?hw ?hc
  case hw => w_witness2
  case hc =>
    refine L2.walk_ofE (l := PySem.Challenge.rw_plainway_k01_a_part_told) (n := 63) (k := 3) (x := "_law_script") (CX := L2.CX0) rfl (by decide) (by kernel_rfl) ⟨rfl, by decide, by decide⟩ ?F (fun _ _ _ _ z => z)
    intro w mg fa h Y G hmg0
    obtain ⟨K, KX, c, z⟩ := Y
    have hmg : mg ("law" : PySem.Str) = some (.ref fa) := by
      have e : (HandSHeadRun.topDef (OpenLaw.row PySem.Challenge.rw_plainway_k01_a_part_told).prog 14).name = ("law" : PySem.Str) := by kernel_rfl
      rw [← e]
      exact hmg0
    obtain ⟨fd, hb, hF⟩ := PlRow.facts (P := (PySem.Challenge.rw_plainway_k01_a_part_told).prog) (w := w) KX G hmg c z
    exact ⟨K, fd, Pl.sp_law (PlRow.ad K), KX, hb, fun H a ns hl _ hS => ⟨a, ns, rfl, hS, hl, fun _ => rfl⟩, hF⟩
