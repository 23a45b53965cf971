import PyProof.Rows.All
import Wide.All
import OpenK.AllK
import Wide.FinOn
import HandS.ForMost
import HandS.ForExc
import HandS.Evl
import HandS.Conv
import HandS.Wide
import HandS.IsInst
import HandS.RevRange
import PyProof.CollectIter
import PyProof.FactsAll.range_iterator_1
import HandS.Base
import HandS.Call
import HandS.AnyAll
import PySem.Challenge.RW_changeview_k06_widths_told
import HandS.HotCalls
import HandS.ExcIs
import HandS.Star
import HandS.EndTab
import KE.KNest
import HandS.Ends
import HandS.EndBits
set_option Elab.async false
set_option linter.all false
set_option maxRecDepth 100000
set_option maxHeartbeats 4000000
/-! KB: what a reading establishes (Est), promises as functions of what stands ahead; defs of the text by name. -/
namespace KB
open PySem PySem.Spec PyProof.Rows L2 Evl

/-! ### what stands when objects are only added -/
def Pers (P : Hp → Prop) : Prop := ∀ H H', Ex H H' → P H → P H'
theorem Pers.c (p : Prop) : Pers (fun _ => p) := fun _ _ _ h => h
theorem Pers.and {P R : Hp → Prop} (p : Pers P) (r : Pers R) : Pers (fun H => P H ∧ R H) := fun H H' e h => ⟨p H H' e h.1, r H H' e h.2⟩
theorem Pers.or {P R : Hp → Prop} (p : Pers P) (r : Pers R) : Pers (fun H => P H ∨ R H) := fun H H' e h => h.imp (p H H' e) (r H H' e)
theorem Pers.ex {α : Type} {P : α → Hp → Prop} (p : ∀ a, Pers (P a)) : Pers (fun H => ∃ a, P a H) := fun H H' e ⟨a, h⟩ => ⟨a, p a H H' e h⟩
theorem Pers.all {α : Type} {P : α → Hp → Prop} (p : ∀ a, Pers (P a)) : Pers (fun H => ∀ a, P a H) := fun H H' e h a => p a H H' e (h a)
theorem Pers.at {p : Addr} {o : HO} : Pers (fun H => H p = some o) := fun _ _ e h => e _ _ h
theorem Pers.sl {K : PySem.W.Frag} {p : Addr} {xs : List V} : Pers (fun H => SqL K H p xs) := fun _ _ e h => ex_l e h
theorem Pers.st {K : PySem.W.Frag} {p : Addr} {xs : List V} : Pers (fun H => SqT K H p xs) := fun _ _ e h => ex_t e h

/-! ### readings -/
def Est (te : TE) (σ : L2.St) (H : Hp) (P : V → Hp → Prop) : Prop := ∀ H1, Ex H H1 → ∀ Q : VK, (∀ v H2, Ex H1 H2 → P v H2 → Q v H2) → te σ H1 Q
def EstA (ta : TA) (σ : L2.St) (H : Hp) (P : List V → Hp → Prop) : Prop := ∀ H1, Ex H H1 → ∀ Q : List V → Hp → Prop, (∀ vs H2, Ex H1 H2 → P vs H2 → Q vs H2) → ta σ H1 Q
def EstT (tt : TT) (σ : L2.St) (H : Hp) (P : Bool → Prop) : Prop := ∀ H1, Ex H H1 → ∀ Q : Bool → Hp → Prop, (∀ b H2, Ex H1 H2 → P b → Q b H2) → tt σ H1 Q
section
variable {K : PySem.W.Frag} {σ : L2.St} {H H' : Hp} {ta tb te tx : TE} {t u : TT} {x y z v : V} {r : R2} {P R : V → Hp → Prop} {D : Ends} {tz tu tw : TS}
theorem Est.mono (e : Ex H H') (h : Est te σ H P) : Est te σ H' P := fun H1 a Q q => h H1 (e.trans a) Q q
theorem EstA.mono {ta : TA} {P : List V → Hp → Prop} (e : Ex H H') (h : EstA ta σ H P) : EstA ta σ H' P := fun H1 a Q q => h H1 (e.trans a) Q q
theorem Est.imp (h : Est te σ H P) (f : ∀ v H', Ex H H' → P v H' → R v H') : Est te σ H R := fun H1 e Q q => h H1 e Q fun v H2 e2 p => q v H2 e2 (f v H2 (e.trans e2) p)
theorem EstA.imp {ta : TA} {P R : List V → Hp → Prop} (h : EstA ta σ H P) (f : ∀ v H', Ex H H' → P v H' → R v H') : EstA ta σ H R := fun H1 e Q q => h H1 e Q fun v H2 e2 p => q v H2 e2 (f v H2 (e.trans e2) p)
theorem est_ev (h : Ev te σ H v) : Est te σ H (fun w _ => w = v) := fun H1 e Q q => h H1 e Q fun H2 e2 => q v H2 e2 rfl
theorem ev_est (h : Est te σ H (fun w _ => w = v)) : Ev te σ H v := fun H1 e Q q => h H1 e Q fun w H2 e2 p => by rw [p]; exact q H2 e2
theorem est_var (h : σ[i]? = some (some v)) (p : P v H) (pp : Pers (P v)) : Est (tVar i) σ H P := fun H1 e Q q => ⟨v, h, q v H1 (Ex.refl H1) (pp _ _ e p)⟩
/-- a part first, what it gives a letter of the rest -/
theorem est_tup {ta : TA} {P : List V → Hp → Prop} (h : EstA ta σ H P) (hl : ∀ vs H', P vs H' → vs.length ≤ 100000) (pp : ∀ vs, Pers (P vs)) : Est (tTup ta) σ H (fun v H' => ∃ p vs, v = .ref p ∧ H p = none ∧ H' p = some (.tup vs) ∧ P vs H') := fun H1 e Q q =>
  h H1 e _ fun vs H2 e2 hp => ⟨sz_of (hl vs H2 hp), fun p hn => q _ _ (e2.trans (Ex.new hn)) ⟨p, vs, rfl, fresh_back (e.trans e2) hn, upd_same, pp vs _ _ (Ex.new hn) hp⟩⟩
theorem est_lst {ta : TA} {P : List V → Hp → Prop} (h : EstA ta σ H P) (hl : ∀ vs H', P vs H' → vs.length ≤ 100000) (pp : ∀ vs, Pers (P vs)) : Est (tLst ta) σ H (fun v H' => ∃ p vs, v = .ref p ∧ H p = none ∧ H' p = some (.lst vs) ∧ P vs H') := fun H1 e Q q =>
  h H1 e _ fun vs H2 e2 hp => ⟨sz_of (hl vs H2 hp), fun p hn => q _ _ (e2.trans (Ex.new hn)) ⟨p, vs, rfl, fresh_back (e.trans e2) hn, upd_same, pp vs _ _ (Ex.new hn) hp⟩⟩
theorem esta_nil {P : List V → Hp → Prop} (p : ∀ H', Ex H H' → P [] H') : EstA tNil σ H P := fun H1 e _ q => q [] H1 (Ex.refl H1) (p H1 e)
theorem esta_cons {tr : TA} {S : List V → Hp → Prop} (h : Est ta σ H P) (hr : EstA tr σ H S) (pp : ∀ v, Pers (P v)) : EstA (tCons ta tr) σ H (fun vs H' => ∃ v r, vs = v :: r ∧ P v H' ∧ S r H') := fun H1 e _ q =>
  h H1 e _ fun v H2 e2 hv => hr H2 (e.trans e2) _ fun r H3 e3 hs => q _ H3 (e2.trans e3) ⟨v, r, rfl, pp v _ _ e3 hv, hs⟩
/-- items all of one kind -/
def AllZ (Z : V → Hp → Prop) (n : Nat) (vs : List V) (H : Hp) : Prop := vs.length = n ∧ ∀ v ∈ vs, Z v H
theorem AllZ.pers {Z : V → Hp → Prop} (pz : ∀ v, Pers (Z v)) {n : Nat} (vs : List V) : Pers (AllZ Z n vs) := fun H H' e h => ⟨h.1, fun v hv => pz v H H' e (h.2 v hv)⟩
theorem allz_nil {Z : V → Hp → Prop} : EstA tNil σ H (AllZ Z 0) := esta_nil fun _ _ => ⟨rfl, fun v hv => absurd hv (by simp)⟩
theorem allz_cons {tr : TA} {Z : V → Hp → Prop} {n : Nat} (h : Est ta σ H Z) (hr : EstA tr σ H (AllZ Z n)) (pz : ∀ v, Pers (Z v)) : EstA (tCons ta tr) σ H (AllZ Z (n + 1)) :=
  (esta_cons h hr pz).imp fun vs H' _ ⟨v, r, e, hv, hr⟩ => ⟨by rw [e, List.length_cons, hr.1], fun w hw => by
    rw [e] at hw
    rcases List.mem_cons.mp hw with q | q
    · rw [q]; exact hv
    · exact hr.2 w q⟩
theorem est_call {sp : Sp} {dvs : List V} {E : XK} {ta : TA} {PA : List V → Hp → Prop} (h : EstA ta σ H PA) (hs : ∀ vs H1, Ex H H1 → PA vs H1 → ∀ Q : VK, (∀ v H2, Ex H1 H2 → P v H2 → Q v H2) → sp (vs ++ dvs) H1 Q E) : Est (tCall sp dvs E ta) σ H P := fun H1 e Q q =>
  h H1 e _ fun vs H2 e2 hp => hs vs H2 (e.trans e2) hp Q fun v H3 e3 p => q v H3 (e2.trans e3) p
theorem est_op (ha : Est ta σ H P) (hb : Est tb σ H R) (pp : ∀ v, Pers (P v)) {S : V → Hp → Prop} (hr : ∀ x y H1, Ex H H1 → P x H1 → R y H1 → ∀ Q : VK, (∀ v H2, Ex H1 H2 → S v H2 → Q v H2) → r x y H1 Q) : Est (tOp r ta tb) σ H S := fun H1 e Q q =>
  ha H1 e _ fun x H2 e2 px => hb H2 (e.trans e2) _ fun y H3 e3 py => hr x y H3 ((e.trans e2).trans e3) (pp x _ _ e3 px) py Q fun v H4 e4 s => q v H4 ((e2.trans e3).trans e4) s
theorem est_cb {rc : List V → Hp → VK → Prop} {ta : TA} {PA : List V → Hp → Prop} (h : EstA ta σ H PA) (hr : ∀ vs H1, Ex H H1 → PA vs H1 → ∀ Q : VK, (∀ v H2, Ex H1 H2 → P v H2 → Q v H2) → rc vs H1 Q) : Est (tCB rc ta) σ H P := fun H1 e Q q =>
  h H1 e _ fun vs H2 e2 hp => hr vs H2 (e.trans e2) hp Q fun v H3 e3 p => q v H3 (e2.trans e3) p
theorem est_if {b : Bool} (h : EvT t σ H b) (h1 : b = true → Est ta σ H P) (h2 : b = false → Est tb σ H P) : Est (tIf t ta tb) σ H P := fun H1 e Q q => h H1 e _ fun H2 e2 => by
  cases b with
  | true => exact h1 rfl H2 (e.trans e2) Q fun v H3 e3 => q v H3 (e2.trans e3)
  | false => exact h2 rfl H2 (e.trans e2) Q fun v H3 e3 => q v H3 (e2.trans e3)
/-! statements -/
theorem w_asg {i : Nat} (h : Est te σ H P) (k : ∀ v H1, Ex H H1 → P v H1 → tz D (σ.set i (some v)) H1) : tSeq (tAsg te (gName i)) tz D σ H := h H (Ex.refl H) _ fun v H1 e p => k v H1 e p
theorem w_ret (h : Est te σ H P) (k : ∀ v H1, Ex H H1 → P v H1 → D.rt v H1) : tRet te D σ H := h H (Ex.refl H) _ k
theorem w_unp {K : PySem.W.Frag} {n : Nat} {g : TGs} (h : Est te σ H (fun v H' => ∃ p vs, v = .ref p ∧ SqT K H' p vs ∧ vs.length = n ∧ R (.ref p) H' ∧ P (.ref p) H')) (k : ∀ p vs H1, Ex H H1 → SqT K H1 p vs → vs.length = n → R (.ref p) H1 → P (.ref p) H1 → g vs σ H1 fun σ' H' => tz D σ' H') : tSeq (tAsg te (gTup K n g)) tz D σ H :=
  h H (Ex.refl H) _ fun v H1 e ⟨p, vs, ev, hs, hn, hr, hp⟩ => ⟨p, vs, ev, hs, hn, k p vs H1 e hs hn hr hp⟩
theorem w_ifE (h : EvT t σ H b) (h1 : b = true → ∀ H1, Ex H H1 → tu { D with nx := tz D } σ H1) (h2 : b = false → ∀ H1, Ex H H1 → tw { D with nx := tz D } σ H1) : tSeq (tIfS t tu tw) tz D σ H := q_if h h1 h2
end
/-! ### a def by its name -/
structure FnAt (K : PySem.W.Frag) (mg : Str → Option Value) (x : Str) (st : Stmt) (ps : List Str) (f : Addr) (fd : FuncData) : Prop where
  g : mg x = some (.ref f)
  F : Fun K x x st f fd
  b : Binds K fd ps []
/-- built-in names that the top leaves alone -/
structure Bt (mg : Str → Option Value) : Prop where
  len : mg "len" = none
  range : mg "range" = none
  tuple : mg "tuple" = none
  list : mg "list" = none
  int : mg "int" = none
  bool : mg "bool" = none
  isinstance : mg "isinstance" = none
  min : mg "min" = none
  reversed : mg "reversed" = none
/-- a promise: what it asks of the values and the heap, what it says of the answer -/
def SpF (n : Nat) (Pre : List V → Hp → Prop) (Post : List V → V → Hp → Prop) : Sp := fun vs H Q _ => vs.length = n ∧ Pre vs H ∧ ∀ v H', Ex H H' → Post vs v H' → Q v H'
end KB

/-! KV: views as they stand in the heap, their widths. -/
namespace KB
open PySem PySem.Spec PyProof.Rows L2 Evl
inductive View where
  | table (t : Int) | within (v : View) (c : Int) (lo hi : V) | columns (v : View) (cs : List Int) | both (v w : View) | less (v w : View)
  | meet (v w : View) (ps : List (Int × Int)) | once (v : View) | sums (v : View) (ks : List Int) (c : Int) | reach (v : View) | odd (x : Str) (v w : View)
def EndV (x : V) : Prop := x = .non ∨ ∃ i, x = .int i
def nine : List Str := ["table", "within", "columns", "both", "less", "meet", "once", "sums", "reach"]
/-- words that are none of the nine -/
def four : List Str := ["Table", "", "join", "meets"]
theorem four_nine {o : Str} (h : o ∈ four) : o ∉ nine := by
  have all : ∀ o ∈ four, o ∉ nine := by decide
  exact all o h
/-- pairs of columns: tuples of two -/
def PairsAt (H : Hp) (q : Addr) (ps : List (Int × Int)) : Prop := ∃ rs : List Addr, H q = some (.tup (rs.map V.ref)) ∧ Paired (fun (r : Addr) (p : Int × Int) => H r = some (.tup [.int p.1, .int p.2])) rs ps
def VAt (H : Hp) : View → V → Prop
  | .table t, x => ∃ p, x = .ref p ∧ H p = some (.tup [.str "table", .int t])
  | .within v c lo hi, x => ∃ p y, x = .ref p ∧ H p = some (.tup [.str "within", y, .int c, lo, hi]) ∧ VAt H v y ∧ EndV lo ∧ EndV hi
  | .columns v cs, x => ∃ p y q, x = .ref p ∧ H p = some (.tup [.str "columns", y, .ref q]) ∧ VAt H v y ∧ H q = some (.tup (cs.map V.int))
  | .both v w, x => ∃ p y z, x = .ref p ∧ H p = some (.tup [.str "both", y, z]) ∧ VAt H v y ∧ VAt H w z
  | .less v w, x => ∃ p y z, x = .ref p ∧ H p = some (.tup [.str "less", y, z]) ∧ VAt H v y ∧ VAt H w z
  | .meet v w ps, x => ∃ p y z q, x = .ref p ∧ H p = some (.tup [.str "meet", y, z, .ref q]) ∧ VAt H v y ∧ VAt H w z ∧ PairsAt H q ps
  | .once v, x => ∃ p y, x = .ref p ∧ H p = some (.tup [.str "once", y]) ∧ VAt H v y
  | .sums v ks c, x => ∃ p y q, x = .ref p ∧ H p = some (.tup [.str "sums", y, .ref q, .int c]) ∧ VAt H v y ∧ H q = some (.tup (ks.map V.int))
  | .reach v, x => ∃ p y, x = .ref p ∧ H p = some (.tup [.str "reach", y]) ∧ VAt H v y
  | .odd o v w, x => ∃ p y z, x = .ref p ∧ H p = some (.tup [.str o, y, z]) ∧ VAt H v y ∧ VAt H w z ∧ o ∈ four
theorem Paired.imp' {α β : Type} {F G : α → β → Prop} : ∀ {l : List α} {m : List β}, Paired F l m → (∀ a b, F a b → G a b) → Paired G l m := fun h f => L2.Paired.mapP h f
theorem PairsAt.pers {q : Addr} {ps : List (Int × Int)} : Pers (fun H => PairsAt H q ps) := fun H H' e ⟨rs, h, p⟩ => ⟨rs, e _ _ h, L2.Paired.mapP p fun _ _ z => e _ _ z⟩
theorem VAt.pers : ∀ (v : View) (x : V), Pers (fun H => VAt H v x)
  | .table t, x => fun H H' e ⟨p, a, b⟩ => ⟨p, a, e _ _ b⟩
  | .within v c lo hi, x => fun H H' e ⟨p, y, a, b, c, d⟩ => ⟨p, y, a, e _ _ b, VAt.pers v y H H' e c, d⟩
  | .columns v cs, x => fun H H' e ⟨p, y, q, a, b, c, d⟩ => ⟨p, y, q, a, e _ _ b, VAt.pers v y H H' e c, e _ _ d⟩
  | .both v w, x => fun H H' e ⟨p, y, z, a, b, c, d⟩ => ⟨p, y, z, a, e _ _ b, VAt.pers v y H H' e c, VAt.pers w z H H' e d⟩
  | .less v w, x => fun H H' e ⟨p, y, z, a, b, c, d⟩ => ⟨p, y, z, a, e _ _ b, VAt.pers v y H H' e c, VAt.pers w z H H' e d⟩
  | .meet v w ps, x => fun H H' e ⟨p, y, z, q, a, b, c, d, f⟩ => ⟨p, y, z, q, a, e _ _ b, VAt.pers v y H H' e c, VAt.pers w z H H' e d, PairsAt.pers H H' e f⟩
  | .once v, x => fun H H' e ⟨p, y, a, b, c⟩ => ⟨p, y, a, e _ _ b, VAt.pers v y H H' e c⟩
  | .sums v ks c, x => fun H H' e ⟨p, y, q, a, b, c, d⟩ => ⟨p, y, q, a, e _ _ b, VAt.pers v y H H' e c, e _ _ d⟩
  | .reach v, x => fun H H' e ⟨p, y, a, b, c⟩ => ⟨p, y, a, e _ _ b, VAt.pers v y H H' e c⟩
  | .odd o v w, x => fun H H' e ⟨p, y, z, a, b, c, d, f⟩ => ⟨p, y, z, a, e _ _ b, VAt.pers v y H H' e c, VAt.pers w z H H' e d, f⟩
/-- nested below n, its lists short -/
def VOk : Nat → View → Prop
  | 0, _ => False
  | _ + 1, .table _ => True
  | n + 1, .within v _ _ _ => VOk n v
  | n + 1, .columns v cs => VOk n v ∧ cs.length ≤ 1000
  | n + 1, .both v w => VOk n v ∧ VOk n w
  | n + 1, .less v w => VOk n v ∧ VOk n w
  | n + 1, .meet v w ps => VOk n v ∧ VOk n w ∧ ps.length ≤ 1000
  | n + 1, .once v => VOk n v
  | n + 1, .sums v ks _ => VOk n v ∧ ks.length ≤ 1000
  | n + 1, .reach v => VOk n v
  | n + 1, .odd _ v w => VOk n v ∧ VOk n w
theorem VOk.up : ∀ {n : Nat} {v : View}, VOk n v → VOk (n + 1) v
  | 0, _, h => h.elim
  | n + 1, .table _, h => True.intro
  | n + 1, .within v _ _ _, h => VOk.up (n := n) (v := v) h
  | n + 1, .columns v cs, h => ⟨VOk.up (n := n) h.1, h.2⟩
  | n + 1, .both v w, h => ⟨VOk.up (n := n) h.1, VOk.up (n := n) h.2⟩
  | n + 1, .less v w, h => ⟨VOk.up (n := n) h.1, VOk.up (n := n) h.2⟩
  | n + 1, .meet v w ps, h => ⟨VOk.up (n := n) h.1, VOk.up (n := n) h.2.1, h.2.2⟩
  | n + 1, .once v, h => VOk.up (n := n) (v := v) h
  | n + 1, .sums v ks _, h => ⟨VOk.up (n := n) h.1, h.2⟩
  | n + 1, .reach v, h => VOk.up (n := n) (v := v) h
  | n + 1, .odd _ v w, h => ⟨VOk.up (n := n) h.1, VOk.up (n := n) h.2⟩
theorem VOk.le {n m : Nat} {v : View} (h : VOk n v) (l : n ≤ m) : VOk m v := by
  induction l with
  | refl => exact h
  | step _ ih => exact ih.up
/-- a view, nested below n -/
def IsView (n : Nat) (x : V) (H : Hp) : Prop := ∃ v, VOk n v ∧ VAt H v x
theorem IsView.pers (n : Nat) (x : V) : Pers (IsView n x) := fun H H' e ⟨v, a, b⟩ => ⟨v, a, VAt.pers v x H H' e b⟩
theorem IsView.le {n m : Nat} {x : V} {H : Hp} (h : IsView n x H) (l : n ≤ m) : IsView m x H := let ⟨v, a, b⟩ := h; ⟨v, a.le l, b⟩
/-- columns that are there -/
def inW (w : Int) (c : Int) : Bool := decide (0 ≤ c) && decide (c < w)
def cap (n : Int) : Option Int := if n ≤ 40 then some n else none
def widthOf (ws : List Int) : View → Option Int
  | .table t => if 0 ≤ t ∧ t < ws.length then ws[t.toNat]? else none
  | .within v c _ _ => (widthOf ws v).bind fun w => if inW w c = true then some w else none
  | .columns v cs => (widthOf ws v).bind fun w => if cs ≠ [] ∧ cs.all (inW w) = true then cap cs.length else none
  | .both v w => (widthOf ws v).bind fun a => (widthOf ws w).bind fun b => if a = b then some a else none
  | .less v w => (widthOf ws v).bind fun a => (widthOf ws w).bind fun b => if a = b then some a else none
  | .meet v w ps => (widthOf ws v).bind fun a => (widthOf ws w).bind fun b => if (ps.map (·.1)).all (inW a) = true ∧ (ps.map (·.2)).all (inW b) = true then cap (a + b) else none
  | .once v => widthOf ws v
  | .sums v ks c => (widthOf ws v).bind fun w => if ks.all (inW w) = true ∧ inW w c = true then cap (ks.length + 2) else none
  | .reach v => (widthOf ws v).bind fun w => if w = 2 then some 2 else none
  | .odd _ _ _ => none
end KB

/-! KV2: readings that make views. -/
namespace KB
open PySem PySem.Spec PyProof.Rows L2 Evl
theorem le5 (n : Nat) {l : List V} (h : l.length = n) (h2 : n ≤ 100000) : l.length ≤ 100000 := by omega
def IsInt (v : V) (_ : Hp) : Prop := ∃ c : Int, v = .int c
def IsEnd (v : V) (_ : Hp) : Prop := EndV v
def IsCols (v : V) (H : Hp) : Prop := ∃ (p : Addr) (xs : List Int), v = .ref p ∧ H p = some (.tup (xs.map V.int)) ∧ xs.length ≤ 1000
def IsPair (v : V) (H : Hp) : Prop := ∃ (p : Addr) (a b : Int), v = .ref p ∧ H p = some (.tup [.int a, .int b])
def IsPairs (v : V) (H : Hp) : Prop := ∃ (q : Addr) (ps : List (Int × Int)), v = .ref q ∧ PairsAt H q ps ∧ ps.length ≤ 1000
def IsEnds (v : V) (H : Hp) : Prop := ∃ (p : Addr) (a b : V), v = .ref p ∧ H p = some (.tup [a, b]) ∧ EndV a ∧ EndV b
theorem IsInt.pers (v : V) : Pers (IsInt v) := fun _ _ _ h => h
theorem IsEnd.pers (v : V) : Pers (IsEnd v) := fun _ _ _ h => h
theorem IsCols.pers (v : V) : Pers (IsCols v) := fun H H' e ⟨p, xs, a, b, c⟩ => ⟨p, xs, a, e _ _ b, c⟩
theorem IsPair.pers (v : V) : Pers (IsPair v) := fun H H' e ⟨p, x, y, a, b⟩ => ⟨p, x, y, a, e _ _ b⟩
theorem IsPairs.pers (v : V) : Pers (IsPairs v) := fun H H' e ⟨p, x, a, b, c⟩ => ⟨p, x, a, PairsAt.pers H H' e b, c⟩
theorem IsEnds.pers (v : V) : Pers (IsEnds v) := fun H H' e ⟨p, x, y, a, b, c⟩ => ⟨p, x, y, a, e _ _ b, c⟩
theorem ints_of {vs : List V} {H : Hp} (h : ∀ v ∈ vs, IsInt v H) : ∃ xs : List Int, vs = xs.map V.int := by
  induction vs with
  | nil => exact ⟨[], rfl⟩
  | cons v r ih =>
    obtain ⟨xs, e⟩ := ih fun w hw => h w (List.mem_cons_of_mem _ hw)
    obtain ⟨c, ec⟩ := h v List.mem_cons_self
    exact ⟨c :: xs, by rw [e, ec, List.map_cons]⟩
theorem pairs_of_all {vs : List V} {H : Hp} (h : ∀ v ∈ vs, IsPair v H) : ∃ (rs : List Addr) (ps : List (Int × Int)), vs = rs.map V.ref ∧ Paired (fun (r : Addr) (p : Int × Int) => H r = some (.tup [.int p.1, .int p.2])) rs ps ∧ ps.length = vs.length := by
  induction vs with
  | nil => exact ⟨[], [], rfl, .nil, rfl⟩
  | cons v r ih =>
    obtain ⟨rs, ps, e, pr, l⟩ := ih fun w hw => h w (List.mem_cons_of_mem _ hw)
    obtain ⟨p, a, b, ev, hp⟩ := h v List.mem_cons_self
    exact ⟨p :: rs, (a, b) :: ps, by rw [e, ev, List.map_cons], .cons hp pr, by rw [List.length_cons, List.length_cons, l]⟩
section
variable {K : PySem.W.Frag} {σ : L2.St} {H H' : Hp} {ta tb t1 t2 t3 t4 t5 te : TE} {P1 P2 P3 P4 P5 : V → Hp → Prop} {tA : TA} {Z : V → Hp → Prop} {n d : Nat}
theorem est_t1 (h1 : Est t1 σ H P1) (p1 : ∀ v, Pers (P1 v)) : Est (tTup (tCons t1 tNil)) σ H (fun v H' => ∃ p a, v = .ref p ∧ H' p = some (.tup [a]) ∧ P1 a H') :=
  (est_tup (esta_cons h1 (P := P1) (esta_nil (P := fun vs _ => vs = []) fun _ _ => rfl) p1) (fun vs H' ⟨v, r, e, _, e2⟩ => by rw [e, e2]; exact le5 _ rfl (by simp only [List.length_cons, List.length_nil]; omega)) (fun vs => Pers.ex fun v => Pers.ex fun r => (Pers.c _).and ((p1 v).and (Pers.c _)))).imp
    fun v H' _ ⟨p, vs, e, _, hp, a, r, e1, h1, e2⟩ => ⟨p, a, e, by rw [hp, e1, e2], h1⟩
theorem esta_1 (h1 : Est t1 σ H P1) (p1 : ∀ v, Pers (P1 v)) : EstA (tCons t1 tNil) σ H (fun vs H' => ∃ a, vs = [a] ∧ P1 a H') :=
  (esta_cons h1 (esta_nil (P := fun vs _ => vs = []) fun _ _ => rfl) p1).imp fun vs H' _ ⟨v, r, e, h, e2⟩ => ⟨v, by rw [e, e2], h⟩
theorem esta_2 (h1 : Est t1 σ H P1) (h2 : Est t2 σ H P2) (p1 : ∀ v, Pers (P1 v)) (p2 : ∀ v, Pers (P2 v)) : EstA (tCons t1 (tCons t2 tNil)) σ H (fun vs H' => ∃ a b, vs = [a, b] ∧ P1 a H' ∧ P2 b H') :=
  (esta_cons h1 (esta_1 h2 p2) p1).imp fun vs H' _ ⟨v, r, e, h, b, e2, h'⟩ => ⟨v, b, by rw [e, e2], h, h'⟩
theorem esta_3 (h1 : Est t1 σ H P1) (h2 : Est t2 σ H P2) (h3 : Est t3 σ H P3) (p1 : ∀ v, Pers (P1 v)) (p2 : ∀ v, Pers (P2 v)) (p3 : ∀ v, Pers (P3 v)) : EstA (tCons t1 (tCons t2 (tCons t3 tNil))) σ H (fun vs H' => ∃ a b c, vs = [a, b, c] ∧ P1 a H' ∧ P2 b H' ∧ P3 c H') :=
  (esta_cons h1 (esta_2 h2 h3 p2 p3) p1).imp fun vs H' _ ⟨v, r, e, h, b, c, e2, h'⟩ => ⟨v, b, c, by rw [e, e2], h, h'⟩
theorem esta_4 (h1 : Est t1 σ H P1) (h2 : Est t2 σ H P2) (h3 : Est t3 σ H P3) (h4 : Est t4 σ H P4) (p1 : ∀ v, Pers (P1 v)) (p2 : ∀ v, Pers (P2 v)) (p3 : ∀ v, Pers (P3 v)) (p4 : ∀ v, Pers (P4 v)) :
    EstA (tCons t1 (tCons t2 (tCons t3 (tCons t4 tNil)))) σ H (fun vs H' => ∃ a b c f, vs = [a, b, c, f] ∧ P1 a H' ∧ P2 b H' ∧ P3 c H' ∧ P4 f H') :=
  (esta_cons h1 (esta_3 h2 h3 h4 p2 p3 p4) p1).imp fun vs H' _ ⟨v, r, e, h, b, c, f, e2, h'⟩ => ⟨v, b, c, f, by rw [e, e2], h, h'⟩
theorem esta_5 (h1 : Est t1 σ H P1) (h2 : Est t2 σ H P2) (h3 : Est t3 σ H P3) (h4 : Est t4 σ H P4) (h5 : Est t5 σ H P5) (p1 : ∀ v, Pers (P1 v)) (p2 : ∀ v, Pers (P2 v)) (p3 : ∀ v, Pers (P3 v)) (p4 : ∀ v, Pers (P4 v)) (p5 : ∀ v, Pers (P5 v)) :
    EstA (tCons t1 (tCons t2 (tCons t3 (tCons t4 (tCons t5 tNil))))) σ H (fun vs H' => ∃ a b c f g, vs = [a, b, c, f, g] ∧ P1 a H' ∧ P2 b H' ∧ P3 c H' ∧ P4 f H' ∧ P5 g H') :=
  (esta_cons h1 (esta_4 h2 h3 h4 h5 p2 p3 p4 p5) p1).imp fun vs H' _ ⟨v, r, e, h, b, c, f, g, e2, h'⟩ => ⟨v, b, c, f, g, by rw [e, e2], h, h'⟩
theorem est_tupE {PA : List V → Hp → Prop} {R : V → Hp → Prop} (h : EstA tA σ H PA) (pp : ∀ vs, Pers (PA vs)) (hl : ∀ vs H', PA vs H' → vs.length ≤ 100000) (k : ∀ p vs H', H' p = some (.tup vs) → PA vs H' → R (.ref p) H') : Est (tTup tA) σ H R :=
  (est_tup h hl pp).imp fun v H' _ ⟨p, vs, e, _, hp, hr⟩ => by rw [e]; exact k p vs H' hp hr
theorem est_lstE {PA : List V → Hp → Prop} {R : V → Hp → Prop} (h : EstA tA σ H PA) (pp : ∀ vs, Pers (PA vs)) (hl : ∀ vs H', PA vs H' → vs.length ≤ 100000) (k : ∀ p vs H', H p = none → H' p = some (.lst vs) → PA vs H' → R (.ref p) H') : Est (tLst tA) σ H R :=
  (est_lst h hl pp).imp fun v H' _ ⟨p, vs, e, hn, hp, hr⟩ => by rw [e]; exact k p vs H' hn hp hr
/-- a written text -/
def Is (x : V) (v : V) (_ : Hp) : Prop := v = x
theorem est_is (x : V) : Est (tC x) σ H (Is x) := est_ev ev_c
theorem Is.pers (x v : V) : Pers (Is x v) := fun _ _ _ h => h
/-! views made -/
theorem vc_table (h : Est t1 σ H IsInt) : Est (tTup (tCons (tC (.str "table")) (tCons t1 tNil))) σ H (IsView (d + 1)) :=
  est_tupE (esta_2 (est_is _) h (Is.pers _) IsInt.pers) (fun vs => Pers.ex fun a => Pers.ex fun b => (Pers.c _).and ((Is.pers _ a).and (IsInt.pers b))) (fun vs H' ⟨a, b, e, _⟩ => by rw [e]; exact le5 _ rfl (by simp only [List.length_cons, List.length_nil]; omega)) fun p vs H' hp ⟨a, b, e, ea, c, eb⟩ =>
    ⟨.table c, True.intro, p, rfl, by rw [hp, e, show a = _ from ea, eb]⟩
theorem vc_within (h1 : Est t1 σ H (IsView d)) (h2 : Est t2 σ H IsInt) (h3 : Est t3 σ H IsEnd) (h4 : Est t4 σ H IsEnd) : Est (tTup (tCons (tC (.str "within")) (tCons t1 (tCons t2 (tCons t3 (tCons t4 tNil)))))) σ H (IsView (d + 1)) :=
  est_tupE (esta_5 (est_is _) h1 h2 h3 h4 (Is.pers _) (IsView.pers d) IsInt.pers IsEnd.pers IsEnd.pers) (fun vs => Pers.ex fun a => Pers.ex fun b => Pers.ex fun c => Pers.ex fun f => Pers.ex fun g => (Pers.c _).and ((Is.pers _ a).and ((IsView.pers d b).and ((IsInt.pers c).and ((IsEnd.pers f).and (IsEnd.pers g)))))) (fun vs H' ⟨a, b, c, f, g, e, _⟩ => by rw [e]; exact le5 _ rfl (by simp only [List.length_cons, List.length_nil]; omega))
    fun p vs H' hp ⟨a, b, c, f, g, e, ea, ⟨v, ok, at'⟩, ⟨i, ei⟩, hf, hg⟩ => ⟨.within v i f g, ok, p, b, rfl, by rw [hp, e, show a = _ from ea, ei], at', hf, hg⟩
theorem vc_columns (h1 : Est t1 σ H (IsView d)) (h2 : Est t2 σ H IsCols) : Est (tTup (tCons (tC (.str "columns")) (tCons t1 (tCons t2 tNil)))) σ H (IsView (d + 1)) :=
  est_tupE (esta_3 (est_is _) h1 h2 (Is.pers _) (IsView.pers d) IsCols.pers) (fun vs => Pers.ex fun a => Pers.ex fun b => Pers.ex fun c => (Pers.c _).and ((Is.pers _ a).and ((IsView.pers d b).and (IsCols.pers c)))) (fun vs H' ⟨a, b, c, e, _⟩ => by rw [e]; exact le5 _ rfl (by simp only [List.length_cons, List.length_nil]; omega))
    fun p vs H' hp ⟨a, b, c, e, ea, ⟨v, ok, at'⟩, q, xs, eq, hq, hl⟩ => ⟨.columns v xs, ⟨ok, hl⟩, p, b, q, rfl, by rw [hp, e, show a = _ from ea, eq], at', hq⟩
theorem vc_two {x : Str} {f : View → View → View} (h1 : Est t1 σ H (IsView d)) (h2 : Est t2 σ H (IsView d)) (hf : ∀ v w H' p y z, VOk d v → VOk d w → H' p = some (.tup [.str x, y, z]) → VAt H' v y → VAt H' w z → VOk (d + 1) (f v w) ∧ VAt H' (f v w) (.ref p)) :
    Est (tTup (tCons (tC (.str x)) (tCons t1 (tCons t2 tNil)))) σ H (IsView (d + 1)) :=
  est_tupE (esta_3 (est_is _) h1 h2 (Is.pers _) (IsView.pers d) (IsView.pers d)) (fun vs => Pers.ex fun a => Pers.ex fun b => Pers.ex fun c => (Pers.c _).and ((Is.pers _ a).and ((IsView.pers d b).and (IsView.pers d c)))) (fun vs H' ⟨a, b, c, e, _⟩ => by rw [e]; exact le5 _ rfl (by simp only [List.length_cons, List.length_nil]; omega))
    fun p vs H' hp ⟨a, b, c, e, ea, ⟨v, ok, at'⟩, w, ok2, at2⟩ => ⟨f v w, hf v w H' p b c ok ok2 (by rw [hp, e, show a = _ from ea]) at' at2⟩
theorem two_both {d : Nat} (v w : View) (H' : Hp) (p : Addr) (y z : V) (o1 : VOk d v) (o2 : VOk d w) (h : H' p = some (.tup [.str "both", y, z])) (a1 : VAt H' v y) (a2 : VAt H' w z) : VOk (d + 1) (.both v w) ∧ VAt H' (.both v w) (.ref p) := ⟨⟨o1, o2⟩, p, y, z, rfl, h, a1, a2⟩
theorem two_less {d : Nat} (v w : View) (H' : Hp) (p : Addr) (y z : V) (o1 : VOk d v) (o2 : VOk d w) (h : H' p = some (.tup [.str "less", y, z])) (a1 : VAt H' v y) (a2 : VAt H' w z) : VOk (d + 1) (.less v w) ∧ VAt H' (.less v w) (.ref p) := ⟨⟨o1, o2⟩, p, y, z, rfl, h, a1, a2⟩
theorem two_odd {d : Nat} {x : Str} (hx : x ∈ four) (v w : View) (H' : Hp) (p : Addr) (y z : V) (o1 : VOk d v) (o2 : VOk d w) (h : H' p = some (.tup [.str x, y, z])) (a1 : VAt H' v y) (a2 : VAt H' w z) : VOk (d + 1) (.odd x v w) ∧ VAt H' (.odd x v w) (.ref p) := ⟨⟨o1, o2⟩, p, y, z, rfl, h, a1, a2, hx⟩
theorem vc_both (h1 : Est t1 σ H (IsView d)) (h2 : Est t2 σ H (IsView d)) : Est (tTup (tCons (tC (.str "both")) (tCons t1 (tCons t2 tNil)))) σ H (IsView (d + 1)) := vc_two h1 h2 two_both
theorem vc_less (h1 : Est t1 σ H (IsView d)) (h2 : Est t2 σ H (IsView d)) : Est (tTup (tCons (tC (.str "less")) (tCons t1 (tCons t2 tNil)))) σ H (IsView (d + 1)) := vc_two h1 h2 two_less
theorem vc_meet (h1 : Est t1 σ H (IsView d)) (h2 : Est t2 σ H (IsView d)) (h3 : Est t3 σ H IsPairs) : Est (tTup (tCons (tC (.str "meet")) (tCons t1 (tCons t2 (tCons t3 tNil))))) σ H (IsView (d + 1)) :=
  est_tupE (esta_4 (est_is _) h1 h2 h3 (Is.pers _) (IsView.pers d) (IsView.pers d) IsPairs.pers) (fun vs => Pers.ex fun a => Pers.ex fun b => Pers.ex fun c => Pers.ex fun f => (Pers.c _).and ((Is.pers _ a).and ((IsView.pers d b).and ((IsView.pers d c).and (IsPairs.pers f))))) (fun vs H' ⟨a, b, c, f, e, _⟩ => by rw [e]; exact le5 _ rfl (by simp only [List.length_cons, List.length_nil]; omega))
    fun p vs H' hp ⟨a, b, c, f, e, ea, ⟨v, ok, at'⟩, ⟨w, ok2, at2⟩, q, ps, eq, hq, hl⟩ => ⟨.meet v w ps, ⟨ok, ok2, hl⟩, p, b, c, q, rfl, by rw [hp, e, show a = _ from ea, eq], at', at2, hq⟩
theorem vc_once (h1 : Est t1 σ H (IsView d)) : Est (tTup (tCons (tC (.str "once")) (tCons t1 tNil))) σ H (IsView (d + 1)) :=
  est_tupE (esta_2 (est_is _) h1 (Is.pers _) (IsView.pers d)) (fun vs => Pers.ex fun a => Pers.ex fun b => (Pers.c _).and ((Is.pers _ a).and (IsView.pers d b))) (fun vs H' ⟨a, b, e, _⟩ => by rw [e]; exact le5 _ rfl (by simp only [List.length_cons, List.length_nil]; omega))
    fun p vs H' hp ⟨a, b, e, ea, v, ok, at'⟩ => ⟨.once v, ok, p, b, rfl, by rw [hp, e, show a = _ from ea], at'⟩
theorem vc_reach (h1 : Est t1 σ H (IsView d)) : Est (tTup (tCons (tC (.str "reach")) (tCons t1 tNil))) σ H (IsView (d + 1)) :=
  est_tupE (esta_2 (est_is _) h1 (Is.pers _) (IsView.pers d)) (fun vs => Pers.ex fun a => Pers.ex fun b => (Pers.c _).and ((Is.pers _ a).and (IsView.pers d b))) (fun vs H' ⟨a, b, e, _⟩ => by rw [e]; exact le5 _ rfl (by simp only [List.length_cons, List.length_nil]; omega))
    fun p vs H' hp ⟨a, b, e, ea, v, ok, at'⟩ => ⟨.reach v, ok, p, b, rfl, by rw [hp, e, show a = _ from ea], at'⟩
theorem vc_sums (h1 : Est t1 σ H (IsView d)) (h2 : Est t2 σ H IsCols) (h3 : Est t3 σ H IsInt) : Est (tTup (tCons (tC (.str "sums")) (tCons t1 (tCons t2 (tCons t3 tNil))))) σ H (IsView (d + 1)) :=
  est_tupE (esta_4 (est_is _) h1 h2 h3 (Is.pers _) (IsView.pers d) IsCols.pers IsInt.pers) (fun vs => Pers.ex fun a => Pers.ex fun b => Pers.ex fun c => Pers.ex fun f => (Pers.c _).and ((Is.pers _ a).and ((IsView.pers d b).and ((IsCols.pers c).and (IsInt.pers f))))) (fun vs H' ⟨a, b, c, f, e, _⟩ => by rw [e]; exact le5 _ rfl (by simp only [List.length_cons, List.length_nil]; omega))
    fun p vs H' hp ⟨a, b, c, f, e, ea, ⟨v, ok, at'⟩, ⟨q, xs, eq, hq, hl⟩, i, ei⟩ => ⟨.sums v xs i, ⟨ok, hl⟩, p, b, q, rfl, by rw [hp, e, show a = _ from ea, eq, ei], at', hq⟩
/-- a first word that the reading chooses -/
def IsWord (ok : Str → Prop) (v : V) (_ : Hp) : Prop := ∃ x, v = .str x ∧ ok x
theorem IsWord.pers {ok : Str → Prop} (v : V) : Pers (IsWord ok v) := fun _ _ _ h => h
theorem vc_word {ok : Str → Prop} (h0 : Est t3 σ H (IsWord ok)) (h1 : Est t1 σ H (IsView d)) (h2 : Est t2 σ H (IsView d)) (hx : ∀ x, ok x → x = "both" ∨ x = "less" ∨ x ∈ four) :
    Est (tTup (tCons t3 (tCons t1 (tCons t2 tNil)))) σ H (IsView (d + 1)) :=
  est_tupE (esta_3 h0 h1 h2 IsWord.pers (IsView.pers d) (IsView.pers d)) (fun vs => Pers.ex fun a => Pers.ex fun b => Pers.ex fun c => (Pers.c _).and ((IsWord.pers a).and ((IsView.pers d b).and (IsView.pers d c)))) (fun vs H' ⟨a, b, c, e, _⟩ => by rw [e]; exact le5 _ rfl (by simp only [List.length_cons, List.length_nil]; omega))
    fun p vs H' hp ⟨a, b, c, e, ⟨x, ea, hox⟩, ⟨v, ok, at'⟩, w, ok2, at2⟩ => by
      have hp' : H' p = some (.tup [.str x, b, c]) := by rw [hp, e, ea]
      rcases hx x hox with rfl | rfl | hn
      · exact ⟨_, two_both v w H' p b c ok ok2 hp' at' at2⟩
      · exact ⟨_, two_less v w H' p b c ok ok2 hp' at' at2⟩
      · exact ⟨_, two_odd hn v w H' p b c ok ok2 hp' at' at2⟩
/-! tuples of ints, of pairs -/
theorem est_cols (h : EstA tA σ H (AllZ IsInt n)) (hn : n ≤ 1000) : Est (tTup tA) σ H IsCols :=
  est_tupE h (AllZ.pers IsInt.pers) (fun vs H' ⟨l, _⟩ => by omega) fun p vs H' hp ⟨l, ha⟩ => by
    obtain ⟨xs, e⟩ := ints_of ha
    exact ⟨p, xs, rfl, by rw [hp, e], by rw [e, List.length_map] at l; omega⟩
theorem est_pair (h1 : Est t1 σ H IsInt) (h2 : Est t2 σ H IsInt) : Est (tTup (tCons t1 (tCons t2 tNil))) σ H IsPair :=
  est_tupE (esta_2 h1 h2 IsInt.pers IsInt.pers) (fun vs => Pers.ex fun a => Pers.ex fun b => (Pers.c _).and ((IsInt.pers a).and (IsInt.pers b))) (fun vs H' ⟨a, b, e, _⟩ => by rw [e]; exact le5 _ rfl (by simp only [List.length_cons, List.length_nil]; omega))
    fun p vs H' hp ⟨a, b, e, ⟨i, ei⟩, j, ej⟩ => ⟨p, i, j, rfl, by rw [hp, e, ei, ej]⟩
theorem est_pairs (h : EstA tA σ H (AllZ IsPair n)) (hn : n ≤ 1000) : Est (tTup tA) σ H IsPairs :=
  est_tupE h (AllZ.pers IsPair.pers) (fun vs H' ⟨l, _⟩ => by omega) fun p vs H' hp ⟨l, ha⟩ => by
    obtain ⟨rs, ps, e, pr, lp⟩ := pairs_of_all ha
    exact ⟨p, ps, rfl, ⟨rs, by rw [hp, e], pr⟩, by omega⟩
theorem est_ends (h1 : Est t1 σ H IsEnd) (h2 : Est t2 σ H IsEnd) : Est (tTup (tCons t1 (tCons t2 tNil))) σ H IsEnds :=
  est_tupE (esta_2 h1 h2 IsEnd.pers IsEnd.pers) (fun vs => Pers.ex fun a => Pers.ex fun b => (Pers.c _).and ((IsEnd.pers a).and (IsEnd.pers b))) (fun vs H' ⟨a, b, e, _⟩ => by rw [e]; exact le5 _ rfl (by simp only [List.length_cons, List.length_nil]; omega))
    fun p vs H' hp ⟨a, b, e, ha, hb⟩ => ⟨p, a, b, rfl, by rw [hp, e], ha, hb⟩
theorem Est.int {v : V} (h : Ev te σ H v) {c : Int} (e : v = .int c) : Est te σ H IsInt := (est_ev h).imp fun w _ _ hw => ⟨c, by rw [hw, e]⟩
theorem est_int {i : Int} (h : Ev te σ H (.int i)) : Est te σ H IsInt := (est_ev h).imp fun w _ _ hw => ⟨i, hw⟩
theorem est_end {i : Int} (h : Ev te σ H (.int i)) : Est te σ H IsEnd := (est_ev h).imp fun w _ _ hw => .inr ⟨i, hw⟩
theorem est_endN : Est (tC .non) σ H IsEnd := (est_ev ev_c).imp fun w _ _ hw => .inl hw
theorem est_endI (h : Est te σ H IsInt) : Est te σ H IsEnd := h.imp fun w _ _ ⟨i, e⟩ => .inr ⟨i, e⟩
/-- [a, b, ..][i] -/
theorem est_menu {ti : TE} {i : Int} (h : EstA tA σ H (AllZ Z n)) (pz : ∀ v, Pers (Z v)) (hi : Ev ti σ H (.int i)) (h0 : 0 ≤ i) (h1 : i < n) (hn : n ≤ 1000) : Est (tOp (rIxL K) (tLst tA) ti) σ H Z := fun H1 e Q q =>
  h H1 e _ fun vs H2 e2 ha => ⟨sz_of (by have := ha.1; omega), fun p hp => hi _ ((e.trans e2).trans (Ex.new hp)) _ fun H3 e3 => by
    have hlt : i.toNat < vs.length := by rw [ha.1]; omega
    refine ⟨p, vs, i, vs[i.toNat], rfl, rfl, sq_of (e3 p _ upd_same), ?_, q _ H3 ((e2.trans (Ex.new hp)).trans e3) (pz _ _ _ ((Ex.new hp).trans e3) (ha.2 _ (List.getElem_mem hlt)))⟩
    have z := atI_nat (xs := vs) (j := i.toNat) (List.getElem?_eq_getElem hlt)
    rwa [show ((i.toNat : Nat) : Int) = i by omega] at z⟩
end
end KB

/-! KR: rules of my own over the layer: tuple(reversed(range(n))). -/
namespace KR0
open PySem PySem.Spec PyProof.Rows
section
variable {prog : Program} {w : World} {A : Around} {E : Value → Shared → Prop} {s : Shared} {it : Addr} {lo c : Int} {n : Nat}
theorem hint_meets (it : Addr) (x left step : Int) :
    Meets (Builtin.«range_iterator.__length_hint__» ⟨[.ref it], []⟩) (fun _ R s => IsRangeIter s.heap it x left step ∧ R (.ok (.ret (.int left s.toks))) { s with toks := s.toks + 1 }) :=
  .of_wp fun prog w A R s h => by
    obtain ⟨hp, g, d, tk, os⟩ := s
    obtain ⟨hl, h⟩ := h
    wp_walk
    exact ⟨_, rfl, h⟩
theorem call_hint {x left step : Int} {Q : Value → Shared → Prop} (hit : IsRangeIter s.heap it x left step) (h : Q (.int left s.toks) { s with toks := s.toks + 1 }) : wpAny (model prog w) A (call (.builtin "range_iterator.__length_hint__") [.ref it]) Q E s :=
  call_meets F.slot_range_iterator_length_hint ⟨_, hit, rfl⟩ F.entry_range_iterator_length_hint (F.args_range_iterator_length_hint_1 _) (hint_meets it x left step) ⟨hit, h⟩
theorem collect_rit {Q : List Value → Shared → Prop} (hh : A.handled = none) (hit : IsRangeIter s.heap it lo (n : Int) c) (hn : n ≤ 100000)
    (hQ : ∀ (h' : Heap) (tk : Nat) (acc : Array Value), (∀ b o, b ≠ it → s.heap.get? b = some o → h'.get? b = some o) → ItemsOf (fun i v => ∃ t, v = .int (lo + i * c) t) acc n → Q acc.toList { s with heap := h', toks := tk }) :
    wpAny (model prog w) A (collect (.ref it)) Q E s := by
  have W := (Walks.range (prog := prog) (w := w) (A := A.in1) hh it lo c n).toS
  have hz : n ≤ sizeLine := by rw [sizeLine_eq]; omega
  refine wpAny_collect_iter_range W (fun i s' st => ⟨_, st, rfl⟩) (show IsRangeIter s.heap it (lo + ((0 : Nat) : Int) * c) ((n : Int) - ((0 : Nat) : Int)) c from ?_) (fun b hb => ?_) (by simp) (fun s1 Q' E' st hq => ?_) (fun s' acc hm ha => ?_) hz
  · rw [show lo + ((0 : Nat) : Int) * c = lo by simp, show (n : Int) - ((0 : Nat) : Int) = (n : Int) by simp]
    exact hit
  · have e : b = it := by simpa using hb
    rw [e]
    exact Heap.lt_size hit
  · refine call_hint st (hq _ _ _ (Nat.le_succ _) ?_)
    unfold Builtin.List.listTooLong
    rw [sizeLine_eq]
    exact decide_eq_false (by omega)
  · rw [Moved.eq_with hm]
    exact hQ s'.heap s'.toks acc (fun b o hb e => hm.heap b o (fun z => hb (by simpa using z)) e) ha
theorem code_tuple_rit {Q₁ : Value → Shared → Prop} (hh : A.handled = none) (hit : IsRangeIter s.heap it lo (n : Int) c) (hn : n ≤ 100000)
    (h : ∀ (h' : Heap) (tk : Nat) (acc : Array Value), (∀ b o, b ≠ it → s.heap.get? b = some o → h'.get? b = some o) → ItemsOf (fun i v => ∃ t, v = .int (lo + i * c) t) acc n →
      Q₁ (.ref h'.objs.size) { s with heap := h'.push { cls := .type "tuple", data := .seq acc }, toks := tk }) :
    codeAny (model prog w) A (.call (.builtin "tuple.__new__") ⟨[.type "tuple", .ref it], []⟩) (wants Q₁ E) s := by
  refine codeAny_of_tree ?_
  show wpAny _ A.in1 (do checkBuiltinCall "tuple.__new__" ⟨[.type "tuple", .ref it], []⟩; again (.builtin "tuple.__new__" ⟨[.type "tuple", .ref it], []⟩)) _ _ s
  refine wpAny_bind (wpAny_of_eq (F.newCall_tuple_1 _) (wpAny_pure ⟨plainId_quiet F.plain_tuple_new _, codeAny_builtin F.entry_tuple_new ?_⟩))
  rw [Around.under_plainId F.plain_tuple_new _]
  have hsub := sub_tuple_self
  have hinit := init_tuple_lookup
  have hmh := madeHere_tuple
  have hTI : s.TypeIs (.ref it) "range_iterator" := ⟨_, hit, rfl⟩
  have hh1 : A.in1.handled = none := hh
  wp_walk using wpAny_typeOf hTI, collect_rit (A := A.in1) hh1 hit hn
  intro h' tk acc hk hacc
  show wpAny _ _ (Builtin.Tuple.tupleExact acc.toList.toArray >>= fun v => ret v) _ _ _
  unfold Builtin.Tuple.tupleExact
  refine wpAny_bind (wpAny_newObj_type ?_ (by show acc.toList.toArray.size ≤ sizeLine; simp only [Array.toArray_toList]; rw [hacc.1, sizeLine_eq]; omega))
  refine wpAny_pure ?_
  have e : acc.toList.toArray = acc := by simp
  rw [e]
  exact h h' tk acc hk hacc
theorem call_tuple_rit {Q : Value → Shared → Prop} (hh : A.handled = none) (hit : IsRangeIter s.heap it lo (n : Int) c) (hn : n ≤ 100000)
    (hQ : ∀ (h' : Heap) (tk : Nat) (acc : Array Value), (∀ b o, b ≠ it → s.heap.get? b = some o → h'.get? b = some o) → ItemsOf (fun i v => ∃ t, v = .int (lo + i * c) t) acc n →
      Q (.ref h'.objs.size) { s with heap := h'.push { cls := .type "tuple", data := .seq acc }, toks := tk }) :
    wpAny (model prog w) A (call (.type "tuple") [.ref it]) Q E s := by
  refine callType_codes (Q₁ := fun obj s₁ => s₁.TypeIs obj "tuple" ∧ Q obj s₁) F.called_tuple (F.typeCall_tuple_1 _) F.entry_object_init
    (code_tuple_rit (A := A.in1) hh hit hn fun h' tk acc hk hacc => ⟨⟨_, Heap.get?_push_size _ rfl, rfl⟩, hQ h' tk acc hk hacc⟩) fun obj s₁ h₁ => ?_
  exact ⟨h₁.1, F.args_object_init_2 obj _, object_init_meets F.called_tuple.init.lookup F.called_tuple.made (by decide) prog w A.in1 _ s₁ ⟨h₁.1, rfl, h₁.2⟩⟩
end
end KR0
namespace KB
open PySem PySem.Spec PyProof.Rows L2 Evl
/-- b - 1 .. a -/
def rgDown (a b : Int) : List Int := (List.range (b - a).toNat).map fun i => b - 1 - (i : Nat)
def tTupRev (te : L2.St → Hp → (Int → Int → Hp → Prop) → Prop) : TE := fun σ H Q => te σ H fun a b H1 => a ≤ b ∧ -1000 ≤ a ∧ b ≤ 1000 ∧ ∀ q, H1 q = none → Q (.ref q) (upd H1 q (.tup ((rgDown a b).map V.int)))
theorem pe_tupRev {X : Cx} {e : Expr} {te : L2.St → Hp → (Int → Int → Hp → Prop) → Prop} {p p2 pos pos2 : Pos} (hc : X.calm = true) (hg : Gl X "tuple") (hm : X.mg "tuple" = none) (hg2 : Gl X "reversed") (hm2 : X.mg "reversed" = none) (he : PRg X e te)
    (na : starEach [e] X.env = (false, eval e X.env) :: starEach [] X.env := by rfl)
    (nb : starEach [.Call (.Name "reversed" p2) [e] [] pos2] X.env = (false, eval (.Call (.Name "reversed" p2) [e] [] pos2) X.env) :: starEach [] X.env := by rfl) :
    PE X (.Call (.Name "tuple" p) [.Call (.Name "reversed" p2) [e] [] pos2] [] pos) (tTupRev te) := by
  refine ⟨fun pins s σ H Q I h => ?_⟩
  refine Call_ (ld_blt I hg hm boot_tuple (PyProof.Rows.callWith_type1 (args_cons ?_ nb) nb))
  refine Call_ (ld_blt I hg2 hm2 PyProof.Rows.boot_reversed (PyProof.Rows.callWith_type1 (args_cons (thn (he pins s σ H _ I h) fun u s1 hx => args_nil ?_) na) na rfl))
  obtain ⟨r, a, b, t, w1, v, H1, eu, hr, I1, hab, b1, b2, q⟩ := hx
  subst eu
  have hn : Builtin.Range.rangeSize a b 1 = (((b - a).toNat : Nat) : Int) := rangeSize_nat a b
  refine call_reversed_range hr (smallRev_one (by omega) (by omega) (by omega) (by omega)) ?_
  refine args_nil ?_
  have I2 : Inv X pins σ H1 { s1 with heap := s1.heap.push (rngRevObj a b 1) } := I1.kept (t' := s1.toks) fun b o e => Heap.get?_push_of_some _ e
  have hit : IsRangeIter (s1.heap.push (rngRevObj a b 1)) s1.heap.objs.size (b - 1) (((b - a).toNat : Nat) : Int) (-1) := by
    have e0 := Heap.get?_push_size s1.heap (o := rngRevObj a b 1) rfl
    have e1 : rngRevObj a b 1 = { cls := .type "range_iterator", dict := none, data := .fields #[rawInt (b - 1), rawInt (((b - a).toNat : Nat) : Int), rawInt (-1)], slots := #[] } := by
      unfold rngRevObj
      rw [hn, show a + ((((b - a).toNat : Nat) : Int) - 1) * 1 = b - 1 by omega]
    rw [e1] at e0
    rw [e1]
    exact e0
  refine KR0.call_tuple_rit (n := (b - a).toNat) (I.ok.hd hc) hit (by omega) fun h' tk acc hk hacc => ?_
  have hn1 : H1 s1.heap.objs.size = none := I1.hok.fresh (Nat.le_refl _)
  obtain ⟨g0, g1, g2, g3, g4, g5⟩ := I1.fpOk (Nat.le_refl _) hn1
  have I3 : Inv X pins σ H1 { s1 with heap := h', toks := tk } := I2.turned (t' := tk) hk g0 g1 g3 g4 g5
  have hv : Vals ((rgDown a b).map V.int) acc.toList := by
    unfold rgDown
    rw [List.map_map]
    have e : acc.toList.length = (b - a).toNat := by rw [Array.length_toList]; exact hacc.1
    rw [← e]
    refine vals_of_get acc.toList _ fun j u hj => ?_
    obtain ⟨t, rfl⟩ := hacc.2 j u (by rw [← hj, Array.getElem?_toList])
    exact ⟨t, by show Value.int (b - 1 + (j : Int) * (-1)) t = Value.int (b - 1 - (j : Int)) t; rw [show b - 1 + (j : Int) * (-1) = b - 1 - (j : Int) by omega]⟩
  refine ⟨.ref h'.objs.size, upd H1 h'.objs.size (.tup ((rgDown a b).map V.int)), I3.laid (t' := tk) (fun c o e => Heap.get?_push_of_some _ e) (Nat.le_refl _) (show ObjOk X.prog X.w _ _ _ (.tup ((rgDown a b).map V.int)) from ⟨?_, acc.toList, hv, ?_⟩), rfl, q _ (I3.hok.fresh (Nat.le_refl _))⟩
  · rw [hv.length, Array.length_toList, hacc.1, sizeLine_eq]; omega
  · rw [Array.toArray_toList]; exact IsTup.new _ _
end KB

/-! KV3: list comprehensions whose items are all of one kind; statements in several ways. -/
namespace KB
open PySem PySem.Spec PyProof.Rows L2 Evl
/-- a kind that a list which changes doesn't touch -/
def StL (Z : V → Hp → Prop) : Prop := ∀ v H D a b, H D = some (.lst a) → Z v H → Z v (upd H D (.lst b))
theorem StL.int : StL IsInt := fun _ _ _ _ _ _ h => h
theorem StL.pair : StL IsPair := fun v H D a b hd ⟨p, x, y, e, hp⟩ => ⟨p, x, y, e, by
  rw [upd_ne]
  · exact hp
  · rintro rfl
    rw [hd] at hp
    cases hp⟩
theorem AllZ.stl {Z : V → Hp → Prop} (s : StL Z) {n : Nat} {vs : List V} {H : Hp} {D : Addr} {a b : List V} (hd : H D = some (.lst a)) (h : AllZ Z n vs H) : AllZ Z n vs (upd H D (.lst b)) := ⟨h.1, fun v hv => s v H D a b hd (h.2 v hv)⟩
theorem AllZ.snoc {Z : V → Hp → Prop} {n : Nat} {vs : List V} {v : V} {H : Hp} (h : AllZ Z n vs H) (hv : Z v H) : AllZ Z (n + 1) (vs ++ [v]) H := ⟨by rw [List.length_append, h.1]; rfl, fun w hw => by
  rcases List.mem_append.mp hw with q | q
  · exact h.2 w q
  · rw [List.mem_singleton.mp q]; exact hv⟩
section
variable {K : PySem.W.Frag} {σ : L2.St} {H H' : Hp} {te tl : TE} {ta : TA} {Z : V → Hp → Prop} {j : Nat} {vs : List Nat}
theorem est_lcR {n : Int} (h : EvA ta σ H [.int n]) (hn : 0 ≤ n ∧ n ≤ 1000) (hw : ∀ x, wipe ((wipe σ vs).set j (some x)) vs = wipe σ vs)
    (he : ∀ (i : Nat) H1, Ex H H1 → (i : Int) < n → Est te ((wipe σ vs).set j (some (.int (i : Int)))) H1 Z) (pz : ∀ v, Pers (Z v)) (sz : StL Z) :
    Est (tLc (iRng1 ta) (gName j) tYes te vs) σ H (fun v H' => ∃ p xs, v = .ref p ∧ H' p = some (.lst xs) ∧ AllZ Z n.toNat xs H') := fun H0 e Q q => h H0 e _ fun H1 e1 => ⟨n, rfl, by omega, by omega, fun Dl hD =>
  lc_range (lo := 0) (n := n.toNat) (fun i H' => Ex H1 H' ∧ ∃ acc, H' Dl = some (.lst acc) ∧ AllZ Z i acc H') ⟨Ex.new hD, [], upd_same, rfl, fun v hv => absurd hv (by simp)⟩ (fun i H' hi ⟨p1, acc, p2, p3⟩ => by
    have e0 : (0 : Int) + (i : Int) = (i : Int) := Int.zero_add _
    show wipe ((wipe σ vs).set j (some (.int ((0 : Int) + (i : Int))))) vs = wipe σ vs ∧ te ((wipe σ vs).set j (some (.int ((0 : Int) + (i : Int))))) H' fun y H4 => ∃ acc, H4 Dl = some (.lst acc) ∧ acc.length < sizeLine ∧ _
    rw [e0]
    refine ⟨hw _, he i H' ((e.trans e1).trans p1) (by omega) H' (Ex.refl H') _ fun y H4 e4 hy => ⟨acc, e4 _ _ p2, sz_lt (by rw [p3.1]; omega), Ex.mut (p1.trans e4) hD, acc ++ [y], upd_same, ?_⟩⟩
    exact AllZ.stl sz (e4 _ _ p2) ((AllZ.pers pz _ _ _ e4 p3).snoc hy)) (fun H' ⟨p1, acc, p2, p3⟩ => q _ H' (e1.trans p1) ⟨Dl, acc, rfl, p2, p3⟩)⟩
/-- over a tuple -/
theorem est_lcT {a : Addr} {xs : List V} (h : Ev tl σ H (.ref a)) (hx : SqT K H a xs) (hz : xs.length ≤ 1000) (hw : ∀ x, wipe ((wipe σ vs).set j (some x)) vs = wipe σ vs)
    (he : ∀ (i : Nat) (x : V) H1, Ex H H1 → xs[i]? = some x → Est te ((wipe σ vs).set j (some x)) H1 Z) (pz : ∀ v, Pers (Z v)) (sz : StL Z) :
    Est (tLc (iTup K tl) (gName j) tYes te vs) σ H (fun v H' => ∃ p ys, v = .ref p ∧ H' p = some (.lst ys) ∧ AllZ Z xs.length ys H') := fun H0 e Q q => h H0 e _ fun H1 e1 => ⟨a, rfl, ⟨xs, ex_t (e.trans e1) hx⟩, fun Dl hD =>
  lc_tup (xs := xs) (fun i H' => Ex H1 H' ∧ ∃ acc, H' Dl = some (.lst acc) ∧ AllZ Z i acc H') ⟨Ex.new hD, [], upd_same, rfl, fun v hv => absurd hv (by simp)⟩ (fun i H' _ p => ex_t ((e.trans e1).trans p.1) hx) (fun i x H' hi ⟨p1, acc, p2, p3⟩ => by
    refine ⟨hw _, he i x H' ((e.trans e1).trans p1) hi H' (Ex.refl H') _ fun y H4 e4 hy => ⟨acc, e4 _ _ p2, sz_lt (by have := (List.getElem?_eq_some_iff.mp hi).1; rw [p3.1]; omega), Ex.mut (p1.trans e4) hD, acc ++ [y], upd_same, ?_⟩⟩
    exact AllZ.stl sz (e4 _ _ p2) ((AllZ.pers pz _ _ _ e4 p3).snoc hy)) (fun H' ⟨p1, acc, p2, p3⟩ => q _ H' (e1.trans p1) ⟨Dl, acc, rfl, p2, p3⟩)⟩
/-- tuple(..) of a new list -/
def rTup (K : PySem.W.Frag) : List V → Hp → VK → Prop := fun xs H Q => ∃ p ys, xs = [.ref p] ∧ ((SqL K H p ys ∧ ∀ l, H l = none → Q (.ref l) (upd H l (.tup ys))) ∨ (SqT K H p ys ∧ Q (.ref p) H))
theorem est_tupOf {R : V → Hp → Prop} {S : List V → Hp → Prop} (h : Est te σ H (fun v H' => ∃ p xs, v = .ref p ∧ H' p = some (.lst xs) ∧ S xs H')) (pp : ∀ xs, Pers (S xs)) (k : ∀ p xs H', H' p = some (.tup xs) → S xs H' → R (.ref p) H') : Est (tCB (rTup K) (tCons te tNil)) σ H R := fun H1 e Q q =>
  h H1 e _ fun v H2 e2 ⟨p, xs, ev, hp, hs⟩ => ⟨p, xs, by rw [ev], .inl ⟨sq_of hp, fun l hl => q _ _ (e2.trans (Ex.new hl)) (k l xs _ upd_same (pp xs _ _ (Ex.new hl) hs))⟩⟩
/-! statements -/
theorem at_next {f : L2.St → Hp → Prop} {r : V → Hp → Prop} (h : f σ H) : tNext { nx := f, rt := r } σ H := h
theorem w_asg1 {i : Nat} {te : TE} {P : V → Hp → Prop} {D : Ends} (h : Est te σ H P) (k : ∀ v H1, Ex H H1 → P v H1 → D.nx (σ.set i (some v)) H1) : tAsg te (gName i) D σ H := h H (Ex.refl H) _ fun v H1 e p => k v H1 e p
/-- behind a statement that ends in several ways, what stands in each -/
theorem w_join {ts tz : TS} {D : Ends} (J : L2.St → Hp → Prop) (h : ∀ N : L2.St → Hp → Prop, (∀ σ' H', J σ' H' → N σ' H') → ts { D with nx := N } σ H) (k : ∀ σ' H', J σ' H' → tz D σ' H') : tSeq ts tz D σ H := h _ k
theorem est_rev {i : Nat} {n : Int} (hv : σ[i]? = some (some (.int n))) (h0 : 0 ≤ n) (h1 : n ≤ 1000) (l : (rgDown 0 n).length ≤ 1000 := by (unfold rgDown; rw [List.length_map, List.length_range]; omega)) : Est (tTupRev (tRg1 (tVar i))) σ H IsCols := fun H1 e Q q =>
  ⟨.int n, hv, n, rfl, h0, by omega, h1, fun p hp => q _ _ (Ex.new hp) ⟨p, rgDown 0 n, rfl, upd_same, l⟩⟩
theorem est_rg {t : TE} {n : Int} (hv : Ev t σ H (.int n)) (h0 : 0 ≤ n) (h1 : n ≤ 1000) : Est (tTupRg (tRg1 t)) σ H IsCols := fun H1 e Q q =>
  hv H1 e _ fun H2 e2 => ⟨n, rfl, RgOk.of_le (by omega) (by omega) (by omega) h0, fun p hp => q _ _ (e2.trans (Ex.new hp)) ⟨p, (List.range (n - 0).toNat).map (fun (i : Nat) => (0 : Int) + (i : Int)), rfl, by
    rw [upd_same, List.map_map]
    rfl, by rw [List.length_map, List.length_range]; omega⟩⟩
theorem ev_min2 {ta tb : TE} {i j : Int} (ha : Ev ta σ H (.int i)) (hb : Ev tb σ H (.int j)) : Ev (tCB (fun xs H Q => ∃ i j, xs = [.int i, .int j] ∧ Q (.int (if j < i then j else i)) H) (tCons ta (tCons tb tNil))) σ H (.int (if j < i then j else i)) := fun H1 e Q q =>
  ha H1 e _ fun H2 e2 => hb H2 (e.trans e2) _ fun H3 e3 => ⟨i, j, rfl, q H3 (e2.trans e3)⟩
end
end KB

/-! KQ: views as data: == of two views tells that their widths are the same. -/
namespace KB
open PySem PySem.Spec PyProof.Rows L2 Evl
def endD : V → PyData
  | .int i => .int i
  | _ => .none
def colsD (cs : List Int) : PyData := .tuple (cs.map PyData.int)
def pairsD (ps : List (Int × Int)) : PyData := .tuple (ps.map fun p => .tuple [.int p.1, .int p.2])
def dataV : View → PyData
  | .table t => .tuple [.str "table", .int t]
  | .within v c lo hi => .tuple [.str "within", dataV v, .int c, endD lo, endD hi]
  | .columns v cs => .tuple [.str "columns", dataV v, colsD cs]
  | .both v w => .tuple [.str "both", dataV v, dataV w]
  | .less v w => .tuple [.str "less", dataV v, dataV w]
  | .meet v w ps => .tuple [.str "meet", dataV v, dataV w, pairsD ps]
  | .once v => .tuple [.str "once", dataV v]
  | .sums v ks c => .tuple [.str "sums", dataV v, colsD ks, .int c]
  | .reach v => .tuple [.str "reach", dataV v]
  | .odd o v w => .tuple [.str o, dataV v, dataV w]
section
variable {K : PySem.W.Frag} {H : Hp}
theorem dp_end {x : V} (h : EndV x) : Dp K H x (endD x) := by
  rcases h with rfl | ⟨i, rfl⟩
  · exact .non
  · exact .int i
theorem dp_is : ∀ cs : List Int, DpAll K H (cs.map V.int) (cs.map PyData.int)
  | [] => .nil
  | c :: r => .cons (.int c) (dp_is r)
theorem dp_cols {q : Addr} {cs : List Int} (h : H q = some (.tup (cs.map V.int))) : Dp K H (.ref q) (colsD cs) := .tup (st_of h) (dp_is cs)
theorem dp_prs : ∀ {rs : List Addr} {ps : List (Int × Int)}, Paired (fun (r : Addr) (p : Int × Int) => H r = some (.tup [.int p.1, .int p.2])) rs ps → DpAll K H (rs.map V.ref) (ps.map fun p => .tuple [.int p.1, .int p.2])
  | _, _, .nil => .nil
  | _, _, .cons h t => .cons (.tup (st_of h) (.cons (.int _) (.cons (.int _) .nil))) (dp_prs t)
theorem dp_view : ∀ (v : View) (x : V), VAt H v x → Dp K H x (dataV v)
  | .table t, x, ⟨p, a, b⟩ => a ▸ .tup (st_of b) (.cons (.str _) (.cons (.int t) .nil))
  | .within v c lo hi, x, ⟨p, y, a, b, hv, e1, e2⟩ => a ▸ .tup (st_of b) (.cons (.str _) (.cons (dp_view v y hv) (.cons (.int c) (.cons (dp_end e1) (.cons (dp_end e2) .nil)))))
  | .columns v cs, x, ⟨p, y, q, a, b, hv, hq⟩ => a ▸ .tup (st_of b) (.cons (.str _) (.cons (dp_view v y hv) (.cons (dp_cols hq) .nil)))
  | .both v w, x, ⟨p, y, z, a, b, hv, hw⟩ => a ▸ .tup (st_of b) (.cons (.str _) (.cons (dp_view v y hv) (.cons (dp_view w z hw) .nil)))
  | .less v w, x, ⟨p, y, z, a, b, hv, hw⟩ => a ▸ .tup (st_of b) (.cons (.str _) (.cons (dp_view v y hv) (.cons (dp_view w z hw) .nil)))
  | .meet v w ps, x, ⟨p, y, z, q, a, b, hv, hw, rs, hq, hr⟩ => a ▸ .tup (st_of b) (.cons (.str _) (.cons (dp_view v y hv) (.cons (dp_view w z hw) (.cons (.tup (st_of hq) (dp_prs hr)) .nil))))
  | .once v, x, ⟨p, y, a, b, hv⟩ => a ▸ .tup (st_of b) (.cons (.str _) (.cons (dp_view v y hv) .nil))
  | .sums v ks c, x, ⟨p, y, q, a, b, hv, hq⟩ => a ▸ .tup (st_of b) (.cons (.str _) (.cons (dp_view v y hv) (.cons (dp_cols hq) (.cons (.int c) .nil))))
  | .reach v, x, ⟨p, y, a, b, hv⟩ => a ▸ .tup (st_of b) (.cons (.str _) (.cons (dp_view v y hv) .nil))
  | .odd o v w, x, ⟨p, y, z, a, b, hv, hw, _⟩ => a ▸ .tup (st_of b) (.cons (.str _) (.cons (dp_view v y hv) (.cons (dp_view w z hw) .nil)))
end
/-- its odd words are of the four -/
def Fine : View → Prop
  | .table _ => True
  | .within v _ _ _ | .columns v _ | .once v | .sums v _ _ | .reach v => Fine v
  | .both v w | .less v w | .meet v w _ => Fine v ∧ Fine w
  | .odd o v w => o ∈ four ∧ Fine v ∧ Fine w
theorem fine_of {H : Hp} : ∀ (v : View) (x : V), VAt H v x → Fine v
  | .table t, x, _ => trivial
  | .within v c lo hi, x, ⟨p, y, a, b, hv, e1, e2⟩ => fine_of v y hv
  | .columns v cs, x, ⟨p, y, q, a, b, hv, hq⟩ => fine_of v y hv
  | .both v w, x, ⟨p, y, z, a, b, hv, hw⟩ => ⟨fine_of v y hv, fine_of w z hw⟩
  | .less v w, x, ⟨p, y, z, a, b, hv, hw⟩ => ⟨fine_of v y hv, fine_of w z hw⟩
  | .meet v w ps, x, ⟨p, y, z, q, a, b, hv, hw, _⟩ => ⟨fine_of v y hv, fine_of w z hw⟩
  | .once v, x, ⟨p, y, a, b, hv⟩ => fine_of v y hv
  | .sums v ks c, x, ⟨p, y, q, a, b, hv, hq⟩ => fine_of v y hv
  | .reach v, x, ⟨p, y, a, b, hv⟩ => fine_of v y hv
  | .odd o v w, x, ⟨p, y, z, a, b, hv, hw, h⟩ => ⟨h, fine_of v y hv, fine_of w z hw⟩
theorem words_ok : ∀ o ∈ nine ++ four, PyData.strOk o = true := by decide +kernel
theorem lay_is : ∀ cs : List Int, PyData.canLayAll0 (cs.map PyData.int) = true
  | [] => rfl
  | c :: r => by
    show (true && PyData.canLayAll0 (r.map PyData.int)) = true
    rw [lay_is r]
    rfl
theorem lay_prs : ∀ ps : List (Int × Int), PyData.canLayAll0 (ps.map fun p => PyData.tuple [.int p.1, .int p.2]) = true
  | [] => rfl
  | c :: r => by
    show (true && PyData.canLayAll0 (r.map fun p => PyData.tuple [.int p.1, .int p.2])) = true
    rw [lay_prs r]
    rfl
theorem lay_end (x : V) : PyData.canLay0 (endD x) = true := by cases x <;> rfl
theorem lay_view : ∀ v : View, Fine v → PyData.canLay0 (dataV v) = true
  | .table t, _ => by simp [dataV, PyData.canLay0, PyData.canLayAll0, words_ok "table" (by decide)]
  | .within v c lo hi, h => by simp [dataV, PyData.canLay0, PyData.canLayAll0, words_ok "within" (by decide), lay_view v h, lay_end]
  | .columns v cs, h => by simp [dataV, colsD, PyData.canLay0, PyData.canLayAll0, words_ok "columns" (by decide), lay_view v h, lay_is]
  | .both v w, h => by simp [dataV, PyData.canLay0, PyData.canLayAll0, words_ok "both" (by decide), lay_view v h.1, lay_view w h.2]
  | .less v w, h => by simp [dataV, PyData.canLay0, PyData.canLayAll0, words_ok "less" (by decide), lay_view v h.1, lay_view w h.2]
  | .meet v w ps, h => by simp [dataV, pairsD, PyData.canLay0, PyData.canLayAll0, words_ok "meet" (by decide), lay_view v h.1, lay_view w h.2, lay_prs]
  | .once v, h => by simp [dataV, PyData.canLay0, PyData.canLayAll0, words_ok "once" (by decide), lay_view v h]
  | .sums v ks c, h => by simp [dataV, colsD, PyData.canLay0, PyData.canLayAll0, words_ok "sums" (by decide), lay_view v h, lay_is]
  | .reach v, h => by simp [dataV, PyData.canLay0, PyData.canLayAll0, words_ok "reach" (by decide), lay_view v h]
  | .odd o v w, h => by simp [dataV, PyData.canLay0, PyData.canLayAll0, words_ok o (List.mem_append_right _ h.1), lay_view v h.2.1, lay_view w h.2.2]
theorem dep_is : ∀ cs : List Int, PyData.depthAll (cs.map PyData.int) = 0
  | [] => rfl
  | c :: r => by
    show max 0 (PyData.depthAll (r.map PyData.int)) = 0
    rw [dep_is r]
    rfl
theorem dep_prs : ∀ ps : List (Int × Int), PyData.depthAll (ps.map fun p => PyData.tuple [.int p.1, .int p.2]) ≤ 1
  | [] => Nat.zero_le _
  | c :: r => by
    show max 1 (PyData.depthAll (r.map fun p => PyData.tuple [.int p.1, .int p.2])) ≤ 1
    have := dep_prs r
    omega
theorem dep_end (x : V) : PyData.depth (endD x) = 0 := by cases x <;> rfl
theorem dep_view : ∀ (n : Nat) (v : View), VOk n v → PyData.depth (dataV v) ≤ n + 2
  | 0, _, h => h.elim
  | n + 1, .table t, _ => by simp [dataV, PyData.depth, PyData.depthAll]
  | n + 1, .within v c lo hi, h => by have := dep_view n v h; simp [dataV, PyData.depth, PyData.depthAll, dep_end]; omega
  | n + 1, .columns v cs, h => by have := dep_view n v h.1; simp [dataV, colsD, PyData.depth, PyData.depthAll, dep_is]; omega
  | n + 1, .both v w, h => by have := dep_view n v h.1; have := dep_view n w h.2; simp [dataV, PyData.depth, PyData.depthAll]; omega
  | n + 1, .less v w, h => by have := dep_view n v h.1; have := dep_view n w h.2; simp [dataV, PyData.depth, PyData.depthAll]; omega
  | n + 1, .meet v w ps, h => by have := dep_view n v h.1; have := dep_view n w h.2.1; have := dep_prs ps; simp [dataV, pairsD, PyData.depth, PyData.depthAll]; omega
  | n + 1, .once v, h => by have := dep_view n v h; simp [dataV, PyData.depth, PyData.depthAll]; omega
  | n + 1, .sums v ks c, h => by have := dep_view n v h.1; simp [dataV, colsD, PyData.depth, PyData.depthAll, dep_is]; omega
  | n + 1, .reach v, h => by have := dep_view n v h; simp [dataV, PyData.depth, PyData.depthAll]; omega
  | n + 1, .odd o v w, h => by have := dep_view n v h.1; have := dep_view n w h.2; simp [dataV, PyData.depth, PyData.depthAll]; omega
theorem shaped_view {n : Nat} {v : View} (h : VOk n v) (hn : n ≤ 40) (f : Fine v) : SeqAt.shaped (dataV v) = true := by
  unfold SeqAt.shaped
  rw [lay_view v f, Bool.true_and]
  exact decide_eq_true (by have := dep_view n v h; omega)
def word : View → Str
  | .table _ => "table" | .within .. => "within" | .columns .. => "columns" | .both .. => "both" | .less .. => "less" | .meet .. => "meet" | .once _ => "once" | .sums .. => "sums" | .reach _ => "reach" | .odd o _ _ => o
def isNine : View → Bool
  | .odd .. => false
  | _ => true
theorem word_nine (v : View) (h : isNine v = true) : word v ∈ nine := by
  cases v <;> first | (simp only [word]; decide) | cases h
theorem eqv_head {a b : Str} {r q : List PyData} (h : PyData.eqv (.tuple (.str a :: r)) (.tuple (.str b :: q)) = true) : a = b ∧ PyData.eqvAll r q = true := by
  simp only [PyData.eqv, PyData.eqvAll, Bool.and_eq_true, beq_iff_eq] at h
  exact h
theorem eqv_is : ∀ ns ms : List Int, PyData.eqvAll (ns.map PyData.int) (ms.map PyData.int) = true → ns = ms
  | [], [], _ => rfl
  | [], _ :: _, h => by simp [PyData.eqvAll] at h
  | _ :: _, [], h => by simp [PyData.eqvAll] at h
  | n :: r, m :: q, h => by
    simp only [List.map_cons, PyData.eqvAll, PyData.eqv, Bool.and_eq_true, beq_iff_eq] at h
    rw [h.1, eqv_is r q h.2]
theorem eqv_prs : ∀ ns ms : List (Int × Int), PyData.eqvAll (ns.map fun p => PyData.tuple [.int p.1, .int p.2]) (ms.map fun p => PyData.tuple [.int p.1, .int p.2]) = true → ns = ms
  | [], [], _ => rfl
  | [], _ :: _, h => by simp [PyData.eqvAll] at h
  | _ :: _, [], h => by simp [PyData.eqvAll] at h
  | n :: r, m :: q, h => by
    simp only [List.map_cons, PyData.eqvAll, PyData.eqv, Bool.and_eq_true, beq_iff_eq, and_true] at h
    rw [eqv_prs r q h.2, show n = m from Prod.ext h.1.1 h.1.2]
theorem head_view (v : View) : ∃ r, dataV v = .tuple (.str (word v) :: r) := by cases v <;> exact ⟨_, rfl⟩
theorem eqv_word {v v' : View} (h : PyData.eqv (dataV v) (dataV v') = true) : word v = word v' := by
  obtain ⟨r, e⟩ := head_view v
  obtain ⟨q, e'⟩ := head_view v'
  rw [e, e'] at h
  exact (eqv_head h).1
theorem no_four {v v' : View} (h : word v = word v') (h1 : word v ∈ nine) (h2 : word v' ∈ four) : False := four_nine h2 (h ▸ h1)
/-- equal views are of the same width -/
theorem same_width (ws : List Int) : ∀ (v v' : View), Fine v → Fine v' → PyData.eqv (dataV v) (dataV v') = true → widthOf ws v = widthOf ws v' := by
  intro v
  induction v with
  | table t =>
    intro v' f f' h
    have hw := eqv_word h
    cases v' <;> first | exact absurd hw (by simp only [word]; decide) | skip
    · simp [dataV, PyData.eqv, PyData.eqvAll] at h
      rw [h]
    · exact (no_four hw (word_nine _ rfl) f'.1).elim
  | within v c lo hi ih =>
    intro v' f f' h
    have hw := eqv_word h
    cases v' <;> first | exact absurd hw (by simp only [word]; decide) | skip
    · simp only [dataV, PyData.eqv, PyData.eqvAll, Bool.and_eq_true, beq_iff_eq] at h
      simp only [widthOf, ih _ f (by exact f') h.2.1, h.2.2.1]
    · exact (no_four hw (word_nine _ rfl) f'.1).elim
  | columns v cs ih =>
    intro v' f f' h
    have hw := eqv_word h
    cases v' <;> first | exact absurd hw (by simp only [word]; decide) | skip
    · simp only [dataV, colsD, PyData.eqv, PyData.eqvAll, Bool.and_eq_true, beq_iff_eq] at h
      simp only [widthOf, ih _ f (by exact f') h.2.1, eqv_is _ _ h.2.2.1]
    · exact (no_four hw (word_nine _ rfl) f'.1).elim
  | both v w i1 i2 =>
    intro v' f f' h
    have hw := eqv_word h
    cases v' <;> first | exact absurd hw (by simp only [word]; decide) | skip
    · simp only [dataV, PyData.eqv, PyData.eqvAll, Bool.and_eq_true, beq_iff_eq] at h
      simp only [widthOf, i1 _ f.1 f'.1 h.2.1, i2 _ f.2 f'.2 h.2.2.1]
    · exact (no_four hw (word_nine _ rfl) f'.1).elim
  | less v w i1 i2 =>
    intro v' f f' h
    have hw := eqv_word h
    cases v' <;> first | exact absurd hw (by simp only [word]; decide) | skip
    · simp only [dataV, PyData.eqv, PyData.eqvAll, Bool.and_eq_true, beq_iff_eq] at h
      simp only [widthOf, i1 _ f.1 f'.1 h.2.1, i2 _ f.2 f'.2 h.2.2.1]
    · exact (no_four hw (word_nine _ rfl) f'.1).elim
  | meet v w ps i1 i2 =>
    intro v' f f' h
    have hw := eqv_word h
    cases v' <;> first | exact absurd hw (by simp only [word]; decide) | skip
    · simp only [dataV, pairsD, PyData.eqv, PyData.eqvAll, Bool.and_eq_true, beq_iff_eq] at h
      simp only [widthOf, i1 _ f.1 f'.1 h.2.1, i2 _ f.2 f'.2 h.2.2.1, eqv_prs _ _ h.2.2.2.1]
    · exact (no_four hw (word_nine _ rfl) f'.1).elim
  | once v ih =>
    intro v' f f' h
    have hw := eqv_word h
    cases v' <;> first | exact absurd hw (by simp only [word]; decide) | skip
    · simp only [dataV, PyData.eqv, PyData.eqvAll, Bool.and_eq_true, beq_iff_eq] at h
      simp only [widthOf, ih _ f (by exact f') h.2.1]
    · exact (no_four hw (word_nine _ rfl) f'.1).elim
  | sums v ks c ih =>
    intro v' f f' h
    have hw := eqv_word h
    cases v' <;> first | exact absurd hw (by simp only [word]; decide) | skip
    · simp only [dataV, colsD, PyData.eqv, PyData.eqvAll, Bool.and_eq_true, beq_iff_eq] at h
      simp only [widthOf, ih _ f (by exact f') h.2.1, eqv_is _ _ h.2.2.1, h.2.2.2.1]
    · exact (no_four hw (word_nine _ rfl) f'.1).elim
  | reach v ih =>
    intro v' f f' h
    have hw := eqv_word h
    cases v' <;> first | exact absurd hw (by simp only [word]; decide) | skip
    · simp only [dataV, PyData.eqv, PyData.eqvAll, Bool.and_eq_true, beq_iff_eq] at h
      simp only [widthOf, ih _ f (by exact f') h.2.1]
    · exact (no_four hw (word_nine _ rfl) f'.1).elim
  | odd o v w _ _ =>
    intro v' f f' h
    have hw := eqv_word h
    cases v' <;> first | rfl | exact (no_four hw.symm (word_nine _ rfl) f.1).elim
end KB

/-! KM: match over tuples that begin with a text. -/
namespace KM
open PySem PySem.Spec PyProof.Rows L2
section
variable {X : Cx} {pins : List (Addr × Obj)} {σ : L2.St} {H : Hp} {s : Shared}
/-- a pattern over a text: whether it fits -/
def PPat (X : Cx) (p : Pattern) (q : Str → Bool) : Prop := ∀ (s : Shared) (z : Str) (t : Tok) (Q : Option (List (Str × Value)) → Shared → Prop),
  (∀ k, Q (if q z = true then some [] else none) { s with toks := k }) → wpAny (model X.prog X.w) X.A (matchPattern p X.env (.str z t)) Q X.xe s
theorem str_eq {a b : Str} : (a.cps.toList == b.cps.toList) = decide (a = b) := by
  by_cases h : a = b
  · subst h; simp
  · have : ¬ a.cps.toList = b.cps.toList := fun e => h (by
      cases a; cases b
      simp only [Str.mk.injEq]
      exact Array.toList_inj.mp e)
    rw [decide_eq_false h]
    simpa using this
theorem pp_str {k : Str} {j : Nat} {p1 p2 : Pos} : PPat X (.MatchValue (.Constant (.str k) j p1) p2) (fun z => decide (z = k)) := by
  intro s z t Q h
  refine wpAny_matchPattern_Value ?_
  refine Calls.Constant_str ?_
  refine PySem.P.eq_str ?_
  refine wpAny_truthy_bool ?_
  rw [str_eq]
  by_cases e : z = k
  · have h2 := h (s.toks + 1)
    simp only [e, decide_true, if_true] at h2 ⊢
    exact h2
  · have h2 := h (s.toks + 1)
    simp only [e, decide_false, Bool.false_eq_true, if_false] at h2 ⊢
    exact h2
theorem pp_or2 {p1 p2 : Pattern} {q1 q2 : Str → Bool} {pos : Pos} (h1 : PPat X p1 q1) (h2 : PPat X p2 q2) (hn : p1.names = [] := by rfl) : PPat X (.MatchOr [p1, p2] pos) (fun z => q1 z || q2 z) := by
  intro s z t Q h
  refine wpAny_matchPattern_Or ?_
  refine wpAny_matchFirst_cons (h1 s z t _ fun k => ?_)
  have en : namesOfAll ([p1, p2].take 1) = [] := by
    show namesOfAll [p1] = []
    simp [namesOfAll, hn]
  by_cases e1 : q1 z = true
  · rw [if_pos e1]
    have := h k
    simp only [e1, Bool.true_or, if_true] at this
    simp only [en, List.filterMap_nil]
    exact this
  · rw [if_neg e1]
    refine wpAny_matchFirst_cons (h2 _ z t _ fun k2 => ?_)
    have := h k2
    by_cases e2 : q2 z = true
    · rw [if_pos e2]
      simp only [e2, Bool.or_true, if_true] at this
      simp only [en, List.filterMap_nil]
      exact this
    · rw [if_neg e2]
      simp only [e1, e2, Bool.or_self, Bool.false_eq_true, if_false] at this
      exact wpAny_matchFirst_nil this
/-- the rest: names that catch, and places that don't -/
inductive Caps (X : Cx) : List Pattern → TGs → Prop
  | nil : Caps X [] gNil
  | name {x : Str} {i : Nat} {pos : Pos} {ps : List Pattern} {u : TGs} (hi : X.N[i]? = some x) (hx : Loc X.env.scope x) (hf : X.fn x = true ∨ X.env.scope.names.lookup x = some .local) (r : Caps X ps u) : Caps X (.MatchAs none (some x) pos :: ps) (gCons (gName i) u)
  | wild {pos : Pos} {ps : List Pattern} {u : TGs} (r : Caps X ps u) : Caps X (.MatchAs none none pos :: ps) (gCons (fun _ σ H Q => Q σ H) u)
theorem caps_run {ps : List Pattern} {u : TGs} (hN : X.N.Nodup) (c : Caps X ps u) : ∀ (vs : List V) (us : List Value), Vals vs us → vs.length = ps.length →
    ∃ bs : List (Str × Value), (∀ (s : Shared) (Q : Option (List (Str × Value)) → Shared → Prop), Q (some bs) s → wpAny (model X.prog X.w) X.A (matchEach ps X.env us) Q X.xe s) ∧
      ∀ (σ : L2.St) (H : Hp) (s : Shared) (R : L2.St → Hp → Prop) (Q : Unit → Shared → Prop), Inv X pins σ H s → u vs σ H R → (∀ σ' H' s', Inv X pins σ' H' s' → R σ' H' → Q () s') →
        wpAny (model X.prog X.w) X.A (assignInOrder (bs.map fun (n, _) => bindName X.env n) (bs.map (·.2))) Q X.xe s := by
  induction c with
  | nil =>
    intro vs us r hl
    cases r with
    | cons => cases hl
    | nil =>
      exact ⟨[], fun s Q h => wpAny_matchEach_nil h, fun σ H s R Q I h k => wpAny_assignInOrder_none (k σ H s I h.2)⟩
  | @name x i pos ps u hi hx hf c ih =>
    intro vs us r hl
    cases r with
    | nil => cases hl
    | @cons v w vr ur r rr =>
      obtain ⟨bs, h1, h2⟩ := ih vr ur rr (by simpa using hl)
      refine ⟨(x, w) :: bs, fun s Q h => ?_, fun σ H s R Q I h k => ?_⟩
      · refine wpAny_matchEach_cons (wpAny_matchPattern_Capture ?_)
        exact h1 s _ h
      · obtain ⟨_, _, e, h⟩ := h
        cases e
        refine wpAny_assignInOrder_more ?_
        refine wpAny_bindName ?_
        refine store_ok I hN hi hx r ?_ hf
        intro s' I'
        exact h2 _ H s' R Q I' h k
  | @wild pos ps u c ih =>
    intro vs us r hl
    cases r with
    | nil => cases hl
    | @cons v w vr ur r rr =>
      obtain ⟨bs, h1, h2⟩ := ih vr ur rr (by simpa using hl)
      refine ⟨bs, fun s Q h => ?_, fun σ H s R Q I h k => ?_⟩
      · refine wpAny_matchEach_cons (wpAny_matchPattern_Capture ?_)
        exact h1 s _ h
      · obtain ⟨_, _, e, h⟩ := h
        cases e
        exact h2 σ H s R Q I h k
/-- cases of a match, for the thing that is looked at -/
structure PM (X : Cx) (cs : List MatchCase) (t : V → TS) : Prop where
  run : ∀ (pins : List (Addr × Obj)) (s : Shared) (σ : L2.St) (H : Hp) (D : Ends) (v : V) (u : Value) (first : Bool), Inv X pins σ H s → RelV v u → t v D σ H → wpAny (model X.prog X.w) X.A (matchCases cs X.env u first) (SP X pins D) X.xe s
def tCase (K : PySem.W.Frag) (n : Nat) (q : Str → Bool) (g : TGs) (tb : TS) (tr : V → TS) : V → TS := fun v D σ H => ∃ a z r, v = .ref a ∧ SqT K H a (.str z :: r) ∧
  ((r.length = n ∧ q z = true → g r σ H fun σ' H' => tb D σ' H') ∧ (¬ (r.length = n ∧ q z = true) → tr v D σ H))
theorem pm_seq {p : Pattern} {ps : List Pattern} {pos : Pos} {body : List Stmt} {rest : List MatchCase} {q : Str → Bool} {g : TGs} {tb : TS} {tr : V → TS} {n : Nat} (hc : X.calm = true) (hN : X.N.Nodup) (hp : PPat X p q) (hg : Caps X ps g) (hb : PSs X body tb) (hr : PM X rest tr)
    (hn : ps.length = n := by rfl) (hs : p.isStar = false := by rfl)
    (hstar : (p :: ps).findIdx? (·.isStar) = none := by rfl) (hwild : ((p :: ps).all fun p => p.isWildcard || (p.isStar && p.names.isEmpty)) = false := by rfl) :
    PM X (⟨.MatchSequence (p :: ps) pos, none, body⟩ :: rest) (tCase X.K n q g tb tr) := by
  refine ⟨fun pins s σ H D v u first I r h => ?_⟩
  obtain ⟨a, z, rs, rfl, hq, y, no⟩ := h
  cases r
  obtain ⟨its, rv, ht, hz⟩ := I.tuple hq
  have hlen : its.length = rs.length + 1 := by rw [← rv.length]; rfl
  have hfit : ((its.toArray.size : Nat) : Int) < 2 ^ 63 := by
    have h1 : its.toArray.size = its.length := by simp
    have h2 : its.length ≤ sizeLine := by rw [hlen]; exact hz
    have h3 : sizeLine < 2 ^ 63 := by decide
    omega
  refine wpAny_matchCases_cons ?_
  have Ik : ∀ k, Inv X pins σ H { s with toks := k } := fun k => I.kept (t' := k) fun _ _ e => e
  by_cases hl : rs.length = n
  · refine matchSeq_tuple_hit ht hfit (by simp [hlen, hl, hn]) ?_ hstar hwild
    have he : (p :: ps).length = its.toArray.size := by simp [hlen, hl, hn]
    rw [he]
    refine unpackItems_tuple (I.ok.hd hc) ht fun h' hx => ?_
    cases rv with
    | @cons v1 u1 r1 us1 r0 rr =>
      obtain ⟨t0, rfl⟩ := r0
      have I1 : ∀ k, Inv X pins σ H { s with heap := h', toks := k } := fun k => I.kept (t' := k) fun b o e => hx b o (Nat.ne_of_lt (Heap.lt_size e)) e
      show wpAny _ _ (matchEach (p :: ps) X.env (.str z t0 :: us1)) _ _ _
      refine wpAny_matchEach_cons (hp _ z t0 _ fun k => ?_) hs
      by_cases e : q z = true
      · rw [if_pos e]
        obtain ⟨bs, h1, h2⟩ := caps_run (pins := pins) hN hg rs us1 rr (by rw [hl, hn])
        refine h1 _ _ ?_
        show wpAny _ _ (assignInOrder ((([] : List (Str × Value)) ++ bs).map fun (n, _) => bindName X.env n) ((([] : List (Str × Value)) ++ bs).map (·.2))) _ _ _
        rw [List.nil_append]
        refine h2 σ H _ _ _ (I1 k) (y ⟨hl, e⟩) fun σ' H' s' I' hR => ?_
        exact hb.run pins s' σ' H' D I' hR
      · rw [if_neg e]
        exact hr.run pins _ σ H D (.ref a) _ false (I1 k) rfl (no fun z => e z.2)
  · refine matchSeq_tuple_miss ht hfit (by simp [hlen, hn, hl]) ?_ hstar hwild
    exact hr.run pins _ σ H D (.ref a) _ false (Ik _) rfl (no fun z => hl z.1)
theorem pm_any {pos : Pos} {body : List Stmt} {tb : TS} (hb : PSs X body tb) : PM X [⟨.MatchAs none none pos, none, body⟩] (fun _ => tb) := by
  refine ⟨fun pins s σ H D v u first I r h => ?_⟩
  refine wpAny_matchCases_cons (wpAny_matchPattern_Capture ?_)
  exact wpAny_assignInOrder_none (hb.run pins s σ H D I h)
def tMatch (te : TE) (t : V → TS) : TS := fun D σ H => te σ H fun v H1 => t v D σ H1
theorem ps_match {e : Expr} {cs : List MatchCase} {pos : Pos} {te : TE} {t : V → TS} (he : PE X e te) (hm : PM X cs t) : PS X (.Match e cs pos) (tMatch te t) := by
  refine ⟨fun pins s σ H D I h => ?_⟩
  refine wpAny_Match (thn (he.run pins s σ H _ I h) fun u s1 ⟨v, H1, I1, r1, q1⟩ => ?_)
  exact hm.run pins s1 σ H1 D v u true I1 r1 q1
end
end KM

/-! KG: any(.. for c in numbers), the test reads one captured number of the def. -/
namespace KG
open PySem PySem.Spec PyProof.Rows L2 GxR
section
variable {X : Cx} {pins : List (Addr × Obj)} {σ : L2.St} {H : Hp} {s : Shared}
/-- the test of the number n, beside a captured number m of the name y -/
def EltI (prog : Program) (w : World) (scope : Scope) (cells : List (Str × Addr)) (x y : Str) (elt : Expr) (pb : Int → Int → Bool) : Prop :=
  ∀ (ce : Env) (B : Around) (E' : Value → Shared → Prop) (n m : Int) (t u : Tok) (r : Shared) (mm : Str → Option Value) (c : Addr), ce.scope = scope → ce.cells = cells → r.heap.Ns ce.locals mm → mm x = some (.int n t) → cells.lookup y = some c → r.heap.IsCell c (some (.int m u)) →
    wpAny (model prog w) B (eval elt ce) (fun b r' => b = .bool (pb m n) ∧ Keeps r r') E' r
def out (m n : Int) : Bool := decide (n < 0) || decide (m ≤ n)
/-- x < 0 or x >= y -/
theorem elt_out {prog : Program} {w : World} {scope : Scope} {cells : List (Str × Addr)} {x y : Str} {j : Nat} {p1 p2 p3 p4 p5 p6 p7 : Pos} (hk : scope.kind = .function) (hl : scope.names.lookup x = some .local) (hy : scope.names.lookup y = some .free)
    (hd : (x == ("__debug__" : Str)) = false := by decide) (hd2 : (y == ("__debug__" : Str)) = false := by decide) (hd3 : (y == ("__classdict__" : Str)) = false := by decide) :
    EltI prog w scope cells x y (.BoolOp .Or [.Compare (.Name x p1) [.Lt] [.Constant (.int 0) j p2] p3, .Compare (.Name x p4) [.GtE] [.Name y p5] p6] p7) out := by
  intro ce B E' n m t u r mm c hs hc hn hm hcy hcell
  have kx : ce.kindOf x = some .local := by show ce.scope.names.lookup x = _; rw [hs]; exact hl
  have ky : ce.kindOf y = some .free := by show ce.scope.names.lookup y = _; rw [hs]; exact hy
  have kk : ce.scope.kind = .function := by rw [hs]; exact hk
  refine wpAny_Or2 ?_
  refine wpAny_Compare1 (wpAny_Name (wpAny_loadName_local kk kx hn hm ?_) hd)
  refine wpAny_Constant_int ?_
  refine PySem.P.lt_int (wpAny_truthy_bool ?_)
  by_cases h0 : n < 0
  · simp only [h0, decide_true, if_true]
    exact ⟨by unfold out; rw [decide_eq_true h0]; rfl, keeps_tok r _⟩
  · simp only [h0, decide_false, Bool.false_eq_true, if_false]
    refine wpAny_Compare1 (wpAny_Name (wpAny_loadName_local kk kx (s := { r with toks := r.toks + 1 }) hn hm ?_) hd)
    refine wpAny_Name (wpAny_loadName_free kk ky (by rw [hc]; exact hcy) (s := { r with toks := r.toks + 1 }) hcell ?_ hd3) hd2
    refine PySem.P.ge_int ⟨?_, keeps_tok r _⟩
    unfold out
    rw [decide_eq_false h0, Bool.false_or]
/-- the test at place j -/
def trI (q : Int → Bool) (ns : List Int) (j : Nat) : Bool := ((ns[j]?).map q).getD false
theorem any_trI (q : Int → Bool) (ns : List Int) : (List.range ns.length).any (trI q ns) = ns.any q := by
  rw [Bool.eq_iff_iff, List.any_eq_true, List.any_eq_true]
  refine ⟨fun ⟨j, hj, h⟩ => ?_, fun ⟨b, hb, h⟩ => ?_⟩
  · have lt := List.mem_range.mp hj
    unfold trI at h
    rw [List.getElem?_eq_getElem lt] at h
    exact ⟨ns[j], List.getElem_mem lt, h⟩
  · obtain ⟨j, lt, e⟩ := List.getElem_of_mem hb
    refine ⟨j, List.mem_range.mpr lt, ?_⟩
    unfold trI
    rw [List.getElem?_eq_getElem lt, e]
    exact h
theorem ints_at {ns : List Int} {us : List Value} (r : Vals (ns.map V.int) us) {i : Nat} {v : Value} (h : us[i]? = some v) : ∃ n t, ns[i]? = some n ∧ v = .int n t := by
  have hl := r.length
  rw [List.length_map] at hl
  have lt : i < us.length := (List.getElem?_eq_some_iff.mp h).1
  have e : (ns.map V.int)[i]? = some (.int ns[i]) := by rw [List.getElem?_map, List.getElem?_eq_getElem (by omega)]; rfl
  obtain ⟨u, h1, t, h2⟩ := Vals.get r e
  rw [h] at h1
  cases h1
  exact ⟨_, t, List.getElem?_eq_getElem (by omega), h2⟩
/-- a walk over what stands at a: an iterator o laid, whose walk gives the items -/
def Over (X : Cx) (r : Shared) (a : Addr) (us : List Value) : Prop := ∃ (o : Obj) (St : Nat → Heap → Prop), (∀ Q E, Q (.ref r.heap.objs.size) { r with heap := r.heap.push o } → wpAny (model X.prog X.w) X.A (pyIter (.ref a)) Q E r) ∧
  (∀ B : Around, B.handled = none → Walks X.prog X.w B r.heap.objs.size [r.heap.objs.size, a] [r.heap.objs.size] us.length (fun i v => us[i]? = some v) St) ∧ St 0 (r.heap.push o) ∧ ∃ o', r.heap.get? a = some o' ∧ o'.cls ≠ .none
theorem over_list {r : Shared} {a : Addr} {us : List Value} (h : PlainL r.heap a us.toArray) : Over X r a us := by
  obtain ⟨o, n, ho, hc, hd, hs⟩ := h
  have hL : r.heap.IsList a us.toArray := ⟨o, ho, hc, n, hs⟩
  have hne : a ≠ r.heap.objs.size := Nat.ne_of_lt (Heap.lt_size ho)
  refine ⟨{ cls := .type "list_iterator", data := .fields #[.ref a, .int 0 0] }, fun i h => h.IsListIter r.heap.objs.size a i ∧ h.IsList a us.toArray, fun Q E q => wpAny_pyIter_list hL q, fun B hB => ?_, ⟨⟨_, Heap.get?_push_size _ rfl, rfl, rfl⟩, ⟨o, Heap.get?_push_of_some _ ho, hc, n, hs⟩⟩, o, ho, by rw [hc]; exact fun z => nomatch z⟩
  have W := Walks.list (prog := X.prog) (w := X.w) hB r.heap.objs.size a hne us.toArray
  simpa using W
theorem over_tup {r : Shared} {a : Addr} {us : List Value} (h : IsTup r.heap a us.toArray) : Over X r a us := by
  obtain ⟨o, ho, hc, n, hs⟩ := h
  have hL : r.heap.IsTuple a us.toArray := ⟨o, ho, hc, n, hs⟩
  have hne : a ≠ r.heap.objs.size := Nat.ne_of_lt (Heap.lt_size ho)
  refine ⟨{ cls := .type "tuple_iterator", data := .fields #[.ref a, .int 0 0] }, fun i h => h.IsTupleIter r.heap.objs.size a i ∧ h.IsTuple a us.toArray, fun Q E q => wpAny_pyIter_tuple hL q, fun B hB => ?_, ⟨⟨_, Heap.get?_push_size _ rfl, rfl, rfl⟩, ⟨o, Heap.get?_push_of_some _ ho, hc, n, hs⟩⟩, o, ho, by rw [hc]; exact fun z => nomatch z⟩
  have W := Walks.tuple (prog := X.prog) (w := X.w) hB r.heap.objs.size a hne us.toArray
  simpa using W
/-- the generator at g, not yet walked; what it gives; behind its walk the table may have grown -/
def ReadyI (X : Cx) (pins : List (Addr × Obj)) (σ : L2.St) (Ha : Hp) (P : Addr) (q : Int → Bool) (ns : List Int) (g : Addr) (r : Shared) : Prop :=
  ∃ (fa fb : List Addr) (G : Array GenState → Array GenState → Prop) (F : Nat → Value → Prop) (St : Nat → Shared → Prop),
    WalksS X.prog X.w X.A.in1 g fa fb G ns.length F St ∧ St 0 r ∧ TruthOf X.prog X.w X.A.in1 F (trI q ns) ∧ ∀ r', Moved fb G r r' → ∃ Hb, Tabbed P Ha Hb ∧ Inv X pins σ Hb r'
theorem gen_ints {c P : Addr} {elt iter : Expr} {x y : Str} {px gpos : Pos} {scope : Scope} {pb : Int → Int → Bool} {te : TE} {k iy : Nat} {Q' : Value → Shared → Prop} {R : Addr → List Int → Int → Hp → Prop}
    (hr : Room k X.A) (TB : TabB X.base X.mg c P) (hcode : X.env.code = .ref c) (S : GenS X.env scope x) (hi : PE X iter te) (hy : X.N[iy]? = some y) (hyk : X.env.kindOf y = some .cell) (hyc : ∀ d, X.env.cells.lookup y = some d → (cloFrom X.env.cells scope.names []).lookup y = some d)
    (hel : EltI X.prog X.w scope (cloFrom X.env.cells scope.names []) x y elt pb)
    (hs : ∀ v, genFold iter X.env v = pure v) (I : Inv X pins σ H s) (h : te σ H fun v Ha => ∃ (a : Addr) (ns : List Int) (m : Int), v = .ref a ∧ (SqL X.K Ha a (ns.map V.int) ∨ SqT X.K Ha a (ns.map V.int)) ∧ σ[iy]? = some (some (.int m)) ∧ TabG Ha P ∧ R a ns m Ha)
    (hQ : ∀ a ns m Ha g r, R a ns m Ha → ReadyI X pins σ Ha P (pb m) ns g r → Q' (.ref g) r) :
    wpAny (model X.prog X.w) X.A (eval (.GeneratorExp elt [⟨.Name x px, iter, [], 0⟩] scope gpos) X.env) Q' X.xe s := by
  refine wpAny_GeneratorExp_walksQ hr.hd S.co (closure_ok S.free) S.cell S.dot S.loc S.kind (by have := hr.dp; omega) ?_ hs
  refine thn (hi.run pins s σ H _ I h) fun xv ra ⟨v, Ha, Ia, ra1, qa⟩ => ?_
  obtain ⟨a, ns, m, rfl, hsq, hsm, ⟨ps, hP, ht⟩, qa⟩ := qa
  cases ra1
  obtain ⟨us, rv, ov⟩ : ∃ us : List Value, Vals (ns.map V.int) us ∧ Over X ra a us := by
    rcases hsq with z | z
    · obtain ⟨us, rv, z, _⟩ := Ia.list z
      exact ⟨us, rv, over_list z⟩
    · obtain ⟨us, rv, z, _⟩ := Ia.tuple z
      exact ⟨us, rv, over_tup z⟩
  have hlen : us.length = ns.length := by rw [← rv.length, List.length_map]
  obtain ⟨o, St, hit, W, hst, oa, hoa, hna⟩ := ov
  refine hit _ _ ?_
  obtain ⟨mm, hns, hloc⟩ := Ia.loc
  obtain ⟨uy, ⟨ty, huy⟩, hlook⟩ := hloc iy y (.int m) hy hsm (.inr (.inl hyk))
  obtain ⟨cy, hcy, oc, hoc, hdc⟩ : ∃ cy, X.env.cells.lookup y = some cy ∧ ra.heap.IsCell cy (some uy) := by
    rcases hlook with ⟨z, _⟩ | ⟨_, z⟩
    · rw [hyk] at z
      cases z
    · exact z
  subst huy
  have gP0 : ra.heap.get? P = some { cls := .none, data := .fields ps } := Ia.hok P _ hP
  have cyP : cy ≠ P := fun z => by
    rw [z, gP0] at hoc
    cases hoc
    cases hdc
  have aP : a ≠ P := fun z => by
    rw [z, gP0] at hoa
    cases hoa
    exact hna rfl
  have ltP : P < ra.heap.objs.size := Heap.lt_size gP0
  have gP1 : (ra.heap.push o).get? P = some { cls := .none, data := .fields ps } := Heap.get?_push_of_some _ gP0
  have cd : PySem.W.CodeHd (ra.heap.push o) c P := TB.code.keeps fun b z e => Heap.get?_push_of_some _ (Ia.bk b z e)
  have lim : (ra.heap.push o).NoLimit := Ia.nolimit.push o
  have go : ∀ (code : Value) (hp : Heap) (tk : Nat) (pt : Array Value), Heap.ExtBut P (ra.heap.push o) hp → (ra.heap.push o).objs.size ≤ hp.objs.size → hp.get? P = some { cls := .none, data := .fields pt } → (∃ more, pt = ps ++ more) → TriplesOk pt.toList →
      wpAny (model X.prog X.w) X.A (builtinsFor X.env.globals X.env.builtins) (fun bi rb =>
        ∃ Ia' fp wr n₀ Pf St₀ pz F, Value.ref ra.heap.objs.size = .ref Ia' ∧ (∀ B : Around, B.handled = none → Walks X.prog X.w B Ia' fp wr n₀ Pf St₀) ∧ St₀ 0 rb.heap ∧ (∀ b ∈ fp, b < rb.heap.objs.size) ∧ rb.heap.NoLimit ∧ cStatics ∉ wr ∧
          (∀ hq : Heap, (∀ b z, rb.heap.get? b = some z → hq.get? b = some z) →
            QuietGen X.prog X.w (genEnv scope (cloFrom X.env.cells scope.names []) rb.heap.objs.size code bi X.env) x [] elt (List.range rb.heap.objs.size) wr Pf pz F hq) ∧
          (∀ g h₅ tk gs, gs.bare = true → rb.heap.objs.size < g → h₅.objs.size = g + 1 → (∀ b z, rb.heap.get? b = some z → h₅.get? b = some z) →
            WalksS X.prog X.w X.A.in4 g (g :: rb.heap.objs.size :: List.range rb.heap.objs.size) (rb.heap.objs.size :: wr) (GenOnlyQ rb.gens.size) (passing pz n₀ 0).length
              (fun j z => ∃ i, (passing pz n₀ 0)[j]? = some i ∧ F i z) (GenAt X.prog X.w X.A.in4 g rb.gens.size rb.heap.objs.size (List.range rb.heap.objs.size) wr pz n₀ F) →
            GenAt X.prog X.w X.A.in4 g rb.gens.size rb.heap.objs.size (List.range rb.heap.objs.size) wr pz n₀ F 0 { rb with gens := rb.gens.push gs, toks := tk, heap := h₅ } →
            Q' (.ref g) { rb with gens := rb.gens.push gs, toks := tk, heap := h₅ })) X.xe { ra with heap := hp, toks := tk } := by
    intro code hp tk pt hx hsz gP2 hmore ht2
    obtain ⟨bm, ob, w1, w2, w3, w4, w5, w6, w7, w8⟩ := TB.bm
    have hcl : cStatics < ra.heap.objs.size := let ⟨_, z, _⟩ := Ia.nolimit; z.lt
    have stP : cStatics ≠ P := fun e => by
      obtain ⟨_, z, _⟩ := Ia.nolimit
      obtain ⟨o', es, ep, ho, hd, _⟩ := z
      rw [e, gP0] at ho
      cases ho
      cases hd
    have sz2 : (ra.heap.push o).objs.size = ra.heap.objs.size + 1 := Heap.size_push ..
    have lt3 : (ra.heap.objs.size : Nat) < hp.objs.size := by omega
    have kp : ∀ b z, b ≠ P → ra.heap.get? b = some z → hp.get? b = some z := fun b z hb e => hx b z hb (Heap.get?_push_of_some _ e)
    refine wpAny_builtinsFor (m := X.mg) (by rw [Ia.ok.glob]; exact ((Ia.mod.glob.keeps Ia.bk).push o).extBut hx TB.gP) w1 w2 (kp _ _ w4 (Ia.bk _ _ w5)) w6 w7 w8 ?_
    refine ⟨ra.heap.objs.size, [ra.heap.objs.size, a], [ra.heap.objs.size], us.length, (fun i v => us[i]? = some v), St, (fun _ => true), (fun i z => ∃ n, ns[i]? = some n ∧ z = .bool (pb m n)), rfl, W, ?_, ?_, lim.extBut hx stP, ?_, ?_, ?_⟩
    · refine (W X.A hr.hd).frame _ _ _ hst fun b hb z e => hx b z (fun e2 => ?_) e
      simp only [List.mem_cons, List.not_mem_nil, or_false] at hb
      rcases hb with e3 | e3
      · exact Nat.ne_of_lt ltP (e2.symm.trans e3)
      · exact aP (e3.symm.trans e2)
    · intro b hb
      simp only [List.mem_cons, List.not_mem_nil, or_false] at hb
      rcases hb with e3 | e3
      · rw [e3]
        exact lt3
      · rw [e3]
        exact Nat.lt_trans (Heap.lt_size hoa) lt3
    · intro z
      rw [List.mem_singleton] at z
      exact Nat.ne_of_lt hcl z
    · intro hq hhq
      refine ⟨fun B E' i v r2 m2 hA hPv hn hm hk => ?_, fun B E' i v r2 m2 hA hPv hpz hn hm hk => ?_⟩
      · simp only [List.forIn_nil]
        exact wpAny_pure ⟨rfl, keeps_refl _⟩
      · obtain ⟨n, t, hnn, rfl⟩ := ints_at rv hPv
        have ltc : cy < ra.heap.objs.size := Heap.lt_size hoc
        have hc2 : r2.heap.IsCell cy (some (.int m ty)) := by
          refine ⟨oc, hk cy (List.mem_range.mpr (Nat.lt_trans ltc lt3)) (fun z => ?_) oc (hhq _ _ (kp _ _ cyP hoc)), hdc⟩
          rw [List.mem_singleton] at z
          exact Nat.ne_of_lt ltc z
        exact wpAny_mono (hel _ B E' n m t ty r2 m2 cy rfl rfl hn hm (hyc _ hcy) hc2) (fun z r3 q => ⟨⟨n, hnn, q.1⟩, q.2⟩) fun _ _ e => e
    · intro g h5 tk5 gs hgb hag hsz5 hk5 W5 hat
      simp only [GxR.passing_true, List.length_range] at W5
      rw [hlen] at W5 hat
      refine hQ a ns m Ha g _ qa ⟨_, _, _, _, _, W5.in4_1, hat, ?_, fun r' hm => ?_⟩
      · intro j z sj Qj Ej hz hQj
        obtain ⟨i, hij, n, hnn, rfl⟩ := hz
        obtain ⟨hj, ej⟩ := List.getElem?_eq_some_iff.mp hij
        rw [List.getElem_range] at ej
        subst ej
        have e9 : trI (pb m) ns j = pb m n := by unfold trI; rw [hnn]; rfl
        have hQ2 : Qj (trI (pb m) ns j) sj := hQj
        rw [e9] at hQ2
        exact wpAny_truthy_bool hQ2
      · obtain ⟨more, em⟩ := hmore
        have nwr : ∀ b z, ra.heap.get? b = some z → b ∉ hp.objs.size :: [ra.heap.objs.size] := fun b z e hb => by
          have hl := Heap.lt_size e
          simp only [List.mem_cons, List.not_mem_nil, or_false] at hb
          rcases hb with e3 | e3
          · rw [e3] at hl
            exact Nat.lt_asymm hl lt3
          · rw [e3] at hl
            exact Nat.lt_irrefl _ hl
        have J := inv_tab (more := more) (h' := r'.heap) (g' := r'.gens) (d' := r'.drawn) (t' := r'.toks) Ia hP (fun b z hb e => hm.heap b z (nwr b z e) (hk5 b z (kp b z hb e)))
          (by rw [← em]; exact hm.heap P _ (nwr P _ gP0) (hk5 P _ gP2)) (AllBare.movedS (Ia.bare.push hgb) hm)
        rw [sh_eta ra r' hm.os] at J
        exact ⟨upd Ha P (.tbl (ps ++ more)), ⟨⟨ps ++ more, upd_same, by rw [← em]; exact ht2⟩, fun b hb => upd_ne hb⟩, J⟩
  refine ⟨lim, ?_⟩
  cases hf : codeAmong gpos ps.toList with
  | none =>
    refine wpAny_genexprCodeX hcode (cd.code gP1 ht) (cd.tab gP1) hf fun c' h' tk hx hge hlt hco' _ htab' _ => ?_
    obtain ⟨o1, vs, f1, tf, fl, tg, inF, tx, tt, op, _, _, _, _, _, _, _, _, _, htr, _⟩ := hco'
    exact go _ h' tk _ hx (Nat.le_trans hge (Nat.le_of_lt hlt)) htab'.2 ⟨_, rfl⟩ htr
  | some cv =>
    refine wpAny_genexprCode_hit hcode (cd.code gP1 ht) hf ?_
    exact go cv (ra.heap.push o) ra.toks ps (Heap.ExtBut.refl _ _) (Nat.le_refl _) gP1 ⟨#[], by simp⟩ ht
/-- any(test for x in e), e a list or a tuple of numbers, the test reads the def's number at place iy -/
def tAnyI (K : PySem.W.Frag) (P : Addr) (iy : Nat) (pb : Int → Int → Bool) (te : TE) : TE := fun σ H Q => te σ H fun v Ha => ∃ (a : Addr) (ns : List Int) (m : Int), v = .ref a ∧ (SqL K Ha a (ns.map V.int) ∨ SqT K Ha a (ns.map V.int)) ∧ σ[iy]? = some (some (.int m)) ∧ TabG Ha P ∧ ∀ Hb, Tabbed P Ha Hb → Q (.bl (ns.any (pb m))) Hb
theorem pe_anyI {c P : Addr} {elt iter : Expr} {x y : Str} {px p pos gpos : Pos} {scope : Scope} {pb : Int → Int → Bool} {te : TE} {k iy : Nat}
    (hr : Room k X.A) (hg : Gl X "any") (hm : X.mg "any" = none) (TB : TabB X.base X.mg c P) (hcode : X.env.code = .ref c) (S : GenS X.env scope x) (hi : PE X iter te) (hy : X.N[iy]? = some y) (hyk : X.env.kindOf y = some .cell) (hyc : ∀ d, X.env.cells.lookup y = some d → (cloFrom X.env.cells scope.names []).lookup y = some d)
    (hel : EltI X.prog X.w scope (cloFrom X.env.cells scope.names []) x y elt pb)
    (hs : ∀ v, genFold iter X.env v = pure v)
    (he : starEach [.GeneratorExp elt [⟨.Name x px, iter, [], 0⟩] scope gpos] X.env = (false, eval (.GeneratorExp elt [⟨.Name x px, iter, [], 0⟩] scope gpos) X.env) :: starEach [] X.env := by rfl) :
    PE X (.Call (.Name "any" p) [.GeneratorExp elt [⟨.Name x px, iter, [], 0⟩] scope gpos] [] pos) (tAnyI X.K P iy pb te) := by
  constructor
  intro pins s σ H Q I h
  refine wpAny_Call_Name_kw (ld_blt I hg hm boot_any ?_)
  refine PyProof.Rows.callWith_builtin1 ?_ he (by rfl)
  rw [he]
  show wpAny _ _ (spliced ((false, eval (.GeneratorExp elt [⟨.Name x px, iter, [], 0⟩] scope gpos) X.env) :: backTo pos (starEach [] X.env))) _ _ s
  refine Calls.spliced_cons (gen_ints (R := fun _ ns m Ha => ∀ Hb, Tabbed P Ha Hb → Q (.bl (ns.any (pb m))) Hb) hr TB hcode S hi hy hyk hyc hel hs I h fun a ns m Ha g r hR hG => ?_)
  obtain ⟨fa, fb, G, F, St, W, hst, htr, hI⟩ := hG
  refine Calls.spliced_nil ?_
  refine call_any_walkS (W.self 0 _ _ _ hst ⟨g, fa, fb, G, _, F, St, _, rfl, W, hst, htr, fun r' hmv => ?_⟩)
  obtain ⟨Hb, hT, J⟩ := hI r' hmv
  refine ⟨.bl _, Hb, J, rfl, ?_⟩
  rw [any_trI]
  exact hR Hb hT
end
end KG

/-! KT: what stands when objects are only added and the tables of code objects may grow. -/
namespace KB
open PySem PySem.Spec PyProof.Rows L2 Evl
structure XT (H H' : Hp) : Prop where
  at_ : ∀ (a : Addr) (o : HO), (∀ ps, o ≠ .tbl ps) → H a = some o → H' a = some o
  tab : ∀ P : Addr, GxR.TabG H P → GxR.TabG H' P
theorem XT.refl (H : Hp) : XT H H := ⟨fun _ _ _ h => h, fun _ h => h⟩
theorem XT.trans {H H1 H2 : Hp} (a : XT H H1) (b : XT H1 H2) : XT H H2 := ⟨fun p o n h => b.at_ p o n (a.at_ p o n h), fun P h => b.tab P (a.tab P h)⟩
theorem XT.of_ex {H H' : Hp} (e : Ex H H') : XT H H' := ⟨fun p o _ h => e p o h, fun P ⟨ps, h, t⟩ => ⟨ps, e _ _ h, t⟩⟩
theorem XT.of_tab {P : Addr} {H H' : Hp} (g : GxR.TabG H P) (t : GxR.Tabbed P H H') : XT H H' := ⟨fun a o n h => by
  by_cases ha : a = P
  · obtain ⟨ps, hp, _⟩ := g
    rw [ha, hp] at h
    exact (n ps (Option.some.inj h).symm).elim
  · rw [t.2 a ha]; exact h, fun Q h => by
  by_cases ha : Q = P
  · rw [ha]; exact t.1
  · obtain ⟨ps, hp, r⟩ := h
    exact ⟨ps, by rw [t.2 Q ha]; exact hp, r⟩⟩
theorem XT.tup {H H' : Hp} {a : Addr} {xs : List V} (e : XT H H') (h : H a = some (.tup xs)) : H' a = some (.tup xs) := e.at_ _ _ (fun _ z => nomatch z) h
theorem XT.lst {H H' : Hp} {a : Addr} {xs : List V} (e : XT H H') (h : H a = some (.lst xs)) : H' a = some (.lst xs) := e.at_ _ _ (fun _ z => nomatch z) h
theorem XT.view {H H' : Hp} (e : XT H H') : ∀ (v : View) (x : V), VAt H v x → VAt H' v x
  | .table t, x, ⟨p, a, b⟩ => ⟨p, a, e.tup b⟩
  | .within v c lo hi, x, ⟨p, y, a, b, hv, r⟩ => ⟨p, y, a, e.tup b, XT.view e v y hv, r⟩
  | .columns v cs, x, ⟨p, y, q, a, b, hv, hq⟩ => ⟨p, y, q, a, e.tup b, XT.view e v y hv, e.tup hq⟩
  | .both v w, x, ⟨p, y, z, a, b, hv, hw⟩ => ⟨p, y, z, a, e.tup b, XT.view e v y hv, XT.view e w z hw⟩
  | .less v w, x, ⟨p, y, z, a, b, hv, hw⟩ => ⟨p, y, z, a, e.tup b, XT.view e v y hv, XT.view e w z hw⟩
  | .meet v w ps, x, ⟨p, y, z, q, a, b, hv, hw, rs, hq, hr⟩ => ⟨p, y, z, q, a, e.tup b, XT.view e v y hv, XT.view e w z hw, rs, e.tup hq, L2.Paired.mapP hr fun _ _ h => e.tup h⟩
  | .once v, x, ⟨p, y, a, b, hv⟩ => ⟨p, y, a, e.tup b, XT.view e v y hv⟩
  | .sums v ks c, x, ⟨p, y, q, a, b, hv, hq⟩ => ⟨p, y, q, a, e.tup b, XT.view e v y hv, e.tup hq⟩
  | .reach v, x, ⟨p, y, a, b, hv⟩ => ⟨p, y, a, e.tup b, XT.view e v y hv⟩
  | .odd o v w, x, ⟨p, y, z, a, b, hv, hw, f⟩ => ⟨p, y, z, a, e.tup b, XT.view e v y hv, XT.view e w z hw, f⟩
theorem XT.rd {H H' : Hp} {a : Addr} {o : HO} (e : XT H H') (n : ∀ ps, o ≠ .tbl ps) (h : Rd H a o) : Rd H' a o := h.imp (fun z => e.at_ _ _ n z) fun ⟨b, z⟩ => ⟨b, e.at_ _ _ (fun _ z => nomatch z) z⟩
theorem XT.sl {K : PySem.W.Frag} {H H' : Hp} {xs : List V} {p : Addr} (e : XT H H') (h : SqL K H p xs) : SqL K H' p xs := h.imp (fun z => e.rd (fun _ z => nomatch z) z) id
theorem XT.st {K : PySem.W.Frag} {H H' : Hp} {xs : List V} {p : Addr} (e : XT H H') (h : SqT K H p xs) : SqT K H' p xs := h.imp (fun z => e.rd (fun _ z => nomatch z) z) id
theorem XT.sq {K : PySem.W.Frag} {H H' : Hp} {xs : List V} {p : Addr} (e : XT H H') (h : SqL K H p xs ∨ SqT K H p xs) : SqL K H' p xs ∨ SqT K H' p xs := h.imp e.sl e.st
/-- a def whose code object's place is known -/
theorem okXC {P : Program} {w : World} {K : PySem.W.Frag} {mg : Str → Option Value} {base : Heap} {x qual : Str} {st : Stmt} {f : Addr} {oc kV doc pm cdv ct : Value} {od an : Option Addr} {osl : Array (Option Value)} {N ps : List Str} {k : Nat} {sp : Sp}
    (lk : K.lookup f = some ⟨oc, od, .func (PySem.W.fnOf x qual (defArgs st) (defBody st) (defScope st) .none kV doc pm an cdv ct), osl⟩) (hcd : PySem.W.codeIn K cdv qual = true) (S : FnScope N ps (defScope st)) (len : ∀ vs H Q E, sp vs H Q E → vs.length = ps.length)
    (hbody : ∀ (A : Around) (outer : List Env) (s : Shared) (H : Hp) (vs : List V) (Q : VK) (E : XK), Room k (A.deeper (envOfC qual (defScope st) s.heap.objs.size f cdv)) → sp vs H Q E →
      ∃ t, PSs (cxOf (L2.CX P w) P w K mg base N qual (defScope st) f cdv A outer s H E) (defBody st) t ∧ t { nx := fun _ H' => Q .non H', rt := Q } (start N vs) H) :
    FnOk P w K mg base (L2.CX P w) (k + 1) f (PySem.W.fnOf x qual (defArgs st) (defBody st) (defScope st) .none kV doc pm an cdv ct) ps sp :=
  fn_of lk hcd S len fun A outer s H vs Q E hr h => hbody A outer s H vs Q E hr h
end KB

namespace K06
open PySem PySem.Spec PyProof.Rows L2 Evl KB
def topS (i : Nat) : Stmt := PySem.Challenge.pw_changeview_k06_widths_told.main.body.getD i (.Pass ⟨0, 0, 0, 0⟩)
abbrev swidth_of : Stmt := topS 10
abbrev Nwidth_of : List Str := ["view", "widths", "width"]
abbrev Pwidth_of : List Str := ["view", "widths"]
theorem scwidth_of : FnScope Nwidth_of Pwidth_of (defScope swidth_of) := ⟨rfl, rfl, rfl, by decide +kernel, rfl, by decide +kernel, by decide +kernel⟩
abbrev s_told_width : Stmt := topS 11
abbrev N_told_width : List Str := ["view", "widths", "number", "inner", "column", "picked", "one", "other", "pairs", "keys"]
abbrev P_told_width : List Str := ["view", "widths"]
theorem sc_told_width : FnScope N_told_width P_told_width (defScope s_told_width) := ⟨rfl, rfl, rfl, by decide +kernel, rfl, by decide +kernel, by decide +kernel⟩
abbrev s_table_width : Stmt := topS 12
abbrev N_table_width : List Str := ["number", "widths"]
abbrev P_table_width : List Str := ["number", "widths"]
theorem sc_table_width : FnScope N_table_width P_table_width (defScope s_table_width) := ⟨rfl, rfl, rfl, by decide +kernel, rfl, by decide +kernel, by decide +kernel⟩
abbrev s_width_with : Stmt := topS 13
abbrev N_width_with : List Str := ["view", "picked", "widths", "width"]
abbrev P_width_with : List Str := ["view", "picked", "widths"]
theorem sc_width_with : FnScope N_width_with P_width_with (defScope s_width_with) := ⟨rfl, rfl, rfl, by decide +kernel, rfl, by decide +kernel, by decide +kernel⟩
abbrev s_columns_width : Stmt := topS 14
abbrev N_columns_width : List Str := ["view", "picked", "widths"]
abbrev P_columns_width : List Str := ["view", "picked", "widths"]
theorem sc_columns_width : FnScope N_columns_width P_columns_width (defScope s_columns_width) := ⟨rfl, rfl, rfl, by decide +kernel, rfl, by decide +kernel, by decide +kernel⟩
abbrev s_like_width : Stmt := topS 15
abbrev N_like_width : List Str := ["one", "other", "widths", "width", "second"]
abbrev P_like_width : List Str := ["one", "other", "widths"]
theorem sc_like_width : FnScope N_like_width P_like_width (defScope s_like_width) := ⟨rfl, rfl, rfl, by decide +kernel, rfl, by decide +kernel, by decide +kernel⟩
abbrev s_meet_width : Stmt := topS 16
abbrev N_meet_width : List Str := ["one", "other", "pairs", "widths", "first", "second", "left", "_", "right"]
abbrev P_meet_width : List Str := ["one", "other", "pairs", "widths"]
theorem sc_meet_width : FnScope N_meet_width P_meet_width (defScope s_meet_width) := ⟨rfl, rfl, rfl, by decide +kernel, rfl, by decide +kernel, by decide +kernel⟩
abbrev s_reach_width : Stmt := topS 17
abbrev N_reach_width : List Str := ["view", "widths", "width"]
abbrev P_reach_width : List Str := ["view", "widths"]
theorem sc_reach_width : FnScope N_reach_width P_reach_width (defScope s_reach_width) := ⟨rfl, rfl, rfl, by decide +kernel, rfl, by decide +kernel, by decide +kernel⟩
abbrev s_check_columns : Stmt := topS 18
abbrev N_check_columns : List Str := ["picked", "width"]
abbrev P_check_columns : List Str := ["picked", "width"]
theorem sc_check_columns : FnScope N_check_columns P_check_columns (defScope s_check_columns) := ⟨rfl, rfl, rfl, by decide +kernel, rfl, by decide +kernel, by decide +kernel⟩
abbrev s_two_widths : Stmt := topS 19
abbrev N_two_widths : List Str := ["one", "other", "widths", "width"]
abbrev P_two_widths : List Str := ["one", "other", "widths"]
theorem sc_two_widths : FnScope N_two_widths P_two_widths (defScope s_two_widths) := ⟨rfl, rfl, rfl, by decide +kernel, rfl, by decide +kernel, by decide +kernel⟩
abbrev sL_whole : Stmt := topS 21
abbrev NL_whole : List Str := ["_law_found"]
abbrev PL_whole : List Str := ["_law_found"]
theorem scL_whole : FnScope NL_whole PL_whole (defScope sL_whole) := ⟨rfl, rfl, rfl, by decide +kernel, rfl, by decide +kernel, by decide +kernel⟩
abbrev sL_at : Stmt := topS 22
abbrev NL_at : List Str := ["_law_script", "_law_k"]
abbrev PL_at : List Str := ["_law_script", "_law_k"]
theorem scL_at : FnScope NL_at PL_at (defScope sL_at) := ⟨rfl, rfl, rfl, by decide +kernel, rfl, by decide +kernel, by decide +kernel⟩
abbrev sL_some : Stmt := topS 23
abbrev NL_some : List Str := ["_law_cell", "_law_many_here", "_law_width", "_law_found", "_law_k"]
abbrev PL_some : List Str := ["_law_cell", "_law_many_here", "_law_width"]
theorem scL_some : FnScope NL_some PL_some (defScope sL_some) := ⟨rfl, rfl, rfl, by decide +kernel, rfl, by decide +kernel, by decide +kernel⟩
abbrev sL_over_one : Stmt := topS 24
abbrev NL_over_one : List Str := ["_law_kind", "_law_rest", "_law_one", "_law_width", "_law_column", "_law_more", "_law_low", "_law_ends", "_law_some_here", "_law_keys"]
abbrev PL_over_one : List Str := ["_law_kind", "_law_rest", "_law_one", "_law_width"]
theorem scL_over_one : FnScope NL_over_one PL_over_one (defScope sL_over_one) := ⟨rfl, rfl, rfl, by decide +kernel, rfl, by decide +kernel, by decide +kernel⟩
abbrev sL_over_two : Stmt := topS 25
abbrev NL_over_two : List Str := ["_law_kind", "_law_rest", "_law_one", "_law_width", "_law_other", "_law_wide_here", "_law_front", "_law_first", "_law_second", "_law_k", "_law_left", "_law_right", "_law_pairs"]
abbrev PL_over_two : List Str := ["_law_kind", "_law_rest", "_law_one", "_law_width", "_law_other", "_law_wide_here"]
theorem scL_over_two : FnScope NL_over_two PL_over_two (defScope sL_over_two) := ⟨rfl, rfl, rfl, by decide +kernel, rfl, by decide +kernel, by decide +kernel⟩
abbrev sL_view : Stmt := topS 26
abbrev NL_view : List Str := ["_law_script", "_law_widths_here", "_law_turn", "_law_at_here", "_law_deep", "_law_cell", "_law_kind", "_law_rest", "_law_down", "_law_one", "_law_width", "_law_other", "_law_wide_here"]
abbrev PL_view : List Str := ["_law_script", "_law_widths_here", "_law_turn", "_law_at_here", "_law_deep"]
theorem scL_view : FnScope NL_view PL_view (defScope sL_view) := ⟨rfl, rfl, rfl, by decide +kernel, rfl, by decide +kernel, by decide +kernel⟩
abbrev sL_widths : Stmt := topS 27
abbrev NL_widths : List Str := ["_law_script", "_law_head", "_law_many_here", "_law_wide_here", "_law_k"]
abbrev PL_widths : List Str := ["_law_script"]
theorem scL_widths : FnScope NL_widths PL_widths (defScope sL_widths) := ⟨rfl, rfl, rfl, by decide +kernel, rfl, by decide +kernel, by decide +kernel⟩
abbrev sL_there : Stmt := topS 28
abbrev NL_there : List Str := ["_law_some_here", "_law_width", "_law_column"]
abbrev PL_there : List Str := ["_law_some_here", "_law_width"]
theorem scL_there : FnScope NL_there PL_there (defScope sL_there) := ⟨rfl, rfl, rfl, by decide +kernel, rfl, by decide +kernel, by decide +kernel⟩
abbrev sL_wide_one : Stmt := topS 29
abbrev NL_wide_one : List Str := ["_law_view_here", "_law_width"]
abbrev PL_wide_one : List Str := ["_law_view_here", "_law_width"]
theorem scL_wide_one : FnScope NL_wide_one PL_wide_one (defScope sL_wide_one) := ⟨rfl, rfl, rfl, by decide +kernel, rfl, by decide +kernel, by decide +kernel⟩
abbrev sL_wide : Stmt := topS 30
abbrev NL_wide : List Str := ["_law_view_here", "_law_widths_here", "_law_one", "_law_found", "_law_other", "_law_pair"]
abbrev PL_wide : List Str := ["_law_view_here", "_law_widths_here"]
theorem scL_wide : FnScope NL_wide PL_wide (defScope sL_wide) := ⟨rfl, rfl, rfl, by decide +kernel, rfl, by decide +kernel, by decide +kernel⟩
abbrev sL_odd : Stmt := topS 31
abbrev NL_odd : List Str := ["_law_cell", "_law_view_here", "_law_far", "_law_table", "_law_some_here"]
abbrev PL_odd : List Str := ["_law_cell", "_law_view_here"]
theorem scL_odd : FnScope NL_odd PL_odd (defScope sL_odd) := ⟨rfl, rfl, rfl, by decide +kernel, rfl, by decide +kernel, by decide +kernel⟩
abbrev sL_wrapped : Stmt := topS 32
abbrev NL_wrapped : List Str := ["_law_cell", "_law_view_here", "_law_odd_here", "_law_some_here"]
abbrev PL_wrapped : List Str := ["_law_cell", "_law_view_here", "_law_odd_here"]
theorem scL_wrapped : FnScope NL_wrapped PL_wrapped (defScope sL_wrapped) := ⟨rfl, rfl, rfl, by decide +kernel, rfl, by decide +kernel, by decide +kernel⟩
abbrev sL_many : Stmt := topS 33
abbrev NL_many : List Str := ["_law_view_here", "_law_times", "_law_k"]
abbrev PL_many : List Str := ["_law_view_here", "_law_times"]
theorem scL_many : FnScope NL_many PL_many (defScope sL_many) := ⟨rfl, rfl, rfl, by decide +kernel, rfl, by decide +kernel, by decide +kernel⟩
abbrev sL_said : Stmt := topS 34
abbrev NL_said : List Str := ["_law_view_here", "_law_widths_here", "_law_e"]
abbrev PL_said : List Str := ["_law_view_here", "_law_widths_here"]
theorem scL_said : FnScope NL_said PL_said (defScope sL_said) := ⟨rfl, rfl, rfl, by decide +kernel, rfl, by decide +kernel, by decide +kernel⟩
abbrev sL_alone : Stmt := topS 35
abbrev NL_alone : List Str := ["_law_e"]
abbrev PL_alone : List Str := ["_law_e"]
theorem scL_alone : FnScope NL_alone PL_alone (defScope sL_alone) := ⟨rfl, rfl, rfl, by decide +kernel, rfl, by decide +kernel, by decide +kernel⟩
abbrev sL : Stmt := topS 36
abbrev NL : List Str := ["_law_script", "_law_widths_here", "_law_view_here", "_law_way", "_law_handed", "_law_due", "_law_found"]
abbrev PL : List Str := ["_law_script"]
theorem scL : FnScope NL PL (defScope sL) := ⟨rfl, rfl, rfl, by decide +kernel, rfl, by decide +kernel, by decide +kernel⟩
section
variable {P : Program} {w : World} {K : PySem.W.Frag} {mg : Str → Option Value} {base : Heap}
theorem pi_or {X : Cx} {tg l : Expr} {w1 w2 : TI} (h1 : PI X tg l w1) (h2 : PI X tg l w2) : PI X tg l (fun σ H R => w1 σ H R ∨ w2 σ H R) := ⟨fun pins s σ H R I h => h.elim (h1.run pins s σ H R I) (h2.run pins s σ H R I)⟩
/-! ### small defs -/
def spWhole : Sp := SpF 1 (fun vs _ => ∃ i, vs = [.int i]) fun _ v _ => v = .bl true
theorem ok_whole {f : Addr} {fd : FuncData} {k : Nat} (A : FnAt K mg "_law_whole" sL_whole PL_whole f fd) (B : Bt mg) : FnOk P w K mg base CX0 (k + 1) f fd PL_whole spWhole := by
  refine A.F.ok scL_whole (fun vs H Q E h => h.1) (fun cdv A' outer s H vs Q E hr h => ?_)
  obtain ⟨_, ⟨i, rfl⟩, q⟩ := h
  refine ⟨_, (pss_one (ps_ret (pe_and (pe_callB call_isi (by rfl) B.isinstance (by decide +kernel) (pa_cons (pv 0) (pa_cons (pe_bltn (v := .ty "int") (u := .type "int") (by rfl) B.int (by decide +kernel) rfl) pa_nil))) (pe_one (pe_not (pe_callB call_isi (by rfl) B.isinstance (by decide +kernel) (pa_cons (pv 0) (pa_cons (pe_bltn (v := .ty "bool") (u := .type "bool") (by rfl) B.bool (by decide +kernel) rfl) pa_nil)))))))), ?_⟩
  refine ⟨_, rfl, .int i, .ty "int", .type "int", .type "int", true, rfl, (.ty "int"), .base (.int i), kit_ty (by decide +kernel), true, rfl, ?_⟩
  refine ⟨_, rfl, .int i, .ty "bool", .type "int", .type "bool", false, rfl, (.ty "bool"), .base (.int i), kit_ty (by decide +kernel), false, rfl, ?_⟩
  exact q _ _ (Ex.refl _) rfl
def spAt (K : PySem.W.Frag) : Sp := SpF 2 (fun vs H => ∃ (a : Addr) (ns : List Int) (k : Int), vs = [.ref a, .int k] ∧ SqL K H a (ns.map V.int) ∧ 0 ≤ k) fun _ v _ => ∃ i, v = .int i
theorem ok_at {f : Addr} {fd : FuncData} {k : Nat} (A : FnAt K mg "_law_at" sL_at PL_at f fd) (B : Bt mg) : FnOk P w K mg base CX0 (k + 1) f fd PL_at (spAt K) := by
  refine A.F.ok scL_at (fun vs H Q E h => h.1) (fun cdv A' outer s H vs Q E hr h => ?_)
  obtain ⟨_, ⟨a, ns, k, rfl, hS, h0⟩, q⟩ := h
  refine ⟨_, (pss_cons (ps_if (pt_cmpR op_lt (pv 1) (pe_callB call_len_seq (by rfl) B.len (by decide +kernel) (pa_cons (pv 0) pa_nil)) (nomark _)) (pss_one (ps_ret (pe_ix ix_list (pv 0) (pv 1) (fun _ _ => rfl)))) pss_nil)
  (pss_one (ps_ret pe_int))), ?_⟩
  refine ⟨.int k, rfl, .ref a, rfl, a, _, rfl, .inl hS, k, ((ns.map V.int).length : Int), rfl, rfl, _, rfl, ?_⟩
  refine ite2 (fun hd => ?_) (fun hd => ?_)
  · have hlt : k < (ns.map V.int).length := of_decide_eq_true hd
    have hk : k.toNat < ns.length := by rw [List.length_map] at hlt; omega
    refine ⟨.ref a, rfl, .int k, rfl, a, _, k, .int ns[k.toNat], rfl, rfl, hS, ?_, q _ _ (Ex.refl _) ⟨_, rfl⟩⟩
    have e := atI_nat (xs := ns.map V.int) (j := k.toNat) (v := V.int ns[k.toNat]) (by rw [List.getElem?_map, List.getElem?_eq_getElem hk]; rfl)
    rwa [show ((k.toNat : Nat) : Int) = k by omega] at e
  · exact q _ _ (Ex.refl _) ⟨_, rfl⟩
/-- a tuple of ints -/
def TupI (n : Nat) (v : V) (H : Hp) : Prop := ∃ (p : Addr) (xs : List Int), v = .ref p ∧ H p = some (.tup (xs.map V.int)) ∧ xs.length = n
theorem TupI.pers (n : Nat) (v : V) : Pers (TupI n v) := fun H H' e ⟨p, xs, a, b, c⟩ => ⟨p, xs, a, e _ _ b, c⟩
def spSome : Sp := SpF 3 (fun vs _ => ∃ c n m : Int, vs = [.int c, .int n, .int m] ∧ m ≠ 0 ∧ 0 ≤ n ∧ n ≤ 1000) fun vs v H => ∃ n : Int, vs[1]? = some (.int n) ∧ TupI n.toNat v H
theorem ok_some {f : Addr} {fd : FuncData} {k : Nat} (A : FnAt K mg "_law_some" sL_some PL_some f fd) (B : Bt mg) : FnOk P w K mg base CX0 (k + 1) f fd PL_some spSome := by
  refine A.F.ok scL_some (fun vs H Q E h => h.1) (fun cdv A' outer s H vs Q E hr h => ?_)
  obtain ⟨_, ⟨c, n, m, rfl, hm, h0, h1⟩, q⟩ := h
  refine ⟨_, (pss_cons (ps_set (i := 3) scL_some.nd rfl (.inl rfl) (pe_lst pa_nil))
  (pss_cons (ps_for PassesOwn.never rfl (pi_range1 rfl B.range (pa_cons (pv 1) pa_nil)) (pg_name (i := 4) scL_some.nd rfl (.inl rfl))
    (pss_cons (ps_expr (pe_bm PySem.F.plainAttrs_list PySem.F.slot_list_append PySem.F.type_list_append mt_append (pv 3) (pa_cons (pe_op op_modN (pv 0) (pv 2)) pa_nil)))
  (pss_one (ps_set (i := 0) scL_some.nd rfl (.inl rfl) (pe_op op_fdiv (pv 0) pe_int)))))
  (pss_one (ps_ret (pe_callTy call_tuple_of (by rfl) B.tuple (by decide +kernel) (pa_cons (pv 3) pa_nil)))))), ?_⟩
  refine ⟨Nat.zero_le _, fun o no => ?_⟩
  refine ⟨.int n, rfl, n, rfl, by omega, by omega, for_range (lo := 0) (n := n.toNat) (fun i σ H2 => ∃ (c' : Int) (y : Option V) (xs : List Int), σ = [some (.int c'), some (.int n), some (.int m), some (.ref o), y] ∧ Ex H H2 ∧ H2 o = some (.lst (xs.map V.int)) ∧ xs.length = i)
    ⟨c, none, [], rfl, Ex.new no, upd_same, rfl⟩ ?_ ?_⟩
  · rintro i σ H2 hi ⟨c', y, xs, rfl, e2, ho, hl⟩
    refine ⟨.ref o, rfl, .inl ⟨rfl, _, .inl (.inl ho)⟩, .int c', rfl, .int m, rfl, c', m, rfl, rfl, hm, o, _, _, rfl, rfl, ho, small1000 (by rw [List.length_map]; omega), ?_⟩
    refine ⟨.int c', rfl, c', 7, rfl, rfl, ⟨by decide, by decide⟩, _, _, xs ++ [c'.fmod m], rfl, Ex.mut e2 no, ?_, by rw [List.length_append, hl]; rfl⟩
    rw [upd_same, List.map_append]
    rfl
  · rintro σ H2 ⟨c', y, xs, rfl, e2, ho, hl⟩
    refine ⟨.ref o, rfl, o, _, rfl, .inl ⟨.inl (.inl ho), fun l hl' => q _ _ (e2.trans (Ex.new hl')) ⟨n, rfl, l, xs, rfl, upd_same, hl⟩⟩⟩
def spThere (K : PySem.W.Frag) : Sp := fun vs H Q _ => ∃ (a : Addr) (cs : List Int) (m : Int), vs = [.ref a, .int m] ∧ (SqL K H a (cs.map V.int) ∨ SqT K H a (cs.map V.int)) ∧ ∀ H', Ex H H' → Q (.bl (cs.all (inW m))) H'
theorem inW_iff {m c : Int} : inW m c = true ↔ 0 ≤ c ∧ c < m := by
  unfold inW
  rw [Bool.and_eq_true, decide_eq_true_eq, decide_eq_true_eq]
theorem all_take {p : Int → Bool} {cs : List Int} {i : Nat} {c : Int} (h : (cs.take i).all p = true) (hc : cs[i]? = some c) (hp : p c = true) : (cs.take (i + 1)).all p = true := by
  rw [List.take_add_one, hc, List.all_append, h]
  simp [hp]
theorem all_no {p : Int → Bool} {cs : List Int} {i : Nat} {c : Int} (hc : cs[i]? = some c) (hp : p c = false) : cs.all p = false := by
  cases e : cs.all p with
  | false => rfl
  | true =>
    have := List.all_eq_true.mp e c (List.mem_of_getElem? hc)
    rw [hp] at this
    cases this
theorem map_at {cs : List Int} {i : Nat} {x : V} (h : (cs.map V.int)[i]? = some x) : ∃ c, cs[i]? = some c ∧ x = .int c := by
  rw [List.getElem?_map] at h
  cases e : cs[i]? with
  | none => rw [e] at h; cases h
  | some c => rw [e] at h; exact ⟨c, rfl, (Option.some.inj h).symm⟩
theorem ok_there {f : Addr} {fd : FuncData} {k : Nat} (A : FnAt K mg "_law_there" sL_there PL_there f fd) (B : Bt mg) : FnOk P w K mg base CX0 (k + 1) f fd PL_there (spThere K) := by
  refine A.F.ok scL_there (fun vs H Q E h => ?_) (fun cdv A' outer s H vs Q E hr h => ?_)
  · obtain ⟨a, cs, m, rfl, _⟩ := h
    rfl
  obtain ⟨a, cs, m, rfl, hS, q⟩ := h
  refine ⟨_, (pss_cons (ps_for PassesOwn.never rfl (pi_or (pi_list (pv 0)) (pi_tup (pv 0))) (pg_name (i := 2) scL_there.nd rfl (.inl rfl))
    (pss_one (ps_if (pt_not (pt_chain op_le op_lt pe_int (pv 2) (pv 1))) (pss_one (ps_ret pe_bl)) pss_nil)))
  (pss_one (ps_ret pe_bl))), ?_⟩
  have turn : ∀ (i : Nat) (x : V) (σ : L2.St) (H2 : Hp) (D : Ends), (cs.map V.int)[i]? = some x → (∃ y, σ = [some (.ref a), some (.int m), y] ∧ Ex H H2 ∧ (cs.take i).all (inW m) = true) →
      D.rt = Q → D.nx = (fun σ H2 => ∃ y, σ = [some (.ref a), some (.int m), y] ∧ Ex H H2 ∧ (cs.take (i + 1)).all (inW m) = true) →
      (tIfS (tNot (tTest (tChain (rI0 fun i j => V.bl (decide (i ≤ j))) (rI0 fun i j => V.bl (decide (i < j))) (tC (.int 0)) (tVar 2) (tVar 1)))) (tRet (tC (.bl false))) tNext) D (σ.set 2 (some x)) H2 := by
    rintro i x σ H2 D hx ⟨y, rfl, e2, ht⟩ hrt hnx
    obtain ⟨c, hc, rfl⟩ := map_at hx
    refine ⟨.int c, rfl, 0, c, rfl, rfl, _, rfl, ?_⟩
    have yes : inW m c = true → D.nx [some (.ref a), some (.int m), some (.int c)] H2 := fun hw => by
      rw [hnx]
      exact ⟨_, rfl, e2, all_take ht hc hw⟩
    have no : inW m c = false → D.rt (.bl false) H2 := fun hw => by
      rw [hrt, ← all_no hc hw]
      exact q H2 e2
    by_cases h0 : (0 : Int) ≤ c
    · rw [decide_eq_true h0, if_pos rfl]
      refine ⟨.int m, rfl, c, m, rfl, rfl, _, rfl, ?_⟩
      by_cases h1 : c < m
      · rw [decide_eq_true h1]
        exact yes (inW_iff.mpr ⟨h0, h1⟩)
      · rw [decide_eq_false h1]
        exact no (Bool.eq_false_iff.mpr fun z => h1 (inW_iff.mp z).2)
    · rw [decide_eq_false h0, if_neg Bool.false_ne_true]
      exact ⟨false, rfl, no (Bool.eq_false_iff.mpr fun z => h0 (inW_iff.mp z).1)⟩
  have done : ∀ (σ : L2.St) (H2 : Hp), (∃ y, σ = [some (.ref a), some (.int m), y] ∧ Ex H H2 ∧ (cs.take (cs.map V.int).length).all (inW m) = true) → Q (.bl true) H2 := by
    rintro σ H2 ⟨y, rfl, e2, ht⟩
    rw [List.length_map, List.take_length] at ht
    rw [← ht]
    exact q H2 e2
  rcases hS with hS | hS
  · exact .inl ⟨.ref a, rfl, a, rfl, ⟨_, hS⟩, for_list (xs := cs.map V.int) (fun i σ H2 => ∃ y, σ = [some (.ref a), some (.int m), y] ∧ Ex H H2 ∧ (cs.take i).all (inW m) = true) ⟨none, rfl, Ex.refl H, rfl⟩
      (fun i σ H2 _ ⟨_, _, e2, _⟩ => ex_l e2 hS) (fun i x σ H2 hx hp => turn i x σ H2 _ hx hp rfl rfl) done⟩
  · exact .inr ⟨.ref a, rfl, a, rfl, ⟨_, hS⟩, for_tup (xs := cs.map V.int) (fun i σ H2 => ∃ y, σ = [some (.ref a), some (.int m), y] ∧ Ex H H2 ∧ (cs.take i).all (inW m) = true) ⟨none, rfl, Ex.refl H, rfl⟩
      (fun i σ H2 _ ⟨_, _, e2, _⟩ => ex_t e2 hS) (fun i x σ H2 hx hp => turn i x σ H2 _ hx hp rfl rfl) done⟩
/-! ### a view met with itself, some times -/
def spMany : Sp := fun vs H Q _ => ∃ (x : V) (n : Int) (d : Nat), vs = [x, .int n] ∧ 0 ≤ n ∧ n ≤ 1000 ∧ IsView d x H ∧ ∀ v H', Ex H H' → IsView (d + n.toNat) v H' → Q v H'
theorem ok_many {f : Addr} {fd : FuncData} {k : Nat} (A : FnAt K mg "_law_many" sL_many PL_many f fd) (B : Bt mg) : FnOk P w K mg base CX0 (k + 1) f fd PL_many spMany := by
  refine A.F.ok scL_many (fun vs H Q E h => ?_) (fun cdv A' outer s H vs Q E hr h => ?_)
  · obtain ⟨x, n, d, rfl, _⟩ := h
    rfl
  obtain ⟨x, n, d, rfl, h0, h1, hv, q⟩ := h
  refine ⟨_, (pss_cons (ps_for PassesOwn.never rfl (pi_range1 rfl B.range (pa_cons (pv 1) pa_nil)) (pg_name (i := 2) scL_many.nd rfl (.inl rfl))
    (pss_one (ps_set (i := 0) scL_many.nd rfl (.inl rfl) (pe_tup (pa_cons pe_str (pa_cons (pv 0) (pa_cons (pv 0) (pa_cons (pe_tup pa_nil) pa_nil))))))))
  (pss_one (ps_ret (pv 0)))), ?_⟩
  refine ⟨.int n, rfl, n, rfl, by omega, by omega, for_range (lo := 0) (n := n.toNat) (fun i σ H2 => ∃ (x' : V) (y : Option V), σ = [some x', some (.int n), y] ∧ Ex H H2 ∧ IsView (d + i) x' H2)
    ⟨x, none, rfl, Ex.refl H, hv⟩ ?_ ?_⟩
  · rintro i σ H2 hi ⟨x', y, rfl, e2, v, hok, hat⟩
    refine ⟨x', rfl, x', rfl, by show 0 ≤ sizeLine; decide, fun p hp => ⟨by show 4 ≤ sizeLine; decide, fun p2 hp2 => ?_⟩⟩
    have e3 := Ex.new (o := .tup []) hp
    have e4 := Ex.new (o := .tup [.str "meet", x', x', .ref p]) hp2
    have hat' := VAt.pers v x' _ _ (e3.trans e4) hat
    exact ⟨.ref p2, _, rfl, (e2.trans e3).trans e4, .meet v v [], ⟨hok, hok, Nat.zero_le _⟩, p2, x', x', p, rfl, upd_same, hat', hat', [], e4 _ _ upd_same, .nil⟩
  · rintro σ H2 ⟨x', y, rfl, e2, hv2⟩
    exact ⟨x', rfl, q x' H2 e2 hv2⟩
end
end K06

namespace K06
open PySem PySem.Spec PyProof.Rows L2 Evl KB
section
variable {P : Program} {w : World} {K : PySem.W.Frag} {mg : Str → Option Value} {base : Heap} {σ : L2.St} {H H' : Hp} {t1 t2 t3 : TE} {i j : Nat} {v : V} {d : Nat}
theorem est_ix0 (hv : σ[i]? = some (some v)) (h : IsEnds v H) : Est (tOp (rIxT K) (tVar i) (tC (.int 0))) σ H IsEnd := fun H1 e Q q => by
  obtain ⟨p, a, b, rfl, hp, ha, hb⟩ := h
  exact ⟨.ref p, hv, p, [a, b], 0, a, rfl, rfl, st_of (e _ _ hp), rfl, q _ _ (Ex.refl _) ha⟩
theorem est_ix1 (hv : σ[i]? = some (some v)) (h : IsEnds v H) : Est (tOp (rIxT K) (tVar i) (tC (.int 1))) σ H IsEnd := fun H1 e Q q => by
  obtain ⟨p, a, b, rfl, hp, ha, hb⟩ := h
  exact ⟨.ref p, hv, p, [a, b], 1, b, rfl, rfl, st_of (e _ _ hp), rfl, q _ _ (Ex.refl _) hb⟩
theorem TupI.cols {n : Nat} (h : TupI n v H) (l : n ≤ 1000) : IsCols v H := let ⟨p, xs, a, b, c⟩ := h; ⟨p, xs, a, b, by omega⟩
theorem ev_lenT {n : Nat} (hv : σ[i]? = some (some v)) (h : TupI n v H) : Ev (tCB (rLenS K) (tCons (tVar i) tNil)) σ H (.int (n : Int)) := fun H1 e Q q => by
  obtain ⟨p, xs, rfl, hp, hl⟩ := h
  refine ⟨.ref p, hv, p, xs.map V.int, rfl, .inr (st_of (e _ _ hp)), ?_⟩
  rw [List.length_map, hl]
  exact q _ (Ex.refl _)
theorem est_some {n m : Int} (hc : Est t1 σ H IsInt) (hn : Ev t2 σ H (.int n)) (hm : Ev t3 σ H (.int m)) (hm0 : m ≠ 0) (h0 : 0 ≤ n) (h1 : n ≤ 1000) : Est (tCall spSome [] E0 (tCons t1 (tCons t2 (tCons t3 tNil)))) σ H (TupI n.toNat) :=
  est_call (esta_3 hc (est_ev hn) (est_ev hm) IsInt.pers (fun _ => Pers.c _) (fun _ => Pers.c _)) fun vs H1 e ⟨a, b, f, ev, ⟨c, ea⟩, eb, ef⟩ Q q => by
    rw [List.append_nil, ev, ea, show b = _ from eb, show f = _ from ef]
    refine ⟨rfl, ⟨c, n, m, rfl, hm0, h0, h1⟩, fun w H2 e2 ⟨n', hn', ht⟩ => q w H2 e2 ?_⟩
    cases hn'
    exact ht
/-- a pair: a view, its width as the law reckons -/
def RetV (d : Nat) (B : Int) (v : V) (H : Hp) : Prop := ∃ (p : Addr) (y : V) (m : Int), v = .ref p ∧ H p = some (.tup [y, .int m]) ∧ IsView d y H ∧ 1 ≤ m ∧ m ≤ B
theorem RetV.pers (d : Nat) (B : Int) (v : V) : Pers (RetV d B v) := fun H H' e ⟨p, y, m, a, b, c, f, g⟩ => ⟨p, y, m, a, e _ _ b, IsView.pers d y H H' e c, f, g⟩
theorem RetV.le {d d' : Nat} {B B' : Int} {v : V} {H : Hp} (h : RetV d B v H) (l : d ≤ d') (l' : B ≤ B') : RetV d' B' v H := let ⟨p, y, m, a, b, c, f, g⟩ := h; ⟨p, y, m, a, b, c.le l, f, Int.le_trans g l'⟩
theorem est_ret {n : Int} (h1 : Est t1 σ H (IsView d)) (h2 : Ev t2 σ H (.int n)) (hn : 1 ≤ n) : Est (tTup (tCons t1 (tCons t2 tNil))) σ H (RetV d n) :=
  est_tupE (esta_2 h1 (est_ev h2) (IsView.pers d) (fun _ => Pers.c _)) (fun vs => Pers.ex fun a => Pers.ex fun b => (Pers.c _).and ((IsView.pers d a).and (Pers.c _))) (fun vs H' ⟨a, b, e, _⟩ => by rw [e]; exact le5 2 rfl (by omega)) fun p vs H' hp ⟨a, b, e, ha, hb⟩ =>
    ⟨p, a, n, rfl, by rw [hp, e, show b = _ from hb], ha, hn, Int.le_refl _⟩
def spOne : Sp := fun vs H Q _ => ∃ (kd rest m : Int) (x : V) (d : Nat), vs = [.int kd, .int rest, x, .int m] ∧ IsView d x H ∧ 1 ≤ m ∧ m ≤ 900 ∧ ∀ v H', Ex H H' → (∀ B, m ≤ B → 6 ≤ B → RetV (d + 4) B v H') → Q v H'
theorem ok_one {f f1 : Addr} {fd fd1 : FuncData} {k : Nat} (A : FnAt K mg "_law_over_one" sL_over_one PL_over_one f fd) (Asome : FnAt K mg "_law_some" sL_some PL_some f1 fd1) (B : Bt mg) : FnOk P w K mg base CX0 (k + 2) f fd PL_over_one spOne := by
  refine A.F.ok scL_over_one (fun vs H Q E h => ?_) (fun cdv A' outer s H vs Q E hr h => ?_)
  · obtain ⟨kd, rest, m, x, d, rfl, _⟩ := h
    rfl
  obtain ⟨kd, rest, m, x, d, rfl, hv, hm1, hm2, q⟩ := h
  have hr1 : Room 1 _ := hr.mono (by omega)
  have Gsome : FnOk P w K mg base CX0 1 f1 fd1 PL_some spSome := ok_some Asome B
  have hmN : CDivN rest m := ⟨by omega, by omega⟩
  refine ⟨_, (pss_cons (ps_set (i := 4) scL_over_one.nd rfl (.inl rfl) (pe_op op_modN (pv 1) (pv 3)))
  (pss_cons (ps_set (i := 5) scL_over_one.nd rfl (.inl rfl) (pe_op op_fdivN (pv 1) (pv 3)))
  (pss_cons (ps_if (pt_cmpR op_eq (pv 0) pe_int (nomark _)) (pss_cons (ps_set (i := 6) scL_over_one.nd rfl (.inl rfl) (pe_op op_sub (pe_op op_mod (pe_op op_fdiv (pv 5) pe_int) pe_int) pe_int))
  (pss_cons (ps_set (i := 7) scL_over_one.nd rfl (.inl rfl) (pe_ix ix_list (pe_lst (pa_cons (pe_tup (pa_cons (pv 6) (pa_cons (pe_op op_add (pv 6) (pe_op op_mod (pe_op op_fdiv (pv 5) pe_int) pe_int)) pa_nil))) (pa_cons (pe_tup (pa_cons (pv 6) (pa_cons pe_non pa_nil))) (pa_cons (pe_tup (pa_cons pe_non (pa_cons (pv 6) pa_nil))) (pa_cons (pe_tup (pa_cons (pv 6) (pa_cons (pv 6) pa_nil))) (pa_cons (pe_tup (pa_cons pe_non (pa_cons pe_non pa_nil))) pa_nil)))))) (pe_op op_mod (pv 5) pe_int) (fun _ _ => rfl)))
  (pss_one (ps_ret (pe_tup (pa_cons (pe_tup (pa_cons pe_str (pa_cons (pv 2) (pa_cons (pv 4) (pa_cons (pe_ix ix_tup (pv 7) pe_int (fun _ _ => rfl)) (pa_cons (pe_ix ix_tup (pv 7) pe_int (fun _ _ => rfl)) pa_nil)))))) (pa_cons (pv 3) pa_nil))))))) pss_nil)
  (pss_cons (ps_if (pt_cmpR op_eq (pv 0) pe_int (nomark _)) (pss_cons (ps_set (i := 8) scL_over_one.nd rfl (.inl rfl) (pe_call Gsome hr1 (by rfl) Asome.g Asome.F.kp Asome.b .nil pass0 (pa_cons (pe_op op_fdiv (pv 5) pe_int) (pa_cons (pe_op op_add pe_int (pe_op op_mod (pv 5) pe_int)) (pa_cons (pv 3) pa_nil)))))
  (pss_one (ps_ret (pe_tup (pa_cons (pe_tup (pa_cons pe_str (pa_cons (pv 2) (pa_cons (pv 8) pa_nil)))) (pa_cons (pe_callB call_len_seq (by rfl) B.len (by decide +kernel) (pa_cons (pv 8) pa_nil)) pa_nil)))))) pss_nil)
  (pss_cons (ps_if (PW.pt (pw_and (pt_cmpR op_eq (pe_op op_mod (pv 5) pe_int) pe_int (nomark _)) (pw_and (pt_cmpR op_gt (pv 0) pe_int (nomark _)) (pw_and1 (pt_cmpR op_gt (pv 3) pe_int (nomark _)))))) (pss_one (ps_set (i := 2) scL_over_one.nd rfl (.inl rfl) (pe_tup (pa_cons pe_str (pa_cons (pv 2) (pa_cons (pe_tup (pa_cons pe_str (pa_cons (pv 2) (pa_cons (pe_tupRev rfl (by rfl) B.tuple (by rfl) B.reversed (prg_1 (by rfl) B.range (pv 3))) pa_nil)))) pa_nil)))))) pss_nil)
  (pss_cons (ps_if (pt_cmpR op_eq (pv 0) pe_int (nomark _)) (pss_one (ps_ret (pe_tup (pa_cons (pe_tup (pa_cons pe_str (pa_cons (pv 2) pa_nil))) (pa_cons (pv 3) pa_nil))))) pss_nil)
  (pss_cons (ps_if (pt_cmpR op_eq (pv 0) pe_int (nomark _)) (pss_cons (ps_set (i := 9) scL_over_one.nd rfl (.inl rfl) (pe_call Gsome hr1 (by rfl) Asome.g Asome.F.kp Asome.b .nil pass0 (pa_cons (pe_op op_fdiv (pv 5) pe_int) (pa_cons (pe_op op_mod (pe_op op_fdiv (pv 5) pe_int) pe_int) (pa_cons (pv 3) pa_nil)))))
  (pss_one (ps_ret (pe_tup (pa_cons (pe_tup (pa_cons pe_str (pa_cons (pv 2) (pa_cons (pv 9) (pa_cons (pv 4) pa_nil))))) (pa_cons (pe_op op_add (pe_callB call_len_seq (by rfl) B.len (by decide +kernel) (pa_cons (pv 9) pa_nil)) pe_int) pa_nil)))))) pss_nil)
  (pss_cons (ps_if (PW.pt (pw_and (pt_cmpR op_eq (pv 3) pe_int (nomark _)) (pw_and1 (pt_cmpR op_eq (pe_op op_mod (pv 5) pe_int) pe_int (nomark _))))) (pss_one (ps_ret (pe_tup (pa_cons (pe_tup (pa_cons pe_str (pa_cons (pv 2) pa_nil))) (pa_cons pe_int pa_nil))))) pss_nil)
  (pss_one (ps_ret (pe_tup (pa_cons (pe_tup (pa_cons pe_str (pa_cons (pe_tup (pa_cons pe_str (pa_cons (pv 2) (pa_cons (pe_tup (pa_cons (pv 4) (pa_cons (pe_op op_modN (pv 5) (pv 3)) pa_nil))) pa_nil)))) pa_nil))) (pa_cons pe_int pa_nil))))))))))))), ?_⟩
  refine w_asg (P := IsInt) (fun H1 e1 Q1 q1 => by (repeat (first | (refine ⟨_, rfl, ?_⟩) | (refine ⟨_, _, rfl, rfl, ?_⟩) | (refine ⟨⟨by decide, by decide⟩, ?_⟩) | (refine ⟨(by show (0 : Int) < _; decide), ?_⟩) | (refine ⟨rfl, ?_⟩) | (refine ⟨(by show _ ≠ (0 : Int); omega), ?_⟩) | (refine ⟨.inl ⟨by decide, by decide⟩, ?_⟩) | (refine ⟨(by assumption : CDivN _ _), ?_⟩))); exact q1 _ _ (Ex.refl _) ⟨_, rfl⟩) fun v4 H4 e4 ⟨col, h4⟩ => ?_
  subst h4
  refine w_asg (P := IsInt) (fun H1 e1 Q1 q1 => by (repeat (first | (refine ⟨_, rfl, ?_⟩) | (refine ⟨_, _, rfl, rfl, ?_⟩) | (refine ⟨⟨by decide, by decide⟩, ?_⟩) | (refine ⟨(by show (0 : Int) < _; decide), ?_⟩) | (refine ⟨rfl, ?_⟩) | (refine ⟨(by show _ ≠ (0 : Int); omega), ?_⟩) | (refine ⟨.inl ⟨by decide, by decide⟩, ?_⟩) | (refine ⟨(by assumption : CDivN _ _), ?_⟩))); exact q1 _ _ (Ex.refl _) ⟨_, rfl⟩) fun v5 H5 e5 ⟨more, h5⟩ => ?_
  subst h5
  have e05 := e4.trans e5
  (repeat (first | (refine ⟨_, rfl, ?_⟩) | (refine ⟨_, _, rfl, rfl, ?_⟩) | (refine ⟨⟨by decide, by decide⟩, ?_⟩) | (refine ⟨(by show (0 : Int) < _; decide), ?_⟩) | (refine ⟨rfl, ?_⟩) | (refine ⟨(by show _ ≠ (0 : Int); omega), ?_⟩) | (refine ⟨.inl ⟨by decide, by decide⟩, ?_⟩) | (refine ⟨(by assumption : CDivN _ _), ?_⟩)))
  refine ite2 (fun hd => ?_) (fun hd => ?_)
  · refine w_asg (P := IsInt) (fun H1 e1 Q1 q1 => by (repeat (first | (refine ⟨_, rfl, ?_⟩) | (refine ⟨_, _, rfl, rfl, ?_⟩) | (refine ⟨⟨by decide, by decide⟩, ?_⟩) | (refine ⟨(by show (0 : Int) < _; decide), ?_⟩) | (refine ⟨rfl, ?_⟩) | (refine ⟨(by show _ ≠ (0 : Int); omega), ?_⟩) | (refine ⟨.inl ⟨by decide, by decide⟩, ?_⟩) | (refine ⟨(by assumption : CDivN _ _), ?_⟩))); exact q1 _ _ (Ex.refl _) ⟨_, rfl⟩) fun v6 H6 e6 ⟨low, h6⟩ => ?_
    subst h6
    refine w_asg (P := IsEnds) (est_menu (n := 5) (i := more % 5) (allz_cons (est_ends (est_endI (fun H1 e1 Q1 q1 => by (repeat (first | (refine ⟨_, rfl, ?_⟩) | (refine ⟨_, _, rfl, rfl, ?_⟩) | (refine ⟨⟨by decide, by decide⟩, ?_⟩) | (refine ⟨(by show (0 : Int) < _; decide), ?_⟩) | (refine ⟨rfl, ?_⟩) | (refine ⟨(by show _ ≠ (0 : Int); omega), ?_⟩) | (refine ⟨.inl ⟨by decide, by decide⟩, ?_⟩) | (refine ⟨(by assumption : CDivN _ _), ?_⟩))); exact q1 _ _ (Ex.refl _) ⟨_, rfl⟩)) (est_endI (fun H1 e1 Q1 q1 => by (repeat (first | (refine ⟨_, rfl, ?_⟩) | (refine ⟨_, _, rfl, rfl, ?_⟩) | (refine ⟨⟨by decide, by decide⟩, ?_⟩) | (refine ⟨(by show (0 : Int) < _; decide), ?_⟩) | (refine ⟨rfl, ?_⟩) | (refine ⟨(by show _ ≠ (0 : Int); omega), ?_⟩) | (refine ⟨.inl ⟨by decide, by decide⟩, ?_⟩) | (refine ⟨(by assumption : CDivN _ _), ?_⟩))); exact q1 _ _ (Ex.refl _) ⟨_, rfl⟩))) (allz_cons (est_ends (est_endI (fun H1 e1 Q1 q1 => by (repeat (first | (refine ⟨_, rfl, ?_⟩) | (refine ⟨_, _, rfl, rfl, ?_⟩) | (refine ⟨⟨by decide, by decide⟩, ?_⟩) | (refine ⟨(by show (0 : Int) < _; decide), ?_⟩) | (refine ⟨rfl, ?_⟩) | (refine ⟨(by show _ ≠ (0 : Int); omega), ?_⟩) | (refine ⟨.inl ⟨by decide, by decide⟩, ?_⟩) | (refine ⟨(by assumption : CDivN _ _), ?_⟩))); exact q1 _ _ (Ex.refl _) ⟨_, rfl⟩)) est_endN) (allz_cons (est_ends est_endN (est_endI (fun H1 e1 Q1 q1 => by (repeat (first | (refine ⟨_, rfl, ?_⟩) | (refine ⟨_, _, rfl, rfl, ?_⟩) | (refine ⟨⟨by decide, by decide⟩, ?_⟩) | (refine ⟨(by show (0 : Int) < _; decide), ?_⟩) | (refine ⟨rfl, ?_⟩) | (refine ⟨(by show _ ≠ (0 : Int); omega), ?_⟩) | (refine ⟨.inl ⟨by decide, by decide⟩, ?_⟩) | (refine ⟨(by assumption : CDivN _ _), ?_⟩))); exact q1 _ _ (Ex.refl _) ⟨_, rfl⟩))) (allz_cons (est_ends (est_endI (fun H1 e1 Q1 q1 => by (repeat (first | (refine ⟨_, rfl, ?_⟩) | (refine ⟨_, _, rfl, rfl, ?_⟩) | (refine ⟨⟨by decide, by decide⟩, ?_⟩) | (refine ⟨(by show (0 : Int) < _; decide), ?_⟩) | (refine ⟨rfl, ?_⟩) | (refine ⟨(by show _ ≠ (0 : Int); omega), ?_⟩) | (refine ⟨.inl ⟨by decide, by decide⟩, ?_⟩) | (refine ⟨(by assumption : CDivN _ _), ?_⟩))); exact q1 _ _ (Ex.refl _) ⟨_, rfl⟩)) (est_endI (fun H1 e1 Q1 q1 => by (repeat (first | (refine ⟨_, rfl, ?_⟩) | (refine ⟨_, _, rfl, rfl, ?_⟩) | (refine ⟨⟨by decide, by decide⟩, ?_⟩) | (refine ⟨(by show (0 : Int) < _; decide), ?_⟩) | (refine ⟨rfl, ?_⟩) | (refine ⟨(by show _ ≠ (0 : Int); omega), ?_⟩) | (refine ⟨.inl ⟨by decide, by decide⟩, ?_⟩) | (refine ⟨(by assumption : CDivN _ _), ?_⟩))); exact q1 _ _ (Ex.refl _) ⟨_, rfl⟩))) (allz_cons (est_ends est_endN est_endN) allz_nil IsEnds.pers) IsEnds.pers) IsEnds.pers) IsEnds.pers) IsEnds.pers) IsEnds.pers (fun H1 e1 Q1 q1 => by (repeat (first | (refine ⟨_, rfl, ?_⟩) | (refine ⟨_, _, rfl, rfl, ?_⟩) | (refine ⟨⟨by decide, by decide⟩, ?_⟩) | (refine ⟨(by show (0 : Int) < _; decide), ?_⟩) | (refine ⟨rfl, ?_⟩) | (refine ⟨(by show _ ≠ (0 : Int); omega), ?_⟩) | (refine ⟨.inl ⟨by decide, by decide⟩, ?_⟩) | (refine ⟨(by assumption : CDivN _ _), ?_⟩))); exact q1 _ (Ex.refl _)) (by omega) (by omega) (by omega)) fun v7 H7 e7 h7 => ?_
    have e07 := e05.trans (e6.trans e7)
    exact w_ret (est_ret (n := m) (vc_within (est_var rfl (IsView.pers d _ _ _ e07 hv) (IsView.pers d _)) (fun H1 e1 Q1 q1 => by (repeat (first | (refine ⟨_, rfl, ?_⟩) | (refine ⟨_, _, rfl, rfl, ?_⟩) | (refine ⟨⟨by decide, by decide⟩, ?_⟩) | (refine ⟨(by show (0 : Int) < _; decide), ?_⟩) | (refine ⟨rfl, ?_⟩) | (refine ⟨(by show _ ≠ (0 : Int); omega), ?_⟩) | (refine ⟨.inl ⟨by decide, by decide⟩, ?_⟩) | (refine ⟨(by assumption : CDivN _ _), ?_⟩))); exact q1 _ _ (Ex.refl _) ⟨_, rfl⟩) (est_ix0 rfl h7) (est_ix1 rfl h7)) (fun H1 e1 Q1 q1 => by (repeat (first | (refine ⟨_, rfl, ?_⟩) | (refine ⟨_, _, rfl, rfl, ?_⟩) | (refine ⟨⟨by decide, by decide⟩, ?_⟩) | (refine ⟨(by show (0 : Int) < _; decide), ?_⟩) | (refine ⟨rfl, ?_⟩) | (refine ⟨(by show _ ≠ (0 : Int); omega), ?_⟩) | (refine ⟨.inl ⟨by decide, by decide⟩, ?_⟩) | (refine ⟨(by assumption : CDivN _ _), ?_⟩))); exact q1 _ (Ex.refl _)) hm1) fun v H' e hR => q v H' (e07.trans e) fun B b1 b2 => hR.le (by omega) b1
  (repeat (first | (refine ⟨_, rfl, ?_⟩) | (refine ⟨_, _, rfl, rfl, ?_⟩) | (refine ⟨⟨by decide, by decide⟩, ?_⟩) | (refine ⟨(by show (0 : Int) < _; decide), ?_⟩) | (refine ⟨rfl, ?_⟩) | (refine ⟨(by show _ ≠ (0 : Int); omega), ?_⟩) | (refine ⟨.inl ⟨by decide, by decide⟩, ?_⟩) | (refine ⟨(by assumption : CDivN _ _), ?_⟩)))
  refine ite2 (fun hd => ?_) (fun hd => ?_)
  · refine w_asg (P := TupI (1 + more % 3).toNat) (est_some (n := 1 + more % 3) (m := m) (fun H1 e1 Q1 q1 => by (repeat (first | (refine ⟨_, rfl, ?_⟩) | (refine ⟨_, _, rfl, rfl, ?_⟩) | (refine ⟨⟨by decide, by decide⟩, ?_⟩) | (refine ⟨(by show (0 : Int) < _; decide), ?_⟩) | (refine ⟨rfl, ?_⟩) | (refine ⟨(by show _ ≠ (0 : Int); omega), ?_⟩) | (refine ⟨.inl ⟨by decide, by decide⟩, ?_⟩) | (refine ⟨(by assumption : CDivN _ _), ?_⟩))); exact q1 _ _ (Ex.refl _) ⟨_, rfl⟩) (fun H1 e1 Q1 q1 => by (repeat (first | (refine ⟨_, rfl, ?_⟩) | (refine ⟨_, _, rfl, rfl, ?_⟩) | (refine ⟨⟨by decide, by decide⟩, ?_⟩) | (refine ⟨(by show (0 : Int) < _; decide), ?_⟩) | (refine ⟨rfl, ?_⟩) | (refine ⟨(by show _ ≠ (0 : Int); omega), ?_⟩) | (refine ⟨.inl ⟨by decide, by decide⟩, ?_⟩) | (refine ⟨(by assumption : CDivN _ _), ?_⟩))); exact q1 _ (Ex.refl _)) (fun H1 e1 Q1 q1 => by (repeat (first | (refine ⟨_, rfl, ?_⟩) | (refine ⟨_, _, rfl, rfl, ?_⟩) | (refine ⟨⟨by decide, by decide⟩, ?_⟩) | (refine ⟨(by show (0 : Int) < _; decide), ?_⟩) | (refine ⟨rfl, ?_⟩) | (refine ⟨(by show _ ≠ (0 : Int); omega), ?_⟩) | (refine ⟨.inl ⟨by decide, by decide⟩, ?_⟩) | (refine ⟨(by assumption : CDivN _ _), ?_⟩))); exact q1 _ (Ex.refl _)) (by omega) (by omega) (by omega)) fun v8 H8 e8 h8 => ?_
    have e08 := e05.trans e8
    exact w_ret (est_ret (n := ((1 + more % 3).toNat : Int)) (vc_columns (est_var rfl (IsView.pers _ _ _ _ e08 hv) (IsView.pers _ _)) (est_var rfl (h8.cols (by omega)) (IsCols.pers _))) (ev_lenT rfl h8) (by omega)) fun v H' e hR => q v H' (e08.trans e) fun B b1 b2 => hR.le (by omega) (by omega)
  refine at_next ?_
  refine w_join (fun σ' H' => ∃ x', σ' = [some (.int kd), some (.int rest), some x', some (.int m), some (.int col), some (.int more), none, none, none, none] ∧ Ex H H' ∧ IsView (d + 2) x' H') (fun N hN => ?_) ?_
  · (repeat (first | (refine ⟨_, rfl, ?_⟩) | (refine ⟨_, _, rfl, rfl, ?_⟩) | (refine ⟨⟨by decide, by decide⟩, ?_⟩) | (refine ⟨(by show (0 : Int) < _; decide), ?_⟩) | (refine ⟨rfl, ?_⟩) | (refine ⟨(by show _ ≠ (0 : Int); omega), ?_⟩) | (refine ⟨.inl ⟨by decide, by decide⟩, ?_⟩) | (refine ⟨(by assumption : CDivN _ _), ?_⟩)))
    refine ite2 (fun hd => ?_) (fun hd => ?_)
    · (repeat (first | (refine ⟨_, rfl, ?_⟩) | (refine ⟨_, _, rfl, rfl, ?_⟩) | (refine ⟨⟨by decide, by decide⟩, ?_⟩) | (refine ⟨(by show (0 : Int) < _; decide), ?_⟩) | (refine ⟨rfl, ?_⟩) | (refine ⟨(by show _ ≠ (0 : Int); omega), ?_⟩) | (refine ⟨.inl ⟨by decide, by decide⟩, ?_⟩) | (refine ⟨(by assumption : CDivN _ _), ?_⟩)))
      refine ite2 (fun hd => ?_) (fun hd => ?_)
      · (repeat (first | (refine ⟨_, rfl, ?_⟩) | (refine ⟨_, _, rfl, rfl, ?_⟩) | (refine ⟨⟨by decide, by decide⟩, ?_⟩) | (refine ⟨(by show (0 : Int) < _; decide), ?_⟩) | (refine ⟨rfl, ?_⟩) | (refine ⟨(by show _ ≠ (0 : Int); omega), ?_⟩) | (refine ⟨.inl ⟨by decide, by decide⟩, ?_⟩) | (refine ⟨(by assumption : CDivN _ _), ?_⟩)))
        refine ite2 (fun hd => ?_) (fun hd => ?_)
        · exact w_asg1 (P := IsView (d + 2)) (vc_less (est_var rfl ((IsView.pers _ _ _ _ e05 hv).le (by omega)) (IsView.pers (d + 1) _)) (vc_columns (est_var rfl (IsView.pers _ _ _ _ e05 hv) (IsView.pers _ _)) (est_rev rfl (by omega) (by omega)))) fun v2 H2 e2 h2 => hN _ _ ⟨v2, rfl, e05.trans e2, h2⟩
        · exact hN _ _ ⟨x, rfl, e05, (IsView.pers _ _ _ _ e05 hv).le (by omega)⟩
      · refine ite2 (fun hd => ?_) (fun hd => ?_)
        · exact absurd hd Bool.false_ne_true
        · exact hN _ _ ⟨x, rfl, e05, (IsView.pers _ _ _ _ e05 hv).le (by omega)⟩
    · refine ite2 (fun hd => ?_) (fun hd => ?_)
      · exact absurd hd Bool.false_ne_true
      · exact hN _ _ ⟨x, rfl, e05, (IsView.pers _ _ _ _ e05 hv).le (by omega)⟩
  clear hv
  rintro σ' H6 ⟨x', rfl, e6, hv⟩
  (repeat (first | (refine ⟨_, rfl, ?_⟩) | (refine ⟨_, _, rfl, rfl, ?_⟩) | (refine ⟨⟨by decide, by decide⟩, ?_⟩) | (refine ⟨(by show (0 : Int) < _; decide), ?_⟩) | (refine ⟨rfl, ?_⟩) | (refine ⟨(by show _ ≠ (0 : Int); omega), ?_⟩) | (refine ⟨.inl ⟨by decide, by decide⟩, ?_⟩) | (refine ⟨(by assumption : CDivN _ _), ?_⟩)))
  refine ite2 (fun hd => ?_) (fun hd => ?_)
  · exact w_ret (est_ret (n := m) (vc_once (est_var rfl (IsView.pers _ _ _ _ (Ex.refl _) hv) (IsView.pers _ _))) (fun H1 e1 Q1 q1 => by (repeat (first | (refine ⟨_, rfl, ?_⟩) | (refine ⟨_, _, rfl, rfl, ?_⟩) | (refine ⟨⟨by decide, by decide⟩, ?_⟩) | (refine ⟨(by show (0 : Int) < _; decide), ?_⟩) | (refine ⟨rfl, ?_⟩) | (refine ⟨(by show _ ≠ (0 : Int); omega), ?_⟩) | (refine ⟨.inl ⟨by decide, by decide⟩, ?_⟩) | (refine ⟨(by assumption : CDivN _ _), ?_⟩))); exact q1 _ (Ex.refl _)) hm1) fun v H' e hR => q v H' (e6.trans e) fun B b1 b2 => hR.le (by omega) b1
  (repeat (first | (refine ⟨_, rfl, ?_⟩) | (refine ⟨_, _, rfl, rfl, ?_⟩) | (refine ⟨⟨by decide, by decide⟩, ?_⟩) | (refine ⟨(by show (0 : Int) < _; decide), ?_⟩) | (refine ⟨rfl, ?_⟩) | (refine ⟨(by show _ ≠ (0 : Int); omega), ?_⟩) | (refine ⟨.inl ⟨by decide, by decide⟩, ?_⟩) | (refine ⟨(by assumption : CDivN _ _), ?_⟩)))
  refine ite2 (fun hd => ?_) (fun hd => ?_)
  · refine w_asg (P := TupI (more / 2 % 5).toNat) (est_some (n := more / 2 % 5) (m := m) (fun H1 e1 Q1 q1 => by (repeat (first | (refine ⟨_, rfl, ?_⟩) | (refine ⟨_, _, rfl, rfl, ?_⟩) | (refine ⟨⟨by decide, by decide⟩, ?_⟩) | (refine ⟨(by show (0 : Int) < _; decide), ?_⟩) | (refine ⟨rfl, ?_⟩) | (refine ⟨(by show _ ≠ (0 : Int); omega), ?_⟩) | (refine ⟨.inl ⟨by decide, by decide⟩, ?_⟩) | (refine ⟨(by assumption : CDivN _ _), ?_⟩))); exact q1 _ _ (Ex.refl _) ⟨_, rfl⟩) (fun H1 e1 Q1 q1 => by (repeat (first | (refine ⟨_, rfl, ?_⟩) | (refine ⟨_, _, rfl, rfl, ?_⟩) | (refine ⟨⟨by decide, by decide⟩, ?_⟩) | (refine ⟨(by show (0 : Int) < _; decide), ?_⟩) | (refine ⟨rfl, ?_⟩) | (refine ⟨(by show _ ≠ (0 : Int); omega), ?_⟩) | (refine ⟨.inl ⟨by decide, by decide⟩, ?_⟩) | (refine ⟨(by assumption : CDivN _ _), ?_⟩))); exact q1 _ (Ex.refl _)) (fun H1 e1 Q1 q1 => by (repeat (first | (refine ⟨_, rfl, ?_⟩) | (refine ⟨_, _, rfl, rfl, ?_⟩) | (refine ⟨⟨by decide, by decide⟩, ?_⟩) | (refine ⟨(by show (0 : Int) < _; decide), ?_⟩) | (refine ⟨rfl, ?_⟩) | (refine ⟨(by show _ ≠ (0 : Int); omega), ?_⟩) | (refine ⟨.inl ⟨by decide, by decide⟩, ?_⟩) | (refine ⟨(by assumption : CDivN _ _), ?_⟩))); exact q1 _ (Ex.refl _)) (by omega) (by omega) (by omega)) fun v9 H9 e9 h9 => ?_
    exact w_ret (est_ret (n := ((more / 2 % 5).toNat : Int) + 2) (vc_sums (est_var rfl (IsView.pers _ _ _ _ e9 hv) (IsView.pers _ _)) (est_var rfl (h9.cols (by omega)) (IsCols.pers _)) (fun H1 e1 Q1 q1 => by (repeat (first | (refine ⟨_, rfl, ?_⟩) | (refine ⟨_, _, rfl, rfl, ?_⟩) | (refine ⟨⟨by decide, by decide⟩, ?_⟩) | (refine ⟨(by show (0 : Int) < _; decide), ?_⟩) | (refine ⟨rfl, ?_⟩) | (refine ⟨(by show _ ≠ (0 : Int); omega), ?_⟩) | (refine ⟨.inl ⟨by decide, by decide⟩, ?_⟩) | (refine ⟨(by assumption : CDivN _ _), ?_⟩))); exact q1 _ _ (Ex.refl _) ⟨_, rfl⟩)) (ev_op (ev_lenT rfl h9) ev_c rv_I0) (by omega)) fun v H' e hR => q v H' ((e6.trans e9).trans e) fun B b1 b2 => hR.le (by omega) (by omega)
  (repeat (first | (refine ⟨_, rfl, ?_⟩) | (refine ⟨_, _, rfl, rfl, ?_⟩) | (refine ⟨⟨by decide, by decide⟩, ?_⟩) | (refine ⟨(by show (0 : Int) < _; decide), ?_⟩) | (refine ⟨rfl, ?_⟩) | (refine ⟨(by show _ ≠ (0 : Int); omega), ?_⟩) | (refine ⟨.inl ⟨by decide, by decide⟩, ?_⟩) | (refine ⟨(by assumption : CDivN _ _), ?_⟩)))
  refine ite2 (fun hd => ?_) (fun hd => ?_)
  · (repeat (first | (refine ⟨_, rfl, ?_⟩) | (refine ⟨_, _, rfl, rfl, ?_⟩) | (refine ⟨⟨by decide, by decide⟩, ?_⟩) | (refine ⟨(by show (0 : Int) < _; decide), ?_⟩) | (refine ⟨rfl, ?_⟩) | (refine ⟨(by show _ ≠ (0 : Int); omega), ?_⟩) | (refine ⟨.inl ⟨by decide, by decide⟩, ?_⟩) | (refine ⟨(by assumption : CDivN _ _), ?_⟩)))
    refine ite2 (fun hd => ?_) (fun hd => ?_)
    · exact w_ret (est_ret (n := 2) (vc_reach (est_var rfl (IsView.pers _ _ _ _ (Ex.refl _) hv) (IsView.pers _ _))) ev_c (by omega)) fun v H' e hR => q v H' (e6.trans e) fun B b1 b2 => hR.le (by omega) (by omega)
    · exact (at_next (w_ret (est_ret (n := 2) (vc_reach (vc_columns (est_var rfl (IsView.pers _ _ _ _ (Ex.refl _) hv) (IsView.pers _ _)) (est_cols (allz_cons (fun H1 e1 Q1 q1 => by (repeat (first | (refine ⟨_, rfl, ?_⟩) | (refine ⟨_, _, rfl, rfl, ?_⟩) | (refine ⟨⟨by decide, by decide⟩, ?_⟩) | (refine ⟨(by show (0 : Int) < _; decide), ?_⟩) | (refine ⟨rfl, ?_⟩) | (refine ⟨(by show _ ≠ (0 : Int); omega), ?_⟩) | (refine ⟨.inl ⟨by decide, by decide⟩, ?_⟩) | (refine ⟨(by assumption : CDivN _ _), ?_⟩))); exact q1 _ _ (Ex.refl _) ⟨_, rfl⟩) (allz_cons (fun H1 e1 Q1 q1 => by (repeat (first | (refine ⟨_, rfl, ?_⟩) | (refine ⟨_, _, rfl, rfl, ?_⟩) | (refine ⟨⟨by decide, by decide⟩, ?_⟩) | (refine ⟨(by show (0 : Int) < _; decide), ?_⟩) | (refine ⟨rfl, ?_⟩) | (refine ⟨(by show _ ≠ (0 : Int); omega), ?_⟩) | (refine ⟨.inl ⟨by decide, by decide⟩, ?_⟩) | (refine ⟨(by assumption : CDivN _ _), ?_⟩))); exact q1 _ _ (Ex.refl _) ⟨_, rfl⟩) allz_nil IsInt.pers) IsInt.pers) (by omega)))) ev_c (by omega)) fun v H' e hR => q v H' (e6.trans e) fun B b1 b2 => hR.le (by omega) (by omega)))
  · refine ite2 (fun hd => ?_) (fun hd => ?_)
    · exact absurd hd Bool.false_ne_true
    · exact (at_next (w_ret (est_ret (n := 2) (vc_reach (vc_columns (est_var rfl (IsView.pers _ _ _ _ (Ex.refl _) hv) (IsView.pers _ _)) (est_cols (allz_cons (fun H1 e1 Q1 q1 => by (repeat (first | (refine ⟨_, rfl, ?_⟩) | (refine ⟨_, _, rfl, rfl, ?_⟩) | (refine ⟨⟨by decide, by decide⟩, ?_⟩) | (refine ⟨(by show (0 : Int) < _; decide), ?_⟩) | (refine ⟨rfl, ?_⟩) | (refine ⟨(by show _ ≠ (0 : Int); omega), ?_⟩) | (refine ⟨.inl ⟨by decide, by decide⟩, ?_⟩) | (refine ⟨(by assumption : CDivN _ _), ?_⟩))); exact q1 _ _ (Ex.refl _) ⟨_, rfl⟩) (allz_cons (fun H1 e1 Q1 q1 => by (repeat (first | (refine ⟨_, rfl, ?_⟩) | (refine ⟨_, _, rfl, rfl, ?_⟩) | (refine ⟨⟨by decide, by decide⟩, ?_⟩) | (refine ⟨(by show (0 : Int) < _; decide), ?_⟩) | (refine ⟨rfl, ?_⟩) | (refine ⟨(by show _ ≠ (0 : Int); omega), ?_⟩) | (refine ⟨.inl ⟨by decide, by decide⟩, ?_⟩) | (refine ⟨(by assumption : CDivN _ _), ?_⟩))); exact q1 _ _ (Ex.refl _) ⟨_, rfl⟩) allz_nil IsInt.pers) IsInt.pers) (by omega)))) ev_c (by omega)) fun v H' e hR => q v H' (e6.trans e) fun B b1 b2 => hR.le (by omega) (by omega)))
end
end K06

namespace K06
open PySem PySem.Spec PyProof.Rows L2 Evl KB
section
variable {P : Program} {w : World} {K : PySem.W.Frag} {mg : Str → Option Value} {base : Heap} {σ : L2.St} {H H' : Hp} {t1 t2 t3 : TE} {i j : Nat} {v : V} {d : Nat}
theorem est_ixT {n : Nat} {m : Nat} (hv : σ[i]? = some (some v)) (hj : σ[j]? = some (some (.int (m : Int)))) (h : TupI n v H) (hm : m < n) : Est (tOp (rIxT K) (tVar i) (tVar j)) σ H IsInt := fun H1 e Q q => by
  obtain ⟨p, xs, rfl, hp, hl⟩ := h
  have hk : m < xs.length := by omega
  exact ⟨.ref p, hv, .int m, hj, p, xs.map V.int, m, .int xs[m], rfl, rfl, st_of (e _ _ hp), atI_nat (by rw [List.getElem?_map, List.getElem?_eq_getElem hk]; rfl), q _ _ (Ex.refl _) ⟨_, rfl⟩⟩
def bothless (x : Str) : Prop := x = "both" ∨ x = "less"
theorem est_bl {ti : TE} {i : Int} (hi : Ev ti σ H (.int i)) (h0 : 0 ≤ i) (h1 : i < 2) : Est (tOp (rIxL K) (tLst (tCons (tC (.str "both")) (tCons (tC (.str "less")) tNil))) ti) σ H (IsWord bothless) :=
  est_menu (n := 2) (allz_cons ((est_is _).imp fun _ _ _ h => ⟨_, h, .inl rfl⟩) (allz_cons ((est_is _).imp fun _ _ _ h => ⟨_, h, .inr rfl⟩) allz_nil IsWord.pers) IsWord.pers) IsWord.pers hi h0 h1 (by omega)
theorem bl_ok (x : Str) (h : bothless x) : x = "both" ∨ x = "less" ∨ x ∈ four := h.imp id .inl
def spTwo : Sp := fun vs H Q _ => ∃ (kd rest m n : Int) (x y : V) (d : Nat), vs = [.int kd, .int rest, x, .int m, y, .int n] ∧ 6 ≤ kd ∧ IsView d x H ∧ IsView d y H ∧ 1 ≤ m ∧ m ≤ 400 ∧ 1 ≤ n ∧ n ≤ 400 ∧ ∀ v H', Ex H H' → (∀ B, m + n ≤ B → 6 ≤ B → RetV (d + 2) B v H') → Q v H'
theorem ok_two {f f1 : Addr} {fd fd1 : FuncData} {k : Nat} (A : FnAt K mg "_law_over_two" sL_over_two PL_over_two f fd) (Asome : FnAt K mg "_law_some" sL_some PL_some f1 fd1) (B : Bt mg) : FnOk P w K mg base CX0 (k + 2) f fd PL_over_two spTwo := by
  refine A.F.ok scL_over_two (fun vs H Q E h => ?_) (fun cdv A' outer s H vs Q E hr h => ?_)
  · obtain ⟨kd, rest, m, n, x, y, d, rfl, _⟩ := h
    rfl
  obtain ⟨kd, rest, m, n, x, y, d, rfl, hkd, hv, hu, hm1, hm2, hn1, hn2, q⟩ := h
  have hr1 : Room 1 _ := hr.mono (by omega)
  have Gsome : FnOk P w K mg base CX0 1 f1 fd1 PL_some spSome := ok_some Asome B
  refine ⟨_, (pss_cons (ps_if (PW.pt (pw_and (pt_cmpR op_lt (pv 0) pe_int (nomark _)) (pw_and (pt_cmpR op_eq (pv 3) (pv 5) (nomark _)) (pw_and1 (pt_cmpR op_eq (pe_op op_mod (pv 1) pe_int) pe_int (nomark _)))))) (pss_one (ps_ret (pe_tup (pa_cons (pe_tup (pa_cons (pe_ix ix_list (pe_lst (pa_cons pe_str (pa_cons pe_str pa_nil))) (pe_op op_sub (pv 0) pe_int) (fun _ _ => rfl)) (pa_cons (pv 2) (pa_cons (pv 4) pa_nil)))) (pa_cons (pv 3) pa_nil))))) pss_nil)
  (pss_cons (ps_if (pt_cmpR op_lt (pv 0) pe_int (nomark _)) (pss_cons (ps_set (i := 6) scL_over_two.nd rfl (.inl rfl) (pe_tupRg rfl (by rfl) B.tuple (prg_1 (by rfl) B.range (pe_callB (call_min2 rfl) (by rfl) B.min (by decide +kernel) (pa_cons (pv 3) (pa_cons (pv 5) pa_nil))))))
  (pss_one (ps_ret (pe_tup (pa_cons (pe_tup (pa_cons (pe_ix ix_list (pe_lst (pa_cons pe_str (pa_cons pe_str pa_nil))) (pe_op op_sub (pv 0) pe_int) (fun _ _ => rfl)) (pa_cons (pe_tup (pa_cons pe_str (pa_cons (pv 2) (pa_cons (pv 6) pa_nil)))) (pa_cons (pe_tup (pa_cons pe_str (pa_cons (pv 4) (pa_cons (pv 6) pa_nil)))) pa_nil)))) (pa_cons (pe_callB (call_min2 rfl) (by rfl) B.min (by decide +kernel) (pa_cons (pv 3) (pa_cons (pv 5) pa_nil))) pa_nil)))))) pss_nil)
  (pss_cons (ps_if (pt_cmpR op_eq (pe_op op_mod (pv 1) pe_int) pe_int (nomark _)) (pss_cons (ps_set (i := 7) scL_over_two.nd rfl (.inr rfl) (pe_call Gsome hr1 (by rfl) Asome.g Asome.F.kp Asome.b .nil pass0 (pa_cons (pe_op op_fdiv (pv 1) pe_int) (pa_cons (pe_op op_mod (pe_op op_fdiv (pv 1) pe_int) pe_int) (pa_cons (pv 3) pa_nil)))))
  (pss_cons (ps_set (i := 8) scL_over_two.nd rfl (.inr rfl) (pe_call Gsome hr1 (by rfl) Asome.g Asome.F.kp Asome.b .nil pass0 (pa_cons (pe_op op_fdiv (pv 1) pe_int) (pa_cons (pe_op op_mod (pe_op op_fdiv (pv 1) pe_int) pe_int) (pa_cons (pv 5) pa_nil)))))
  (pss_one (ps_ret (pe_tup (pa_cons (pe_tup (pa_cons pe_str (pa_cons (pv 2) (pa_cons (pv 4) (pa_cons (pe_callTy call_tuple_of (by rfl) B.tuple (by decide +kernel) (pa_cons (pe_lc (own := [("_law_k", 9)]) (g := gName 9) (tt := tYes) rfl scL_over_two.nd (pi_range1 rfl B.range (pa_cons (pe_callB call_len_seq (by rfl) B.len (by decide +kernel) (pa_cons (pv 7) pa_nil)) pa_nil)) (blkOk_by (N := NL_over_two) (sc := defScope sL_over_two) (by decide +kernel)) (fun _ _ _ _ _ => pg_name (i := 9) scL_over_two.nd rfl (.inl rfl)) (fun _ _ _ _ _ => pts_nil) (fun _ _ _ _ _ => (pe_tup (pa_cons (pe_ix (r := rIxT K) ix_tup (pv 7) (pv 9) (fun _ _ => rfl)) (pa_cons (pe_ix (r := rIxT K) ix_tup (pv 8) (pv 9) (fun _ _ => rfl)) pa_nil))))) pa_nil)) pa_nil))))) (pa_cons (pe_op op_add (pv 3) (pv 5)) pa_nil))))))) pss_nil)
  (pss_cons (ps_set (i := 10) scL_over_two.nd rfl (.inl rfl) (pe_tup (pa_cons pe_str (pa_cons (pv 2) (pa_cons (pe_tup (pa_cons (pe_op op_modN (pv 1) (pv 3)) (pa_cons (pe_op op_modN (pe_op op_fdiv (pv 1) pe_int) (pv 3)) pa_nil))) pa_nil)))))
  (pss_cons (ps_set (i := 11) scL_over_two.nd rfl (.inl rfl) (pe_tup (pa_cons pe_str (pa_cons (pv 4) (pa_cons (pe_tup (pa_cons (pe_op op_modN (pe_op op_fdiv (pv 1) pe_int) (pv 5)) (pa_cons (pe_op op_modN (pe_op op_fdiv (pv 1) pe_int) (pv 5)) pa_nil))) pa_nil)))))
  (pss_cons (ps_set (i := 12) scL_over_two.nd rfl (.inl rfl) (pe_ix ix_list (pe_lst (pa_cons (pe_tup (pa_cons (pe_tup (pa_cons pe_int (pa_cons pe_int pa_nil))) pa_nil)) (pa_cons (pe_tup (pa_cons (pe_tup (pa_cons pe_int (pa_cons pe_int pa_nil))) pa_nil)) (pa_cons (pe_tup (pa_cons (pe_tup (pa_cons pe_int (pa_cons pe_int pa_nil))) (pa_cons (pe_tup (pa_cons pe_int (pa_cons pe_int pa_nil))) pa_nil))) (pa_cons (pe_tup pa_nil) (pa_cons (pe_tup (pa_cons (pe_tup (pa_cons pe_int (pa_cons pe_int pa_nil))) (pa_cons (pe_tup (pa_cons pe_int (pa_cons pe_int pa_nil))) pa_nil))) pa_nil)))))) (pe_op op_mod (pv 1) pe_int) (fun _ _ => rfl)))
  (pss_one (ps_ret (pe_tup (pa_cons (pe_tup (pa_cons pe_str (pa_cons (pv 10) (pa_cons (pv 11) (pa_cons (pv 12) pa_nil))))) (pa_cons pe_int pa_nil))))))))))), ?_⟩
  have next : ∀ N : L2.St → Hp → Prop, N (L2.start NL_over_two [V.int kd, V.int rest, x, V.int m, y, V.int n]) H → N (L2.start NL_over_two [V.int kd, V.int rest, x, V.int m, y, V.int n]) H := fun _ h => h
  refine w_join (fun σ' H' => σ' = L2.start NL_over_two [V.int kd, V.int rest, x, V.int m, y, V.int n] ∧ H' = H) (fun N hN => ?_) ?_
  · (repeat (first | (refine ⟨_, rfl, ?_⟩) | (refine ⟨_, _, rfl, rfl, ?_⟩) | (refine ⟨⟨by decide, by decide⟩, ?_⟩) | (refine ⟨(by show (0 : Int) < _; decide), ?_⟩) | (refine ⟨rfl, ?_⟩) | (refine ⟨(by show _ ≠ (0 : Int); omega), ?_⟩) | (refine ⟨.inl ⟨by decide, by decide⟩, ?_⟩) | (refine ⟨(by assumption : CDivN _ _), ?_⟩)))
    refine ite2 (fun hd => ?_) (fun hd => ?_)
    · have hk : kd < 8 := of_decide_eq_true hd
      (repeat (first | (refine ⟨_, rfl, ?_⟩) | (refine ⟨_, _, rfl, rfl, ?_⟩) | (refine ⟨⟨by decide, by decide⟩, ?_⟩) | (refine ⟨(by show (0 : Int) < _; decide), ?_⟩) | (refine ⟨rfl, ?_⟩) | (refine ⟨(by show _ ≠ (0 : Int); omega), ?_⟩) | (refine ⟨.inl ⟨by decide, by decide⟩, ?_⟩) | (refine ⟨(by assumption : CDivN _ _), ?_⟩)))
      refine ite2 (fun hd => ?_) (fun hd => ?_)
      · (repeat (first | (refine ⟨_, rfl, ?_⟩) | (refine ⟨_, _, rfl, rfl, ?_⟩) | (refine ⟨⟨by decide, by decide⟩, ?_⟩) | (refine ⟨(by show (0 : Int) < _; decide), ?_⟩) | (refine ⟨rfl, ?_⟩) | (refine ⟨(by show _ ≠ (0 : Int); omega), ?_⟩) | (refine ⟨.inl ⟨by decide, by decide⟩, ?_⟩) | (refine ⟨(by assumption : CDivN _ _), ?_⟩)))
        refine ite2 (fun hd => ?_) (fun hd => ?_)
        · exact w_ret (est_ret (n := m) (vc_word (est_bl (i := kd - 6) (fun H1 e1 Q1 q1 => by (repeat (first | (refine ⟨_, rfl, ?_⟩) | (refine ⟨_, _, rfl, rfl, ?_⟩) | (refine ⟨⟨by decide, by decide⟩, ?_⟩) | (refine ⟨(by show (0 : Int) < _; decide), ?_⟩) | (refine ⟨rfl, ?_⟩) | (refine ⟨(by show _ ≠ (0 : Int); omega), ?_⟩) | (refine ⟨.inl ⟨by decide, by decide⟩, ?_⟩) | (refine ⟨(by assumption : CDivN _ _), ?_⟩))); exact q1 _ (Ex.refl _)) (by omega) (by omega)) (est_var rfl (IsView.pers _ _ _ _ (Ex.refl _) hv) (IsView.pers _ _)) (est_var rfl (IsView.pers _ _ _ _ (Ex.refl _) hu) (IsView.pers _ _)) bl_ok) (fun H1 e1 Q1 q1 => by (repeat (first | (refine ⟨_, rfl, ?_⟩) | (refine ⟨_, _, rfl, rfl, ?_⟩) | (refine ⟨⟨by decide, by decide⟩, ?_⟩) | (refine ⟨(by show (0 : Int) < _; decide), ?_⟩) | (refine ⟨rfl, ?_⟩) | (refine ⟨(by show _ ≠ (0 : Int); omega), ?_⟩) | (refine ⟨.inl ⟨by decide, by decide⟩, ?_⟩) | (refine ⟨(by assumption : CDivN _ _), ?_⟩))); exact q1 _ (Ex.refl _)) hm1) fun v H' e hR => q v H' e fun B b1 b2 => hR.le (by omega) (by omega)
        · exact hN _ _ ⟨rfl, rfl⟩
      · refine ite2 (fun hd => ?_) (fun hd => ?_)
        · exact absurd hd Bool.false_ne_true
        · exact hN _ _ ⟨rfl, rfl⟩
    · refine ite2 (fun hd => ?_) (fun hd => ?_)
      · exact absurd hd Bool.false_ne_true
      · exact hN _ _ ⟨rfl, rfl⟩
  rintro σ' H6 ⟨rfl, rfl⟩
  (repeat (first | (refine ⟨_, rfl, ?_⟩) | (refine ⟨_, _, rfl, rfl, ?_⟩) | (refine ⟨⟨by decide, by decide⟩, ?_⟩) | (refine ⟨(by show (0 : Int) < _; decide), ?_⟩) | (refine ⟨rfl, ?_⟩) | (refine ⟨(by show _ ≠ (0 : Int); omega), ?_⟩) | (refine ⟨.inl ⟨by decide, by decide⟩, ?_⟩) | (refine ⟨(by assumption : CDivN _ _), ?_⟩)))
  refine ite2 (fun hd => ?_) (fun hd => ?_)
  · have hk : kd < 8 := of_decide_eq_true hd
    have hmn : 1 ≤ (if n < m then n else m) ∧ (if n < m then n else m) ≤ 400 ∧ (if n < m then n else m) ≤ m := by split <;> omega
    generalize hmin : (if n < m then n else m) = z at hmn
    refine w_asg (P := IsCols) (est_rg (n := z) (by rw [← hmin]; exact ev_min2 (fun H1 e1 Q1 q1 => by (repeat (first | (refine ⟨_, rfl, ?_⟩) | (refine ⟨_, _, rfl, rfl, ?_⟩) | (refine ⟨⟨by decide, by decide⟩, ?_⟩) | (refine ⟨(by show (0 : Int) < _; decide), ?_⟩) | (refine ⟨rfl, ?_⟩) | (refine ⟨(by show _ ≠ (0 : Int); omega), ?_⟩) | (refine ⟨.inl ⟨by decide, by decide⟩, ?_⟩) | (refine ⟨(by assumption : CDivN _ _), ?_⟩))); exact q1 _ (Ex.refl _)) (fun H1 e1 Q1 q1 => by (repeat (first | (refine ⟨_, rfl, ?_⟩) | (refine ⟨_, _, rfl, rfl, ?_⟩) | (refine ⟨⟨by decide, by decide⟩, ?_⟩) | (refine ⟨(by show (0 : Int) < _; decide), ?_⟩) | (refine ⟨rfl, ?_⟩) | (refine ⟨(by show _ ≠ (0 : Int); omega), ?_⟩) | (refine ⟨.inl ⟨by decide, by decide⟩, ?_⟩) | (refine ⟨(by assumption : CDivN _ _), ?_⟩))); exact q1 _ (Ex.refl _))) (by omega) (by omega)) fun v6 H6 e6 h6 => ?_
    exact w_ret (est_ret (n := z) (vc_word (est_bl (i := kd - 6) (fun H1 e1 Q1 q1 => by (repeat (first | (refine ⟨_, rfl, ?_⟩) | (refine ⟨_, _, rfl, rfl, ?_⟩) | (refine ⟨⟨by decide, by decide⟩, ?_⟩) | (refine ⟨(by show (0 : Int) < _; decide), ?_⟩) | (refine ⟨rfl, ?_⟩) | (refine ⟨(by show _ ≠ (0 : Int); omega), ?_⟩) | (refine ⟨.inl ⟨by decide, by decide⟩, ?_⟩) | (refine ⟨(by assumption : CDivN _ _), ?_⟩))); exact q1 _ (Ex.refl _)) (by omega) (by omega)) (vc_columns (est_var rfl (IsView.pers _ _ _ _ e6 hv) (IsView.pers _ _)) (est_var rfl h6 (IsCols.pers _))) (vc_columns (est_var rfl (IsView.pers _ _ _ _ e6 hu) (IsView.pers _ _)) (est_var rfl h6 (IsCols.pers _))) bl_ok) (by rw [← hmin]; exact ev_min2 (fun H1 e1 Q1 q1 => by (repeat (first | (refine ⟨_, rfl, ?_⟩) | (refine ⟨_, _, rfl, rfl, ?_⟩) | (refine ⟨⟨by decide, by decide⟩, ?_⟩) | (refine ⟨(by show (0 : Int) < _; decide), ?_⟩) | (refine ⟨rfl, ?_⟩) | (refine ⟨(by show _ ≠ (0 : Int); omega), ?_⟩) | (refine ⟨.inl ⟨by decide, by decide⟩, ?_⟩) | (refine ⟨(by assumption : CDivN _ _), ?_⟩))); exact q1 _ (Ex.refl _)) (fun H1 e1 Q1 q1 => by (repeat (first | (refine ⟨_, rfl, ?_⟩) | (refine ⟨_, _, rfl, rfl, ?_⟩) | (refine ⟨⟨by decide, by decide⟩, ?_⟩) | (refine ⟨(by show (0 : Int) < _; decide), ?_⟩) | (refine ⟨rfl, ?_⟩) | (refine ⟨(by show _ ≠ (0 : Int); omega), ?_⟩) | (refine ⟨.inl ⟨by decide, by decide⟩, ?_⟩) | (refine ⟨(by assumption : CDivN _ _), ?_⟩))); exact q1 _ (Ex.refl _))) (by omega)) fun v H' e hR => q v H' (e6.trans e) fun B b1 b2 => hR.le (by omega) (by omega)
  (repeat (first | (refine ⟨_, rfl, ?_⟩) | (refine ⟨_, _, rfl, rfl, ?_⟩) | (refine ⟨⟨by decide, by decide⟩, ?_⟩) | (refine ⟨(by show (0 : Int) < _; decide), ?_⟩) | (refine ⟨rfl, ?_⟩) | (refine ⟨(by show _ ≠ (0 : Int); omega), ?_⟩) | (refine ⟨.inl ⟨by decide, by decide⟩, ?_⟩) | (refine ⟨(by assumption : CDivN _ _), ?_⟩)))
  refine ite2 (fun hd => ?_) (fun hd => ?_)
  · refine w_asg (P := TupI (rest / 3 % 4).toNat) (est_some (n := rest / 3 % 4) (m := m) (fun H1 e1 Q1 q1 => by (repeat (first | (refine ⟨_, rfl, ?_⟩) | (refine ⟨_, _, rfl, rfl, ?_⟩) | (refine ⟨⟨by decide, by decide⟩, ?_⟩) | (refine ⟨(by show (0 : Int) < _; decide), ?_⟩) | (refine ⟨rfl, ?_⟩) | (refine ⟨(by show _ ≠ (0 : Int); omega), ?_⟩) | (refine ⟨.inl ⟨by decide, by decide⟩, ?_⟩) | (refine ⟨(by assumption : CDivN _ _), ?_⟩))); exact q1 _ _ (Ex.refl _) ⟨_, rfl⟩) (fun H1 e1 Q1 q1 => by (repeat (first | (refine ⟨_, rfl, ?_⟩) | (refine ⟨_, _, rfl, rfl, ?_⟩) | (refine ⟨⟨by decide, by decide⟩, ?_⟩) | (refine ⟨(by show (0 : Int) < _; decide), ?_⟩) | (refine ⟨rfl, ?_⟩) | (refine ⟨(by show _ ≠ (0 : Int); omega), ?_⟩) | (refine ⟨.inl ⟨by decide, by decide⟩, ?_⟩) | (refine ⟨(by assumption : CDivN _ _), ?_⟩))); exact q1 _ (Ex.refl _)) (fun H1 e1 Q1 q1 => by (repeat (first | (refine ⟨_, rfl, ?_⟩) | (refine ⟨_, _, rfl, rfl, ?_⟩) | (refine ⟨⟨by decide, by decide⟩, ?_⟩) | (refine ⟨(by show (0 : Int) < _; decide), ?_⟩) | (refine ⟨rfl, ?_⟩) | (refine ⟨(by show _ ≠ (0 : Int); omega), ?_⟩) | (refine ⟨.inl ⟨by decide, by decide⟩, ?_⟩) | (refine ⟨(by assumption : CDivN _ _), ?_⟩))); exact q1 _ (Ex.refl _)) (by omega) (by omega) (by omega)) fun v7 H7 e7 h7 => ?_
    refine w_asg (P := TupI (rest / 3 % 4).toNat) (est_some (n := rest / 3 % 4) (m := n) (fun H1 e1 Q1 q1 => by (repeat (first | (refine ⟨_, rfl, ?_⟩) | (refine ⟨_, _, rfl, rfl, ?_⟩) | (refine ⟨⟨by decide, by decide⟩, ?_⟩) | (refine ⟨(by show (0 : Int) < _; decide), ?_⟩) | (refine ⟨rfl, ?_⟩) | (refine ⟨(by show _ ≠ (0 : Int); omega), ?_⟩) | (refine ⟨.inl ⟨by decide, by decide⟩, ?_⟩) | (refine ⟨(by assumption : CDivN _ _), ?_⟩))); exact q1 _ _ (Ex.refl _) ⟨_, rfl⟩) (fun H1 e1 Q1 q1 => by (repeat (first | (refine ⟨_, rfl, ?_⟩) | (refine ⟨_, _, rfl, rfl, ?_⟩) | (refine ⟨⟨by decide, by decide⟩, ?_⟩) | (refine ⟨(by show (0 : Int) < _; decide), ?_⟩) | (refine ⟨rfl, ?_⟩) | (refine ⟨(by show _ ≠ (0 : Int); omega), ?_⟩) | (refine ⟨.inl ⟨by decide, by decide⟩, ?_⟩) | (refine ⟨(by assumption : CDivN _ _), ?_⟩))); exact q1 _ (Ex.refl _)) (fun H1 e1 Q1 q1 => by (repeat (first | (refine ⟨_, rfl, ?_⟩) | (refine ⟨_, _, rfl, rfl, ?_⟩) | (refine ⟨⟨by decide, by decide⟩, ?_⟩) | (refine ⟨(by show (0 : Int) < _; decide), ?_⟩) | (refine ⟨rfl, ?_⟩) | (refine ⟨(by show _ ≠ (0 : Int); omega), ?_⟩) | (refine ⟨.inl ⟨by decide, by decide⟩, ?_⟩) | (refine ⟨(by assumption : CDivN _ _), ?_⟩))); exact q1 _ (Ex.refl _)) (by omega) (by omega) (by omega)) fun v8 H8 e8 h8 => ?_
    have e08 := e7.trans e8
    have h7' := TupI.pers _ _ _ _ e8 h7
    have hp : Est (tCB (rTup K) (tCons (tLc (iRng1 (tCons (tCB (rLenS K) (tCons (tVar 7) tNil)) tNil)) (gName 9) tYes (tTup (tCons (tOp (rIxT K) (tVar 7) (tVar 9)) (tCons (tOp (rIxT K) (tVar 8) (tVar 9)) tNil))) [9]) tNil)) [some (.int kd), some (.int rest), some x, some (.int m), some y, some (.int n), none, some v7, some v8, none, none, none, none] H8 IsPairs :=
      est_tupOf (S := AllZ IsPair (rest / 3 % 4).toNat) ((est_lcR (n := rest / 3 % 4) (ea_cons (by
          have := ev_lenT (K := K) (i := 7) (σ := [some (.int kd), some (.int rest), some x, some (.int m), some y, some (.int n), none, some v7, some v8, none, none, none, none]) rfl h7'
          rwa [show (((rest / 3 % 4).toNat : Nat) : Int) = rest / 3 % 4 by omega] at this) ea_nil) (by omega) (fun _ => rfl)
        (fun i H1 e hi => est_pair (est_ixT rfl rfl (TupI.pers _ _ _ _ e h7') (by omega)) (est_ixT rfl rfl (TupI.pers _ _ _ _ e h8) (by omega))) IsPair.pers StL.pair)) (AllZ.pers IsPair.pers) fun p xs H' hp ⟨l, ha⟩ => by
          obtain ⟨rs, ps, e, pr, lp⟩ := pairs_of_all ha
          exact ⟨p, ps, rfl, ⟨rs, by rw [hp, e], pr⟩, by omega⟩
    exact w_ret (est_ret (n := m + n) (vc_meet (est_var rfl (IsView.pers _ _ _ _ e08 hv) (IsView.pers _ _)) (est_var rfl (IsView.pers _ _ _ _ e08 hu) (IsView.pers _ _)) hp) (fun H1 e1 Q1 q1 => by (repeat (first | (refine ⟨_, rfl, ?_⟩) | (refine ⟨_, _, rfl, rfl, ?_⟩) | (refine ⟨⟨by decide, by decide⟩, ?_⟩) | (refine ⟨(by show (0 : Int) < _; decide), ?_⟩) | (refine ⟨rfl, ?_⟩) | (refine ⟨(by show _ ≠ (0 : Int); omega), ?_⟩) | (refine ⟨.inl ⟨by decide, by decide⟩, ?_⟩) | (refine ⟨(by assumption : CDivN _ _), ?_⟩))); exact q1 _ (Ex.refl _)) (by omega)) fun v H' e hR => q v H' (e08.trans e) fun B b1 b2 => hR.le (by omega) (by omega)
  refine at_next ?_
  refine w_asg (P := IsView (d + 1)) (vc_columns (est_var rfl (IsView.pers _ _ _ _ (Ex.refl _) hv) (IsView.pers _ _)) (est_cols (allz_cons (fun H1 e1 Q1 q1 => by (repeat (first | (refine ⟨_, rfl, ?_⟩) | (refine ⟨_, _, rfl, rfl, ?_⟩) | (refine ⟨⟨by decide, by decide⟩, ?_⟩) | (refine ⟨(by show (0 : Int) < _; decide), ?_⟩) | (refine ⟨rfl, ?_⟩) | (refine ⟨(by show _ ≠ (0 : Int); omega), ?_⟩) | (refine ⟨.inl ⟨by decide, by decide⟩, ?_⟩) | (refine ⟨(by assumption : CDivN _ _), ?_⟩))); exact q1 _ _ (Ex.refl _) ⟨_, rfl⟩) (allz_cons (fun H1 e1 Q1 q1 => by (repeat (first | (refine ⟨_, rfl, ?_⟩) | (refine ⟨_, _, rfl, rfl, ?_⟩) | (refine ⟨⟨by decide, by decide⟩, ?_⟩) | (refine ⟨(by show (0 : Int) < _; decide), ?_⟩) | (refine ⟨rfl, ?_⟩) | (refine ⟨(by show _ ≠ (0 : Int); omega), ?_⟩) | (refine ⟨.inl ⟨by decide, by decide⟩, ?_⟩) | (refine ⟨(by assumption : CDivN _ _), ?_⟩))); exact q1 _ _ (Ex.refl _) ⟨_, rfl⟩) allz_nil IsInt.pers) IsInt.pers) (by omega))) fun v10 H10 e10 h10 => ?_
  refine w_asg (P := IsView (d + 1)) (vc_columns (est_var rfl (IsView.pers _ _ _ _ e10 hu) (IsView.pers _ _)) (est_cols (allz_cons (fun H1 e1 Q1 q1 => by (repeat (first | (refine ⟨_, rfl, ?_⟩) | (refine ⟨_, _, rfl, rfl, ?_⟩) | (refine ⟨⟨by decide, by decide⟩, ?_⟩) | (refine ⟨(by show (0 : Int) < _; decide), ?_⟩) | (refine ⟨rfl, ?_⟩) | (refine ⟨(by show _ ≠ (0 : Int); omega), ?_⟩) | (refine ⟨.inl ⟨by decide, by decide⟩, ?_⟩) | (refine ⟨(by assumption : CDivN _ _), ?_⟩))); exact q1 _ _ (Ex.refl _) ⟨_, rfl⟩) (allz_cons (fun H1 e1 Q1 q1 => by (repeat (first | (refine ⟨_, rfl, ?_⟩) | (refine ⟨_, _, rfl, rfl, ?_⟩) | (refine ⟨⟨by decide, by decide⟩, ?_⟩) | (refine ⟨(by show (0 : Int) < _; decide), ?_⟩) | (refine ⟨rfl, ?_⟩) | (refine ⟨(by show _ ≠ (0 : Int); omega), ?_⟩) | (refine ⟨.inl ⟨by decide, by decide⟩, ?_⟩) | (refine ⟨(by assumption : CDivN _ _), ?_⟩))); exact q1 _ _ (Ex.refl _) ⟨_, rfl⟩) allz_nil IsInt.pers) IsInt.pers) (by omega))) fun v11 H11 e11 h11 => ?_
  refine w_asg (P := IsPairs) (est_menu (n := 5) (i := rest % 5) (allz_cons (est_pairs (allz_cons (est_pair (fun H1 e1 Q1 q1 => by (repeat (first | (refine ⟨_, rfl, ?_⟩) | (refine ⟨_, _, rfl, rfl, ?_⟩) | (refine ⟨⟨by decide, by decide⟩, ?_⟩) | (refine ⟨(by show (0 : Int) < _; decide), ?_⟩) | (refine ⟨rfl, ?_⟩) | (refine ⟨(by show _ ≠ (0 : Int); omega), ?_⟩) | (refine ⟨.inl ⟨by decide, by decide⟩, ?_⟩) | (refine ⟨(by assumption : CDivN _ _), ?_⟩))); exact q1 _ _ (Ex.refl _) ⟨_, rfl⟩) (fun H1 e1 Q1 q1 => by (repeat (first | (refine ⟨_, rfl, ?_⟩) | (refine ⟨_, _, rfl, rfl, ?_⟩) | (refine ⟨⟨by decide, by decide⟩, ?_⟩) | (refine ⟨(by show (0 : Int) < _; decide), ?_⟩) | (refine ⟨rfl, ?_⟩) | (refine ⟨(by show _ ≠ (0 : Int); omega), ?_⟩) | (refine ⟨.inl ⟨by decide, by decide⟩, ?_⟩) | (refine ⟨(by assumption : CDivN _ _), ?_⟩))); exact q1 _ _ (Ex.refl _) ⟨_, rfl⟩)) allz_nil IsPair.pers) (by omega)) (allz_cons (est_pairs (allz_cons (est_pair (fun H1 e1 Q1 q1 => by (repeat (first | (refine ⟨_, rfl, ?_⟩) | (refine ⟨_, _, rfl, rfl, ?_⟩) | (refine ⟨⟨by decide, by decide⟩, ?_⟩) | (refine ⟨(by show (0 : Int) < _; decide), ?_⟩) | (refine ⟨rfl, ?_⟩) | (refine ⟨(by show _ ≠ (0 : Int); omega), ?_⟩) | (refine ⟨.inl ⟨by decide, by decide⟩, ?_⟩) | (refine ⟨(by assumption : CDivN _ _), ?_⟩))); exact q1 _ _ (Ex.refl _) ⟨_, rfl⟩) (fun H1 e1 Q1 q1 => by (repeat (first | (refine ⟨_, rfl, ?_⟩) | (refine ⟨_, _, rfl, rfl, ?_⟩) | (refine ⟨⟨by decide, by decide⟩, ?_⟩) | (refine ⟨(by show (0 : Int) < _; decide), ?_⟩) | (refine ⟨rfl, ?_⟩) | (refine ⟨(by show _ ≠ (0 : Int); omega), ?_⟩) | (refine ⟨.inl ⟨by decide, by decide⟩, ?_⟩) | (refine ⟨(by assumption : CDivN _ _), ?_⟩))); exact q1 _ _ (Ex.refl _) ⟨_, rfl⟩)) allz_nil IsPair.pers) (by omega)) (allz_cons (est_pairs (allz_cons (est_pair (fun H1 e1 Q1 q1 => by (repeat (first | (refine ⟨_, rfl, ?_⟩) | (refine ⟨_, _, rfl, rfl, ?_⟩) | (refine ⟨⟨by decide, by decide⟩, ?_⟩) | (refine ⟨(by show (0 : Int) < _; decide), ?_⟩) | (refine ⟨rfl, ?_⟩) | (refine ⟨(by show _ ≠ (0 : Int); omega), ?_⟩) | (refine ⟨.inl ⟨by decide, by decide⟩, ?_⟩) | (refine ⟨(by assumption : CDivN _ _), ?_⟩))); exact q1 _ _ (Ex.refl _) ⟨_, rfl⟩) (fun H1 e1 Q1 q1 => by (repeat (first | (refine ⟨_, rfl, ?_⟩) | (refine ⟨_, _, rfl, rfl, ?_⟩) | (refine ⟨⟨by decide, by decide⟩, ?_⟩) | (refine ⟨(by show (0 : Int) < _; decide), ?_⟩) | (refine ⟨rfl, ?_⟩) | (refine ⟨(by show _ ≠ (0 : Int); omega), ?_⟩) | (refine ⟨.inl ⟨by decide, by decide⟩, ?_⟩) | (refine ⟨(by assumption : CDivN _ _), ?_⟩))); exact q1 _ _ (Ex.refl _) ⟨_, rfl⟩)) (allz_cons (est_pair (fun H1 e1 Q1 q1 => by (repeat (first | (refine ⟨_, rfl, ?_⟩) | (refine ⟨_, _, rfl, rfl, ?_⟩) | (refine ⟨⟨by decide, by decide⟩, ?_⟩) | (refine ⟨(by show (0 : Int) < _; decide), ?_⟩) | (refine ⟨rfl, ?_⟩) | (refine ⟨(by show _ ≠ (0 : Int); omega), ?_⟩) | (refine ⟨.inl ⟨by decide, by decide⟩, ?_⟩) | (refine ⟨(by assumption : CDivN _ _), ?_⟩))); exact q1 _ _ (Ex.refl _) ⟨_, rfl⟩) (fun H1 e1 Q1 q1 => by (repeat (first | (refine ⟨_, rfl, ?_⟩) | (refine ⟨_, _, rfl, rfl, ?_⟩) | (refine ⟨⟨by decide, by decide⟩, ?_⟩) | (refine ⟨(by show (0 : Int) < _; decide), ?_⟩) | (refine ⟨rfl, ?_⟩) | (refine ⟨(by show _ ≠ (0 : Int); omega), ?_⟩) | (refine ⟨.inl ⟨by decide, by decide⟩, ?_⟩) | (refine ⟨(by assumption : CDivN _ _), ?_⟩))); exact q1 _ _ (Ex.refl _) ⟨_, rfl⟩)) allz_nil IsPair.pers) IsPair.pers) (by omega)) (allz_cons (est_pairs allz_nil (by omega)) (allz_cons (est_pairs (allz_cons (est_pair (fun H1 e1 Q1 q1 => by (repeat (first | (refine ⟨_, rfl, ?_⟩) | (refine ⟨_, _, rfl, rfl, ?_⟩) | (refine ⟨⟨by decide, by decide⟩, ?_⟩) | (refine ⟨(by show (0 : Int) < _; decide), ?_⟩) | (refine ⟨rfl, ?_⟩) | (refine ⟨(by show _ ≠ (0 : Int); omega), ?_⟩) | (refine ⟨.inl ⟨by decide, by decide⟩, ?_⟩) | (refine ⟨(by assumption : CDivN _ _), ?_⟩))); exact q1 _ _ (Ex.refl _) ⟨_, rfl⟩) (fun H1 e1 Q1 q1 => by (repeat (first | (refine ⟨_, rfl, ?_⟩) | (refine ⟨_, _, rfl, rfl, ?_⟩) | (refine ⟨⟨by decide, by decide⟩, ?_⟩) | (refine ⟨(by show (0 : Int) < _; decide), ?_⟩) | (refine ⟨rfl, ?_⟩) | (refine ⟨(by show _ ≠ (0 : Int); omega), ?_⟩) | (refine ⟨.inl ⟨by decide, by decide⟩, ?_⟩) | (refine ⟨(by assumption : CDivN _ _), ?_⟩))); exact q1 _ _ (Ex.refl _) ⟨_, rfl⟩)) (allz_cons (est_pair (fun H1 e1 Q1 q1 => by (repeat (first | (refine ⟨_, rfl, ?_⟩) | (refine ⟨_, _, rfl, rfl, ?_⟩) | (refine ⟨⟨by decide, by decide⟩, ?_⟩) | (refine ⟨(by show (0 : Int) < _; decide), ?_⟩) | (refine ⟨rfl, ?_⟩) | (refine ⟨(by show _ ≠ (0 : Int); omega), ?_⟩) | (refine ⟨.inl ⟨by decide, by decide⟩, ?_⟩) | (refine ⟨(by assumption : CDivN _ _), ?_⟩))); exact q1 _ _ (Ex.refl _) ⟨_, rfl⟩) (fun H1 e1 Q1 q1 => by (repeat (first | (refine ⟨_, rfl, ?_⟩) | (refine ⟨_, _, rfl, rfl, ?_⟩) | (refine ⟨⟨by decide, by decide⟩, ?_⟩) | (refine ⟨(by show (0 : Int) < _; decide), ?_⟩) | (refine ⟨rfl, ?_⟩) | (refine ⟨(by show _ ≠ (0 : Int); omega), ?_⟩) | (refine ⟨.inl ⟨by decide, by decide⟩, ?_⟩) | (refine ⟨(by assumption : CDivN _ _), ?_⟩))); exact q1 _ _ (Ex.refl _) ⟨_, rfl⟩)) allz_nil IsPair.pers) IsPair.pers) (by omega)) allz_nil IsPairs.pers) IsPairs.pers) IsPairs.pers) IsPairs.pers) IsPairs.pers) IsPairs.pers (fun H1 e1 Q1 q1 => by (repeat (first | (refine ⟨_, rfl, ?_⟩) | (refine ⟨_, _, rfl, rfl, ?_⟩) | (refine ⟨⟨by decide, by decide⟩, ?_⟩) | (refine ⟨(by show (0 : Int) < _; decide), ?_⟩) | (refine ⟨rfl, ?_⟩) | (refine ⟨(by show _ ≠ (0 : Int); omega), ?_⟩) | (refine ⟨.inl ⟨by decide, by decide⟩, ?_⟩) | (refine ⟨(by assumption : CDivN _ _), ?_⟩))); exact q1 _ (Ex.refl _)) (by omega) (by omega) (by omega)) fun v12 H12 e12 h12 => ?_
  have e012 := (e10.trans e11).trans e12
  exact w_ret (est_ret (n := 4) (vc_meet (est_var rfl (IsView.pers _ _ _ _ (e11.trans e12) h10) (IsView.pers _ _)) (est_var rfl (IsView.pers _ _ _ _ e12 h11) (IsView.pers _ _)) (est_var rfl h12 (IsPairs.pers _))) ev_c (by omega)) fun v H' e hR => q v H' (e012.trans e) fun B b1 b2 => hR.le (by omega) (by omega)
end
end K06

namespace K06
open PySem PySem.Spec PyProof.Rows L2 Evl KB
section
variable {P : Program} {w : World} {K : PySem.W.Frag} {mg : Str → Option Value} {base : Heap} {σ : L2.St} {H H' : Hp} {t1 t2 t3 : TE} {tA : TA} {i j : Nat} {v : V} {d : Nat} {Z : V → Hp → Prop}
theorem est_at {s : Addr} {ns : List Int} {k : Int} (h1 : Ev t1 σ H (.ref s)) (h2 : Ev t2 σ H (.int k)) (hs : SqL K H s (ns.map V.int)) (hk : 0 ≤ k) : Est (tCall (spAt K) [] E0 (tCons t1 (tCons t2 tNil))) σ H IsInt := fun H1 e Q q =>
  h1 H1 e _ fun H2 e2 => h2 H2 (e.trans e2) _ fun H3 e3 => ⟨rfl, ⟨s, ns, k, rfl, ex_l ((e.trans e2).trans e3) hs, hk⟩, fun v H4 e4 hv => q v H4 ((e2.trans e3).trans e4) hv⟩
def In (a b : Int) (v : V) (_ : Hp) : Prop := ∃ c : Int, v = .int c ∧ a ≤ c ∧ c < b
theorem In.pers (a b : Int) (v : V) : Pers (In a b v) := fun _ _ _ h => h
theorem StL.In (a b : Int) : StL (In a b) := fun _ _ _ _ _ _ h => h
theorem est_mod {k : Int} (h : Est t1 σ H IsInt) (hk : 0 < k) : Est (tOp (rI (fun _ j => 0 < j) fun i j => V.int (i % j)) t1 (tC (.int k))) σ H (In 0 k) := fun H1 e Q q =>
  h H1 e _ fun v H2 e2 ⟨c, ev⟩ => ⟨c, k, ev, rfl, hk, q _ H2 e2 ⟨_, rfl, by show 0 ≤ c % k; exact Int.emod_nonneg _ (by omega), Int.emod_lt_of_pos _ hk⟩⟩
theorem est_one {a b : Int} (h : Est t1 σ H (In a b)) : Est (tOp (rI0 fun i j => V.int (i + j)) (tC (.int 1)) t1) σ H (In (1 + a) (1 + b)) := fun H1 e Q q =>
  h H1 e _ fun v H2 e2 ⟨c, ev, ha, hb⟩ => ⟨1, c, rfl, ev, q _ H2 e2 ⟨_, rfl, by omega, by omega⟩⟩
theorem all_flat {Z : V → Hp → Prop} {n k : Nat} {xs : List V} {H : Hp} (h : AllZ Z n xs H) : AllZ Z (k * n) (List.replicate k xs).flatten H := by
  refine ⟨by simp [h.1], fun v hv => ?_⟩
  obtain ⟨l, hl, hv⟩ := List.mem_flatten.mp hv
  rw [List.eq_of_mem_replicate hl] at hv
  exact h.2 v hv
theorem est_rep {n : Nat} {k : Int} (h : EstA tA σ H (AllZ Z n)) (pz : ∀ v, Pers (Z v)) (h2 : Ev t2 σ H (.int k)) (h0 : 0 ≤ k) (h1 : k ≤ 1000) (hn : n ≤ 10) : Est (tOp rRep (tLst tA) t2) σ H (fun v H' => ∃ p xs, v = .ref p ∧ H' p = some (.lst xs) ∧ AllZ Z (k.toNat * n) xs H') := fun H1 e Q q =>
  h H1 e _ fun vs H2 e2 ha => ⟨sz_of (by have := ha.1; omega), fun p hp => h2 _ ((e.trans e2).trans (Ex.new hp)) _ fun H3 e3 => by
    refine ⟨p, k, vs, rfl, rfl, e3 _ _ upd_same, by omega, by omega, ?_, fun p2 hp2 => ?_⟩
    · rw [ha.1]
      exact sz_of (Nat.le_trans (Nat.mul_le_mul hn (show k.toNat ≤ 1000 by omega)) (by omega))
    · exact q _ _ (((e2.trans (Ex.new hp)).trans e3).trans (Ex.new hp2)) ⟨p2, _, rfl, upd_same, AllZ.pers pz _ _ _ (((Ex.new hp).trans e3).trans (Ex.new hp2)) (all_flat ha)⟩⟩
/-- widths -/
def IsWs (v : V) (H : Hp) : Prop := ∃ (p : Addr) (ws : List Int), v = .ref p ∧ H p = some (.lst (ws.map V.int)) ∧ 1 ≤ ws.length ∧ ws.length ≤ 10 ∧ ∀ c ∈ ws, 1 ≤ c ∧ c ≤ 6
theorem IsWs.pers (v : V) : Pers (IsWs v) := fun H H' e ⟨p, ws, a, b, c⟩ => ⟨p, ws, a, e _ _ b, c⟩
theorem ins_of {a b : Int} {vs : List V} {H : Hp} (h : ∀ v ∈ vs, In a b v H) : ∃ xs : List Int, vs = xs.map V.int ∧ ∀ c ∈ xs, a ≤ c ∧ c < b := by
  induction vs with
  | nil => exact ⟨[], rfl, fun c hc => absurd hc (by simp)⟩
  | cons v r ih =>
    obtain ⟨xs, e, hx⟩ := ih fun w hw => h w (List.mem_cons_of_mem _ hw)
    obtain ⟨c, ec, hc⟩ := h v List.mem_cons_self
    refine ⟨c :: xs, by rw [e, ec, List.map_cons], fun z hz => ?_⟩
    rcases List.mem_cons.mp hz with rfl | hz
    · exact hc
    · exact hx z hz
theorem ws_of {a b : Int} {n : Nat} {te : TE} (h : Est te σ H (fun v H' => ∃ p xs, v = .ref p ∧ H' p = some (.lst xs) ∧ AllZ (In a b) n xs H')) (h1 : 1 ≤ n) (h2 : n ≤ 10) (ha : 1 ≤ a) (hb : b ≤ 7) : Est te σ H IsWs :=
  h.imp fun v H' _ ⟨p, xs, ev, hp, hl, hz⟩ => by
    obtain ⟨ws, e, hw⟩ := ins_of hz
    rw [e, List.length_map] at hl
    exact ⟨p, ws, ev, by rw [hp, e], by omega, by omega, fun c hc => by have := hw c hc; omega⟩
theorem i01 (k : Bool) : (3 + 3 * (if k = true then 1 else 0) : Int) = 3 ∨ (3 + 3 * (if k = true then 1 else 0) : Int) = 6 := by cases k <;> simp
theorem est_fmod {n : Int} (h : Est t1 σ H IsInt) (h2 : Ev t2 σ H (.int n)) (hn : 0 < n) : Est (tOp (rI (fun _ j => j ≠ 0) fun i j => V.int (i.fmod j)) t1 t2) σ H (In 0 n) := fun H1 e Q q =>
  h H1 e _ fun v H2 e2 ⟨c, ev⟩ => h2 H2 (e.trans e2) _ fun H3 e3 => ⟨c, n, ev, rfl, by show n ≠ 0; omega, q _ H3 (e2.trans e3) ⟨_, rfl, Int.fmod_nonneg_of_pos _ hn, Int.fmod_lt_of_pos _ hn⟩⟩
theorem est_fdivN {c : Int} (h : Est t1 σ H IsInt) (h2 : Ev t2 σ H (.int c)) (h0 : 1 ≤ c) (h1 : c ≤ 1000) : Est (tOp (rI CDivN fun i j => V.int (i.fdiv j)) t1 t2) σ H IsInt := fun H1 e Q q =>
  h H1 e _ fun v H2 e2 ⟨a, ev⟩ => h2 H2 (e.trans e2) _ fun H3 e3 => ⟨a, c, ev, rfl, ⟨by omega, by omega⟩, q _ H3 (e2.trans e3) ⟨_, rfl⟩⟩
def spWidths (K : PySem.W.Frag) : Sp := fun vs H Q _ => ∃ (s : Addr) (ns : List Int), vs = [.ref s] ∧ SqL K H s (ns.map V.int) ∧ ∀ v H', Ex H H' → IsWs v H' → Q v H'
theorem ok_widths {f f1 : Addr} {fd fd1 : FuncData} {k : Nat} (A : FnAt K mg "_law_widths" sL_widths PL_widths f fd) (Aat : FnAt K mg "_law_at" sL_at PL_at f1 fd1) (B : Bt mg) : FnOk P w K mg base CX0 (k + 2) f fd PL_widths (spWidths K) := by
  refine A.F.ok scL_widths (fun vs H Q E h => ?_) (fun cdv A' outer s H vs Q E hr h => ?_)
  · obtain ⟨s, ns, rfl, _⟩ := h
    rfl
  obtain ⟨sc, ns, rfl, hs, q⟩ := h
  have hr1 : Room 1 _ := hr.mono (by omega)
  have Gat : FnOk P w K mg base CX0 1 f1 fd1 PL_at (spAt K) := ok_at Aat B
  refine ⟨_, (pss_cons (ps_set (i := 1) scL_widths.nd rfl (.inl rfl) (pe_call Gat hr1 (by rfl) Aat.g Aat.F.kp Aat.b .nil pass0 (pa_cons (pv 0) (pa_cons pe_int pa_nil))))
  (pss_cons (ps_set (i := 2) scL_widths.nd rfl (.inl rfl) (pe_op op_add pe_int (pe_op op_mod (pv 1) pe_int)))
  (pss_cons (ps_if (pt_cmpR op_eq (pe_op op_mod (pe_op op_fdiv (pv 1) pe_int) pe_int) pe_int (nomark _)) (pss_one (ps_set (i := 2) scL_widths.nd rfl (.inl rfl) (pe_op op_add pe_int (pe_op op_mod (pe_op op_fdiv (pv 1) pe_int) pe_int)))) pss_nil)
  (pss_cons (ps_set (i := 3) scL_widths.nd rfl (.inr rfl) (pe_op op_add pe_int (pe_op op_mul pe_int (pe_callTy call_int1 (by rfl) B.int (by decide +kernel) (pa_cons (pe_cmpR op_eq (pe_op op_mod (pe_op op_fdiv (pv 1) pe_int) pe_int) pe_int (nomark _)) pa_nil)))))
  (pss_cons (ps_if (pt_cmpR op_eq (pe_op op_mod (pe_op op_fdiv (pv 1) pe_int) pe_int) pe_int (nomark _)) (pss_one (ps_ret (pe_op op_rep (pe_lst (pa_cons (pe_op op_add pe_int (pe_op op_mod (pe_call Gat hr1 (by rfl) Aat.g Aat.F.kp Aat.b .nil pass0 (pa_cons (pv 0) (pa_cons pe_int pa_nil))) pe_int)) pa_nil)) (pv 2)))) pss_nil)
  (pss_one (ps_ret (pe_lc (own := [("_law_k", 4)]) (g := gName 4) (tt := tYes) rfl scL_widths.nd (pi_range1 rfl B.range (pa_cons (pv 2) pa_nil)) (blkOk_by (N := NL_widths) (sc := defScope sL_widths) (by decide +kernel)) (fun _ _ _ _ _ => pg_name (i := 4) scL_widths.nd rfl (.inl rfl)) (fun _ _ _ _ _ => pts_nil) (fun _ _ _ _ _ => (pe_op op_add pe_int (pe_op op_modN (pe_op op_fdivN (pe_call Gat hr1 (by rfl) Aat.g Aat.F.kp Aat.b .nil pass0 (pa_cons (pv 0) (pa_cons (pe_op op_add pe_int (pe_op op_mod (pv 4) pe_int)) pa_nil))) (pe_op op_add pe_int (pe_op op_fdiv (pv 4) pe_int))) (pv 3)))))))))))), ?_⟩
  refine w_asg (P := IsInt) (est_at (ev_var rfl) ev_c hs (by omega)) fun v1 H1 e1 ⟨head, h1⟩ => ?_
  subst h1
  refine w_asg (P := In 1 4) ((est_one (est_mod (fun H1 e1 Q1 q1 => by (repeat (first | (refine ⟨_, rfl, ?_⟩) | (refine ⟨_, _, rfl, rfl, ?_⟩) | (refine ⟨⟨by decide, by decide⟩, ?_⟩) | (refine ⟨(by show (0 : Int) < _; decide), ?_⟩) | (refine ⟨rfl, ?_⟩) | (refine ⟨(by show _ ≠ (0 : Int); omega), ?_⟩) | (refine ⟨.inl ⟨by decide, by decide⟩, ?_⟩) | (refine ⟨(by assumption : CDivN _ _), ?_⟩))); exact q1 _ _ (Ex.refl _) ⟨_, rfl⟩) (by omega))).imp fun _ _ _ h => h) fun v2 H2 e2 ⟨n0, h2, n0a, n0b⟩ => ?_
  subst h2
  have e02 := e1.trans e2
  refine w_join (fun σ' H' => ∃ n : Int, σ' = [some (.ref sc), some (.int head), some (.int n), none, none] ∧ Ex H H' ∧ 1 ≤ n ∧ n ≤ 10) (fun N hN => ?_) ?_
  · (repeat (first | (refine ⟨_, rfl, ?_⟩) | (refine ⟨_, _, rfl, rfl, ?_⟩) | (refine ⟨⟨by decide, by decide⟩, ?_⟩) | (refine ⟨(by show (0 : Int) < _; decide), ?_⟩) | (refine ⟨rfl, ?_⟩) | (refine ⟨(by show _ ≠ (0 : Int); omega), ?_⟩) | (refine ⟨.inl ⟨by decide, by decide⟩, ?_⟩) | (refine ⟨(by assumption : CDivN _ _), ?_⟩)))
    refine ite2 (fun hd => ?_) (fun hd => ?_)
    · exact w_asg1 (P := In 1 11) ((est_one (est_mod (fun H1 e1 Q1 q1 => by (repeat (first | (refine ⟨_, rfl, ?_⟩) | (refine ⟨_, _, rfl, rfl, ?_⟩) | (refine ⟨⟨by decide, by decide⟩, ?_⟩) | (refine ⟨(by show (0 : Int) < _; decide), ?_⟩) | (refine ⟨rfl, ?_⟩) | (refine ⟨(by show _ ≠ (0 : Int); omega), ?_⟩) | (refine ⟨.inl ⟨by decide, by decide⟩, ?_⟩) | (refine ⟨(by assumption : CDivN _ _), ?_⟩))); exact q1 _ _ (Ex.refl _) ⟨_, rfl⟩) (by omega))).imp fun _ _ _ h => h) fun v H3 e3 ⟨n, hn, ha, hb⟩ => by
        subst hn
        exact hN _ _ ⟨n, rfl, e02.trans e3, by omega, by omega⟩
    · exact hN _ _ ⟨n0, rfl, e02, by omega, by omega⟩
  clear n0a n0b
  rintro σ' H3 ⟨n, rfl, e03, hn1, hn2⟩
  refine w_asg (P := fun v _ => ∃ c : Int, v = .int c ∧ (c = 3 ∨ c = 6)) (fun H1 e1 Q1 q1 => by
    (repeat (first | (refine ⟨_, rfl, ?_⟩) | (refine ⟨_, _, rfl, rfl, ?_⟩) | (refine ⟨⟨by decide, by decide⟩, ?_⟩) | (refine ⟨(by show (0 : Int) < _; decide), ?_⟩) | (refine ⟨rfl, ?_⟩) | (refine ⟨(by show _ ≠ (0 : Int); omega), ?_⟩) | (refine ⟨.inl ⟨by decide, by decide⟩, ?_⟩) | (refine ⟨(by assumption : CDivN _ _), ?_⟩)))
    refine .inr ⟨_, rfl, ?_⟩
    (repeat (first | (refine ⟨_, rfl, ?_⟩) | (refine ⟨_, _, rfl, rfl, ?_⟩) | (refine ⟨⟨by decide, by decide⟩, ?_⟩) | (refine ⟨(by show (0 : Int) < _; decide), ?_⟩) | (refine ⟨rfl, ?_⟩) | (refine ⟨(by show _ ≠ (0 : Int); omega), ?_⟩) | (refine ⟨.inl ⟨by decide, by decide⟩, ?_⟩) | (refine ⟨(by assumption : CDivN _ _), ?_⟩)))
    exact q1 _ _ (Ex.refl _) ⟨_, rfl, i01 _⟩) fun v4 H4 e4 ⟨wide, h4, hw⟩ => ?_
  subst h4
  have e04 := e03.trans e4
  (repeat (first | (refine ⟨_, rfl, ?_⟩) | (refine ⟨_, _, rfl, rfl, ?_⟩) | (refine ⟨⟨by decide, by decide⟩, ?_⟩) | (refine ⟨(by show (0 : Int) < _; decide), ?_⟩) | (refine ⟨rfl, ?_⟩) | (refine ⟨(by show _ ≠ (0 : Int); omega), ?_⟩) | (refine ⟨.inl ⟨by decide, by decide⟩, ?_⟩) | (refine ⟨(by assumption : CDivN _ _), ?_⟩)))
  refine ite2 (fun hd => ?_) (fun hd => ?_)
  · exact w_ret (ws_of (est_rep (n := 1) (k := n) (allz_cons (est_one (est_mod (est_at (ev_var rfl) ev_c (ex_l e04 hs) (by omega)) (by omega))) allz_nil (In.pers _ _)) (In.pers _ _) (fun H1 e1 Q1 q1 => by (repeat (first | (refine ⟨_, rfl, ?_⟩) | (refine ⟨_, _, rfl, rfl, ?_⟩) | (refine ⟨⟨by decide, by decide⟩, ?_⟩) | (refine ⟨(by show (0 : Int) < _; decide), ?_⟩) | (refine ⟨rfl, ?_⟩) | (refine ⟨(by show _ ≠ (0 : Int); omega), ?_⟩) | (refine ⟨.inl ⟨by decide, by decide⟩, ?_⟩) | (refine ⟨(by assumption : CDivN _ _), ?_⟩))); exact q1 _ (Ex.refl _)) (by omega) (by omega) (by omega)) (by omega) (by omega) (by omega) (by omega)) fun v H' e hR => q v H' (e04.trans e) hR
  refine at_next ?_
  exact w_ret (ws_of (est_lcR (n := n) (ea_cons (ev_var rfl) ea_nil) (by omega) (fun _ => rfl) (fun i H5 e5 hi => (est_one (a := 0) (b := 6) ((est_fmod (n := wide) (est_fdivN (c := 1 + (i : Int) / 3) (est_at (k := 1 + (i : Int) % 3) (ev_var rfl) (fun H1 e1 Q1 q1 => by (repeat (first | (refine ⟨_, rfl, ?_⟩) | (refine ⟨_, _, rfl, rfl, ?_⟩) | (refine ⟨⟨by decide, by decide⟩, ?_⟩) | (refine ⟨(by show (0 : Int) < _; decide), ?_⟩) | (refine ⟨rfl, ?_⟩) | (refine ⟨(by show _ ≠ (0 : Int); omega), ?_⟩) | (refine ⟨.inl ⟨by decide, by decide⟩, ?_⟩) | (refine ⟨(by assumption : CDivN _ _), ?_⟩))); exact q1 _ (Ex.refl _)) (ex_l (e04.trans e5) hs) (by omega)) (fun H1 e1 Q1 q1 => by (repeat (first | (refine ⟨_, rfl, ?_⟩) | (refine ⟨_, _, rfl, rfl, ?_⟩) | (refine ⟨⟨by decide, by decide⟩, ?_⟩) | (refine ⟨(by show (0 : Int) < _; decide), ?_⟩) | (refine ⟨rfl, ?_⟩) | (refine ⟨(by show _ ≠ (0 : Int); omega), ?_⟩) | (refine ⟨.inl ⟨by decide, by decide⟩, ?_⟩) | (refine ⟨(by assumption : CDivN _ _), ?_⟩))); exact q1 _ (Ex.refl _)) (by omega) (by omega)) (fun H1 e1 Q1 q1 => by (repeat (first | (refine ⟨_, rfl, ?_⟩) | (refine ⟨_, _, rfl, rfl, ?_⟩) | (refine ⟨⟨by decide, by decide⟩, ?_⟩) | (refine ⟨(by show (0 : Int) < _; decide), ?_⟩) | (refine ⟨rfl, ?_⟩) | (refine ⟨(by show _ ≠ (0 : Int); omega), ?_⟩) | (refine ⟨.inl ⟨by decide, by decide⟩, ?_⟩) | (refine ⟨(by assumption : CDivN _ _), ?_⟩))); exact q1 _ (Ex.refl _)) (by omega)).imp fun v _ _ ⟨c, a, b, b'⟩ => ⟨c, a, b, by omega⟩)).imp fun v _ _ h => h) (In.pers _ _) (StL.In _ _)) (by omega) (by omega) (by omega) (by omega)) fun v H' e hR => q v H' (e04.trans e) hR
end
end K06

namespace K06
open PySem PySem.Spec PyProof.Rows L2 Evl KB
section
variable {P : Program} {w : World} {K : PySem.W.Frag} {mg : Str → Option Value} {base : Heap} {σ : L2.St} {H H' : Hp} {t1 t2 t3 : TE} {tA : TA} {i j : Nat} {v : V} {d : Nat} {Z : V → Hp → Prop}
/-- how wide a view that the law makes may be, nested so deep -/
def wb : Nat → Int
  | 0 => 8
  | n + 1 => 2 * wb n
theorem wb_ge : ∀ n, 8 ≤ wb n
  | 0 => Int.le_refl _
  | n + 1 => by have := wb_ge n; show 8 ≤ 2 * wb n; omega
theorem wb_le {a b : Nat} (h : a ≤ b) : wb a ≤ wb b := by
  induction h with
  | refl => exact Int.le_refl _
  | @step m _ ih => have := wb_ge m; show wb a ≤ 2 * wb m; omega
theorem w_unp2 {te : TE} {n : Int} {c : Nat} {tz : TS} {D : Ends} (h : Est te σ H (RetV d n)) (hc : 2 = c) (k : ∀ y m H1, Ex H H1 → IsView d y H1 → 1 ≤ m → m ≤ n → tz D ((σ.set i (some y)).set j (some (.int m))) H1) : tSeq (tAsg te (gTup K c (gCons (gName i) (gCons (gName j) gNil)))) tz D σ H :=
  h H (Ex.refl H) _ fun v H1 e ⟨p, y, m, ev, hp, hy, m1, m2⟩ => ⟨p, [y, .int m], ev, st_of hp, hc, y, [.int m], rfl, .int m, [], rfl, rfl, k y m H1 e hy m1 m2⟩
def spView (K : PySem.W.Frag) (N : Nat) : Sp := fun vs H Q _ => ∃ (s wl : Addr) (ns ws : List Int) (turn at' : Int) (dn : Nat), vs = [.ref s, .ref wl, .int turn, .int at', .int dn] ∧ dn < N ∧ dn ≤ 3 ∧ SqL K H s (ns.map V.int) ∧
  (H wl = some (.lst (ws.map V.int)) ∧ 1 ≤ ws.length ∧ ws.length ≤ 10 ∧ ∀ c ∈ ws, 1 ≤ c ∧ c ≤ 6) ∧ ∀ v H', Ex H H' → RetV (1 + 4 * dn) (wb dn) v H' → Q v H'
theorem ok_view {f f1 f2 f3 f4 : Addr} {fd fd1 fd2 fd3 fd4 : FuncData} (Aview : FnAt K mg "_law_view" sL_view PL_view f fd) (Aat : FnAt K mg "_law_at" sL_at PL_at f1 fd1) (Asome : FnAt K mg "_law_some" sL_some PL_some f2 fd2)
    (Aone : FnAt K mg "_law_over_one" sL_over_one PL_over_one f3 fd3) (Atwo : FnAt K mg "_law_over_two" sL_over_two PL_over_two f4 fd4) (B : Bt mg) : ∀ N : Nat, FnOk P w K mg base CX0 (N + 3) f fd PL_view (spView K N)
  | 0 => by
    refine Aview.F.ok scL_view (fun vs H Q E h => ?_) (fun cdv A' outer s H vs Q E hr h => ?_)
    · obtain ⟨_, _, _, _, _, _, dn, _, h, _⟩ := h
      exact absurd h (Nat.not_lt_zero _)
    · obtain ⟨_, _, _, _, _, _, dn, _, h, _⟩ := h
      exact absurd h (Nat.not_lt_zero _)
  | N + 1 => by
    have Gview := ok_view Aview Aat Asome Aone Atwo B N
    refine Aview.F.ok scL_view (fun vs H Q E h => ?_) (fun cdv A' outer s H vs Q E hr h => ?_)
    · obtain ⟨_, _, _, _, _, _, dn, rfl, _⟩ := h
      rfl
    obtain ⟨sc, wl, ns, ws, turn, at', dn, rfl, hdn, hd3, hs, ⟨hw, hw1, hw2, hw3⟩, q⟩ := h
    have hr1 : Room 1 _ := hr.mono (by omega)
    have hr2 : Room 2 _ := hr.mono (by omega)
    have hrV : Room (N + 3) _ := hr.mono (by omega)
    have Gat : FnOk P w K mg base CX0 1 f1 fd1 PL_at (spAt K) := ok_at Aat B
    have Gone : FnOk P w K mg base CX0 2 f3 fd3 PL_over_one spOne := ok_one (k := 0) Aone Asome B
    have Gtwo : FnOk P w K mg base CX0 2 f4 fd4 PL_over_two spTwo := ok_two (k := 0) Atwo Asome B
    refine ⟨_, (pss_cons (ps_set (i := 5) scL_view.nd rfl (.inl rfl) (pe_call Gat hr1 (by rfl) Aat.g Aat.F.kp Aat.b .nil pass0 (pa_cons (pv 0) (pa_cons (pe_op op_add pe_int (pe_op op_mod (pe_op op_add (pv 3) (pe_op op_mul pe_int (pv 2))) pe_int)) pa_nil))))
  (pss_cons (ps_set (i := 6) scL_view.nd rfl (.inl rfl) (pe_op op_mod (pv 5) pe_int))
  (pss_cons (ps_if (PW.pt (pw_and (pt_cmpR op_eq (pv 6) pe_int (nomark _)) (pw_and1 (pt_cmpR op_eq (pv 4) pe_int (nomark _))))) (pss_one (ps_set (i := 6) scL_view.nd rfl (.inl rfl) pe_int)) pss_nil)
  (pss_cons (ps_set (i := 7) scL_view.nd rfl (.inl rfl) (pe_op op_fdiv (pv 5) pe_int))
  (pss_cons (ps_if (PW.pt (pw_or (pt_cmpR op_eq (pv 4) pe_int (nomark _)) (pw_or1 (pt_cmpR op_eq (pv 6) pe_int (nomark _))))) (pss_one (ps_ret (pe_tup (pa_cons (pe_tup (pa_cons pe_str (pa_cons (pe_op op_modN (pv 7) (pe_callB call_len_seq (by rfl) B.len (by decide +kernel) (pa_cons (pv 1) pa_nil))) pa_nil))) (pa_cons (pe_ix ix_list (pv 1) (pe_op op_modN (pv 7) (pe_callB call_len_seq (by rfl) B.len (by decide +kernel) (pa_cons (pv 1) pa_nil))) (fun _ _ => rfl)) pa_nil))))) pss_nil)
  (pss_cons (ps_set (i := 8) scL_view.nd rfl (.inl rfl) (pe_op op_sub (pv 4) pe_int))
  (pss_cons (ps_if (pt_cmpR op_eq (pv 6) pe_int (nomark _)) (pss_one (ps_set (i := 8) scL_view.nd rfl (.inl rfl) pe_int)) pss_nil)
  (pss_cons (ps_asg (pe_call Gview hrV (by rfl) Aview.g Aview.F.kp Aview.b .nil pass0 (pa_cons (pv 0) (pa_cons (pv 1) (pa_cons (pv 2) (pa_cons (pe_op op_add (pe_op op_mul pe_int (pv 3)) pe_int) (pa_cons (pv 8) pa_nil)))))) (pg_tup rfl (pgs_cons (pg_name (i := 9) scL_view.nd rfl (.inl rfl)) (pgs_cons (pg_name (i := 10) scL_view.nd rfl (.inl rfl)) pgs_nil))))
  (pss_cons (ps_if (pt_cmpR op_lt (pv 6) pe_int (nomark _)) (pss_one (ps_ret (pe_call Gone hr2 (by rfl) Aone.g Aone.F.kp Aone.b .nil pass0 (pa_cons (pv 6) (pa_cons (pv 7) (pa_cons (pv 9) (pa_cons (pv 10) pa_nil))))))) pss_nil)
  (pss_cons (ps_asg (pe_call Gview hrV (by rfl) Aview.g Aview.F.kp Aview.b .nil pass0 (pa_cons (pv 0) (pa_cons (pv 1) (pa_cons (pv 2) (pa_cons (pe_op op_add (pe_op op_mul pe_int (pv 3)) pe_int) (pa_cons (pv 8) pa_nil)))))) (pg_tup rfl (pgs_cons (pg_name (i := 11) scL_view.nd rfl (.inl rfl)) (pgs_cons (pg_name (i := 12) scL_view.nd rfl (.inl rfl)) pgs_nil))))
  (pss_one (ps_ret (pe_call Gtwo hr2 (by rfl) Atwo.g Atwo.F.kp Atwo.b .nil pass0 (pa_cons (pv 6) (pa_cons (pv 7) (pa_cons (pv 9) (pa_cons (pv 10) (pa_cons (pv 11) (pa_cons (pv 12) pa_nil))))))))))))))))))), ?_⟩
    refine w_asg (P := IsInt) (est_at (k := 16 + (at' + 5 * turn) % 15) (ev_var rfl) (fun H1 e1 Q1 q1 => by (repeat (first | (refine ⟨_, rfl, ?_⟩) | (refine ⟨_, _, rfl, rfl, ?_⟩) | (refine ⟨⟨by decide, by decide⟩, ?_⟩) | (refine ⟨(by show (0 : Int) < _; decide), ?_⟩) | (refine ⟨rfl, ?_⟩) | (refine ⟨(by show _ ≠ (0 : Int); omega), ?_⟩) | (refine ⟨.inl ⟨by decide, by decide⟩, ?_⟩) | (refine ⟨(by assumption : CDivN _ _), ?_⟩))); exact q1 _ (Ex.refl _)) hs (by omega)) fun v5 H5 e5 ⟨cell, h5⟩ => ?_
    subst h5
    refine w_asg (P := In 0 9) (est_mod (fun H1 e1 Q1 q1 => by (repeat (first | (refine ⟨_, rfl, ?_⟩) | (refine ⟨_, _, rfl, rfl, ?_⟩) | (refine ⟨⟨by decide, by decide⟩, ?_⟩) | (refine ⟨(by show (0 : Int) < _; decide), ?_⟩) | (refine ⟨rfl, ?_⟩) | (refine ⟨(by show _ ≠ (0 : Int); omega), ?_⟩) | (refine ⟨.inl ⟨by decide, by decide⟩, ?_⟩) | (refine ⟨(by assumption : CDivN _ _), ?_⟩))); exact q1 _ _ (Ex.refl _) ⟨_, rfl⟩) (by omega)) fun v6 H6 e6 ⟨kd0, h6, k0a, k0b⟩ => ?_
    subst h6
    have e06 := e5.trans e6
    refine w_join (fun σ' H' => ∃ kd : Int, σ' = [some (.ref sc), some (.ref wl), some (.int turn), some (.int at'), some (.int dn), some (.int cell), some (.int kd), none, none, none, none, none, none] ∧ Ex H H' ∧ 0 ≤ kd ∧ kd < 9 ∧ (kd = 8 → dn ≠ 1)) (fun N hN => ?_) ?_
    · (repeat (first | (refine ⟨_, rfl, ?_⟩) | (refine ⟨_, _, rfl, rfl, ?_⟩) | (refine ⟨⟨by decide, by decide⟩, ?_⟩) | (refine ⟨(by show (0 : Int) < _; decide), ?_⟩) | (refine ⟨rfl, ?_⟩) | (refine ⟨(by show _ ≠ (0 : Int); omega), ?_⟩) | (refine ⟨.inl ⟨by decide, by decide⟩, ?_⟩) | (refine ⟨(by assumption : CDivN _ _), ?_⟩)))
      refine ite2 (fun hd => ?_) (fun hd8 => ?_)
      · (repeat (first | (refine ⟨_, rfl, ?_⟩) | (refine ⟨_, _, rfl, rfl, ?_⟩) | (refine ⟨⟨by decide, by decide⟩, ?_⟩) | (refine ⟨(by show (0 : Int) < _; decide), ?_⟩) | (refine ⟨rfl, ?_⟩) | (refine ⟨(by show _ ≠ (0 : Int); omega), ?_⟩) | (refine ⟨.inl ⟨by decide, by decide⟩, ?_⟩) | (refine ⟨(by assumption : CDivN _ _), ?_⟩)))
        refine ite2 (fun hd => ?_) (fun hd => ?_)
        · exact w_asg1 (P := Is (.int 7)) (est_is _) fun v H3 e3 hn => by
            cases hn
            exact hN _ _ ⟨7, rfl, e06.trans e3, by omega, by omega, by omega⟩
        · exact hN _ _ ⟨kd0, rfl, e06, by omega, by omega, fun _ z => hd (by rw [z]; rfl)⟩
      · refine ite2 (fun hd => ?_) (fun hd => ?_)
        · exact absurd hd Bool.false_ne_true
        · exact hN _ _ ⟨kd0, rfl, e06, by omega, by omega, fun z => absurd (by rw [z]; rfl) hd8⟩
    clear k0a k0b
    rintro σ' H7 ⟨kd, rfl, e07, ka, kb, k8⟩
    refine w_asg (P := IsInt) (fun H1 e1 Q1 q1 => by (repeat (first | (refine ⟨_, rfl, ?_⟩) | (refine ⟨_, _, rfl, rfl, ?_⟩) | (refine ⟨⟨by decide, by decide⟩, ?_⟩) | (refine ⟨(by show (0 : Int) < _; decide), ?_⟩) | (refine ⟨rfl, ?_⟩) | (refine ⟨(by show _ ≠ (0 : Int); omega), ?_⟩) | (refine ⟨.inl ⟨by decide, by decide⟩, ?_⟩) | (refine ⟨(by assumption : CDivN _ _), ?_⟩))); exact q1 _ _ (Ex.refl _) ⟨_, rfl⟩) fun v7 H8 e8 ⟨rest, h7⟩ => ?_
    subst h7
    have e08 := e07.trans e8
    have tab : ∀ D : Ends, D.rt = Q → (tRet (tTup (tCons (tTup (tCons (tC (.str "table")) (tCons (tOp (rI (fun _ j => j ≠ 0) fun i j => V.int (i.fmod j)) (tVar 7) (tCB (rLenS K) (tCons (tVar 1) tNil))) tNil))) (tCons (tOp (rIxL K) (tVar 1) (tOp (rI (fun _ j => j ≠ 0) fun i j => V.int (i.fmod j)) (tVar 7) (tCB (rLenS K) (tCons (tVar 1) tNil)))) tNil)))) D
        [some (.ref sc), some (.ref wl), some (.int turn), some (.int at'), some (.int dn), some (.int cell), some (.int kd), some (.int rest), none, none, none, none, none] H8 := by
      intro D hD
      have hz : (0 : Int) < ws.length := by omega
      have hi := Int.fmod_nonneg_of_pos rest hz
      have hi2 := Int.fmod_lt_of_pos rest hz
      have hlt : (rest.fmod ws.length).toNat < ws.length := by omega
      have hml : Ev (tOp (rI (fun _ j => j ≠ 0) fun i j => V.int (i.fmod j)) (tVar 7) (tCB (rLenS K) (tCons (tVar 1) tNil))) [some (.ref sc), some (.ref wl), some (.int turn), some (.int at'), some (.int dn), some (.int cell), some (.int kd), some (.int rest), none, none, none, none, none] H8 (.int (rest.fmod ws.length)) :=
        ev_op (ev_var rfl) (by
          have := ev_len (K := K) (xs := ws.map V.int) (ta := tVar 1) (σ := [some (.ref sc), some (.ref wl), some (.int turn), some (.int at'), some (.int dn), some (.int cell), some (.int kd), some (.int rest), none, none, none, none, none]) (H := H8) (ev_var rfl) (sq_of (e08 _ _ hw))
          rwa [List.length_map] at this) (rv_I (C := fun _ j => j ≠ 0) (by show (ws.length : Int) ≠ 0; omega))
      have hat := atI_nat (xs := ws.map V.int) (j := (rest.fmod ws.length).toNat) (v := V.int ws[(rest.fmod ws.length).toNat]) (by rw [List.getElem?_map, List.getElem?_eq_getElem hlt]; rfl)
      rw [show (((rest.fmod ws.length).toNat : Nat) : Int) = rest.fmod ws.length by omega] at hat
      have hc := hw3 _ (List.getElem_mem hlt)
      have h8 := wb_ge dn
      exact w_ret (est_ret (n := ws[(rest.fmod ws.length).toNat]) (d := 1) (vc_table (est_int hml)) (ev_op (ev_var rfl) hml (rv_ixL (sq_of (e08 _ _ hw)) hat)) hc.1) fun v H' e hR => by
        rw [hD]
        exact q v H' (e08.trans e) (hR.le (by omega) (by omega))
    (repeat (first | (refine ⟨_, rfl, ?_⟩) | (refine ⟨_, _, rfl, rfl, ?_⟩) | (refine ⟨⟨by decide, by decide⟩, ?_⟩) | (refine ⟨(by show (0 : Int) < _; decide), ?_⟩) | (refine ⟨rfl, ?_⟩) | (refine ⟨(by show _ ≠ (0 : Int); omega), ?_⟩) | (refine ⟨.inl ⟨by decide, by decide⟩, ?_⟩) | (refine ⟨(by assumption : CDivN _ _), ?_⟩)))
    refine ite2 (fun hd => ?_) (fun hd0 => ?_)
    · refine ite2 (fun hd => ?_) (fun hd => ?_)
      · exact tab _ rfl
      · exact absurd rfl hd
    · (repeat (first | (refine ⟨_, rfl, ?_⟩) | (refine ⟨_, _, rfl, rfl, ?_⟩) | (refine ⟨⟨by decide, by decide⟩, ?_⟩) | (refine ⟨(by show (0 : Int) < _; decide), ?_⟩) | (refine ⟨rfl, ?_⟩) | (refine ⟨(by show _ ≠ (0 : Int); omega), ?_⟩) | (refine ⟨.inl ⟨by decide, by decide⟩, ?_⟩) | (refine ⟨(by assumption : CDivN _ _), ?_⟩)))
      refine ite2 (fun hd => ?_) (fun hd => ?_)
      · exact tab _ rfl
      refine at_next ?_
      refine w_asg (P := Is (.int (dn - 1))) (est_ev (fun H1 e1 Q1 q1 => by (repeat (first | (refine ⟨_, rfl, ?_⟩) | (refine ⟨_, _, rfl, rfl, ?_⟩) | (refine ⟨⟨by decide, by decide⟩, ?_⟩) | (refine ⟨(by show (0 : Int) < _; decide), ?_⟩) | (refine ⟨rfl, ?_⟩) | (refine ⟨(by show _ ≠ (0 : Int); omega), ?_⟩) | (refine ⟨.inl ⟨by decide, by decide⟩, ?_⟩) | (refine ⟨(by assumption : CDivN _ _), ?_⟩))); exact q1 _ (Ex.refl _))) fun v8 H9 e9 h8 => ?_
      cases h8
      have e09 := e08.trans e9
      have hdn0 : dn ≠ 0 := fun z => hd0 (by rw [z]; rfl)
      refine w_join (fun σ' H' => ∃ dm : Nat, σ' = [some (.ref sc), some (.ref wl), some (.int turn), some (.int at'), some (.int dn), some (.int cell), some (.int kd), some (.int rest), some (.int dm), none, none, none, none] ∧ Ex H H' ∧ dm + 1 ≤ dn) (fun M hM => ?_) ?_
      · (repeat (first | (refine ⟨_, rfl, ?_⟩) | (refine ⟨_, _, rfl, rfl, ?_⟩) | (refine ⟨⟨by decide, by decide⟩, ?_⟩) | (refine ⟨(by show (0 : Int) < _; decide), ?_⟩) | (refine ⟨rfl, ?_⟩) | (refine ⟨(by show _ ≠ (0 : Int); omega), ?_⟩) | (refine ⟨.inl ⟨by decide, by decide⟩, ?_⟩) | (refine ⟨(by assumption : CDivN _ _), ?_⟩)))
        refine ite2 (fun hd => ?_) (fun hd => ?_)
        · have hk : kd = 8 := V.int.inj (of_decide_eq_true hd)
          exact w_asg1 (P := Is (.int 1)) (est_is _) fun v H3 e3 hn => by
            cases hn
            exact hM _ _ ⟨1, rfl, e09.trans e3, by have := k8 hk; omega⟩
        · exact hM _ _ ⟨dn - 1, by rw [show (((dn - 1 : Nat) : Nat) : Int) = dn - 1 by omega]; rfl, e09, by omega⟩
      rintro σ' H10 ⟨dm, rfl, e10, hdm⟩
      have hwb := wb_le (a := dm) (b := 2) (by omega)
      have hwb2 : wb 2 = 32 := by decide
      have hwb3 : 2 * wb dm ≤ wb dn := wb_le (a := dm + 1) (b := dn) hdm
      have h8 := wb_ge dm
      have rec' : ∀ (σ : L2.St) (H : Hp) (t : TE) (a : Int), Ex H10 H → σ[0]? = some (some (.ref sc)) → σ[1]? = some (some (.ref wl)) → σ[2]? = some (some (.int turn)) → σ[8]? = some (some (.int dm)) → Ev t σ H (.int a) →
          Est (tCall (spView K N) [] E0 (tCons (tVar 0) (tCons (tVar 1) (tCons (tVar 2) (tCons t (tCons (tVar 8) tNil)))))) σ H (RetV (1 + 4 * dm) (wb dm)) := fun σ H t a e s0 s1 s2 s8 ht H1 e1 Q1 q1 => by
        refine ⟨_, s0, _, s1, _, s2, ht H1 e1 _ fun H2 e2 => ⟨_, s8, sc, wl, ns, ws, turn, a, dm, rfl, by omega, by omega, ex_l (e10.trans ((e.trans e1).trans e2)) hs, ⟨e10.trans ((e.trans e1).trans e2) _ _ hw, hw1, hw2, hw3⟩, fun v H' e' hR => q1 v H' (e2.trans e') hR⟩⟩
      refine w_unp2 (rec' _ _ _ (2 * at' + 1) (Ex.refl _) rfl rfl rfl rfl (fun H1 e1 Q1 q1 => by (repeat (first | (refine ⟨_, rfl, ?_⟩) | (refine ⟨_, _, rfl, rfl, ?_⟩) | (refine ⟨⟨by decide, by decide⟩, ?_⟩) | (refine ⟨(by show (0 : Int) < _; decide), ?_⟩) | (refine ⟨rfl, ?_⟩) | (refine ⟨(by show _ ≠ (0 : Int); omega), ?_⟩) | (refine ⟨.inl ⟨by decide, by decide⟩, ?_⟩) | (refine ⟨(by assumption : CDivN _ _), ?_⟩))); exact q1 _ (Ex.refl _))) rfl fun y m H11 e11 hy m1 m2 => ?_
      have e011 := e10.trans e11
      (repeat (first | (refine ⟨_, rfl, ?_⟩) | (refine ⟨_, _, rfl, rfl, ?_⟩) | (refine ⟨⟨by decide, by decide⟩, ?_⟩) | (refine ⟨(by show (0 : Int) < _; decide), ?_⟩) | (refine ⟨rfl, ?_⟩) | (refine ⟨(by show _ ≠ (0 : Int); omega), ?_⟩) | (refine ⟨.inl ⟨by decide, by decide⟩, ?_⟩) | (refine ⟨(by assumption : CDivN _ _), ?_⟩)))
      refine ite2 (fun hd => ?_) (fun hd6 => ?_)
      · refine ⟨_, rfl, _, rfl, _, rfl, _, rfl, kd, rest, m, y, 1 + 4 * dm, rfl, hy, m1, by omega, fun v H' e hR => q v H' (e011.trans e) ((hR (wb dn) (by omega) (by omega)).le (by omega) (Int.le_refl _))⟩
      refine at_next ?_
      refine w_unp2 (rec' _ _ _ (2 * at' + 2) e11 rfl rfl rfl rfl (fun H1 e1 Q1 q1 => by (repeat (first | (refine ⟨_, rfl, ?_⟩) | (refine ⟨_, _, rfl, rfl, ?_⟩) | (refine ⟨⟨by decide, by decide⟩, ?_⟩) | (refine ⟨(by show (0 : Int) < _; decide), ?_⟩) | (refine ⟨rfl, ?_⟩) | (refine ⟨(by show _ ≠ (0 : Int); omega), ?_⟩) | (refine ⟨.inl ⟨by decide, by decide⟩, ?_⟩) | (refine ⟨(by assumption : CDivN _ _), ?_⟩))); exact q1 _ (Ex.refl _))) rfl fun z n H12 e12 hz n1 n2 => ?_
      have h6 : ¬ kd < 6 := fun z => hd6 (decide_eq_true z)
      exact ⟨_, rfl, _, rfl, _, rfl, _, rfl, _, rfl, _, rfl, kd, rest, m, n, y, z, 1 + 4 * dm, rfl, by omega, IsView.pers _ _ _ _ e12 hy, hz, m1, by omega, n1, by omega, fun v H' e hR => q v H' ((e011.trans e12).trans e) ((hR (wb dn) (by omega) (by omega)).le (by omega) (Int.le_refl _))⟩
end
end K06

namespace K06
open PySem PySem.Spec PyProof.Rows L2 Evl KB
section
variable {P : Program} {w : World} {K : PySem.W.Frag} {mg : Str → Option Value} {base : Heap} {σ : L2.St} {H H' : Hp} {t1 t2 t3 : TE} {tA : TA} {i j : Nat} {v : V} {d : Nat} {Z : V → Hp → Prop}
theorem ite_y {c A B : Prop} [Decidable c] (h : c) (a : A) : if c then A else B := by rw [if_pos h]; exact a
theorem ite_n {c A B : Prop} [Decidable c] (h : ¬ c) (b : B) : if c then A else B := by rw [if_neg h]; exact b
def optV : Option Int → V
  | none => .non
  | some n => .int n
/-- behind the width of what lies in it, for words with one view in it -/
def afterOne (m : Int) : View → Option Int
  | .within _ c _ _ => if inW m c = true then some m else none
  | .columns _ cs => if cs ≠ [] ∧ cs.all (inW m) = true then some cs.length else none
  | .once _ => some m
  | .sums _ ks c => if (ks ++ [c]).all (inW m) = true then some (ks.length + 2) else none
  | .reach _ => if m = 2 then some 2 else none
  | _ => none
def isOne : View → Bool
  | .within _ _ _ _ | .columns _ _ | .once _ | .sums _ _ _ | .reach _ => true
  | _ => false
theorem vok_sums : ∀ {n : Nat} {v : View} {ks : List Int} {c : Int}, VOk n (.sums v ks c) → ks.length ≤ 1000
  | 0, _, _, _, h => h.elim
  | _ + 1, _, _, _, h => h.2
def spWideOne : Sp := fun vs H Q _ => ∃ (x : V) (m : Int) (v : View) (n : Nat), vs = [x, .int m] ∧ isOne v = true ∧ VOk n v ∧ VAt H v x ∧ ∀ H', Ex H H' → Q (optV (afterOne m v)) H'
theorem ok_wide_one {f f1 : Addr} {fd fd1 : FuncData} {k : Nat} (A : FnAt K mg "_law_wide_one" sL_wide_one PL_wide_one f fd) (Athere : FnAt K mg "_law_there" sL_there PL_there f1 fd1) (B : Bt mg) : FnOk P w K mg base CX0 (k + 2) f fd PL_wide_one spWideOne := by
  refine A.F.ok scL_wide_one (fun vs H Q E h => ?_) (fun cdv A' outer s H vs Q E hr h => ?_)
  · obtain ⟨x, m, v, n, rfl, _⟩ := h
    rfl
  obtain ⟨x, m, v, n, rfl, ho, hok, hv, q⟩ := h
  have hr1 : Room 1 _ := hr.mono (by omega)
  have Gthere : FnOk P w K mg base CX0 1 f1 fd1 PL_there (spThere K) := ok_there Athere B
  refine ⟨_, (pss_cons (ps_if (PW.pt (pw_or (PW.pt (pw_and (pt_cmpR op_eq (pe_ix ix_tup (pv 0) pe_int (fun _ _ => rfl)) pe_str (nomark _)) (pw_and1 (pt_val (pe_call Gthere hr1 (by rfl) Athere.g Athere.F.kp Athere.b .nil pass0 (pa_cons (pe_lst (pa_cons (pe_ix ix_tup (pv 0) pe_int (fun _ _ => rfl)) pa_nil)) (pa_cons (pv 1) pa_nil))))))) (pw_or1 (pt_cmpR op_eq (pe_ix ix_tup (pv 0) pe_int (fun _ _ => rfl)) pe_str (nomark _))))) (pss_one (ps_ret (pv 1))) pss_nil)
  (pss_cons (ps_if (PW.pt (pw_and (pt_cmpR op_eq (pe_ix ix_tup (pv 0) pe_int (fun _ _ => rfl)) pe_str (nomark _)) (pw_and (pt_cmpR op_gt (pe_callB call_len_seq (by rfl) B.len (by decide +kernel) (pa_cons (pe_ix ix_tup (pv 0) pe_int (fun _ _ => rfl)) pa_nil)) pe_int (nomark _)) (pw_and1 (pt_val (pe_call Gthere hr1 (by rfl) Athere.g Athere.F.kp Athere.b .nil pass0 (pa_cons (pe_ix ix_tup (pv 0) pe_int (fun _ _ => rfl)) (pa_cons (pv 1) pa_nil)))))))) (pss_one (ps_ret (pe_callB call_len_seq (by rfl) B.len (by decide +kernel) (pa_cons (pe_ix ix_tup (pv 0) pe_int (fun _ _ => rfl)) pa_nil)))) pss_nil)
  (pss_cons (ps_if (PW.pt (pw_and (pt_cmpR op_eq (pe_ix ix_tup (pv 0) pe_int (fun _ _ => rfl)) pe_str (nomark _)) (pw_and1 (pt_val (pe_call Gthere hr1 (by rfl) Athere.g Athere.F.kp Athere.b .nil pass0 (pa_cons (pe_op op_cat (pe_callTy call_list_of (by rfl) B.list (by decide +kernel) (pa_cons (pe_ix ix_tup (pv 0) pe_int (fun _ _ => rfl)) pa_nil)) (pe_lst (pa_cons (pe_ix ix_tup (pv 0) pe_int (fun _ _ => rfl)) pa_nil))) (pa_cons (pv 1) pa_nil))))))) (pss_one (ps_ret (pe_op op_add (pe_callB call_len_seq (by rfl) B.len (by decide +kernel) (pa_cons (pe_ix ix_tup (pv 0) pe_int (fun _ _ => rfl)) pa_nil)) pe_int))) pss_nil)
  (pss_cons (ps_if (PW.pt (pw_and (pt_cmpR op_eq (pe_ix ix_tup (pv 0) pe_int (fun _ _ => rfl)) pe_str (nomark _)) (pw_and1 (pt_cmpR op_eq (pv 1) pe_int (nomark _))))) (pss_one (ps_ret pe_int)) pss_nil)
  (pss_one (ps_ret pe_non)))))), ?_⟩
  cases v with
  | within v c lo hi =>
    obtain ⟨p, y, rfl, hp, _⟩ := hv
    (repeat (first | (refine ⟨_, _, _, _, rfl, rfl, st_of hp, rfl, ?_⟩) | (refine ⟨_, rfl, ?_⟩) | (refine ⟨_, _, rfl, rfl, ?_⟩) | (refine ⟨⟨by decide, by decide⟩, ?_⟩) | (refine ⟨(by show (0 : Int) < _; decide), ?_⟩) | (refine ⟨rfl, ?_⟩) | (refine ⟨(by show _ ≠ (0 : Int); omega), ?_⟩) | (refine ⟨.inl ⟨by decide, by decide⟩, ?_⟩) | (refine ⟨(by assumption : CDivN _ _), ?_⟩) | (refine ite_y (by decide) ?_) | (refine ite_n (by decide) ?_) | (refine ite_y rfl ?_) | (refine ite_n Bool.false_ne_true ?_)))
    refine ⟨by show 1 ≤ sizeLine; decide, fun l hl => ?_⟩
    (repeat (first | (refine ⟨_, _, _, _, rfl, rfl, st_of hp, rfl, ?_⟩) | (refine ⟨_, rfl, ?_⟩) | (refine ⟨_, _, rfl, rfl, ?_⟩) | (refine ⟨⟨by decide, by decide⟩, ?_⟩) | (refine ⟨(by show (0 : Int) < _; decide), ?_⟩) | (refine ⟨rfl, ?_⟩) | (refine ⟨(by show _ ≠ (0 : Int); omega), ?_⟩) | (refine ⟨.inl ⟨by decide, by decide⟩, ?_⟩) | (refine ⟨(by assumption : CDivN _ _), ?_⟩) | (refine ite_y (by decide) ?_) | (refine ite_n (by decide) ?_) | (refine ite_y rfl ?_) | (refine ite_n Bool.false_ne_true ?_)))
    refine ⟨l, [c], m, rfl, .inl (sq_of upd_same), fun H1 e1 => ?_⟩
    have e01 := (Ex.new hl).trans e1
    have hp := e01 _ _ hp
    have hall : [c].all (inW m) = inW m c := by simp
    rw [hall]
    have q' := q H1 e01
    (repeat (first | (refine ⟨_, _, _, _, rfl, rfl, st_of hp, rfl, ?_⟩) | (refine ⟨_, rfl, ?_⟩) | (refine ⟨_, _, rfl, rfl, ?_⟩) | (refine ⟨⟨by decide, by decide⟩, ?_⟩) | (refine ⟨(by show (0 : Int) < _; decide), ?_⟩) | (refine ⟨rfl, ?_⟩) | (refine ⟨(by show _ ≠ (0 : Int); omega), ?_⟩) | (refine ⟨.inl ⟨by decide, by decide⟩, ?_⟩) | (refine ⟨(by assumption : CDivN _ _), ?_⟩) | (refine ite_y (by decide) ?_) | (refine ite_n (by decide) ?_) | (refine ite_y rfl ?_) | (refine ite_n Bool.false_ne_true ?_)))
    refine ite2 (fun hd => ?_) (fun hd => ?_)
    · (repeat (first | (refine ⟨_, _, _, _, rfl, rfl, st_of hp, rfl, ?_⟩) | (refine ⟨_, rfl, ?_⟩) | (refine ⟨_, _, rfl, rfl, ?_⟩) | (refine ⟨⟨by decide, by decide⟩, ?_⟩) | (refine ⟨(by show (0 : Int) < _; decide), ?_⟩) | (refine ⟨rfl, ?_⟩) | (refine ⟨(by show _ ≠ (0 : Int); omega), ?_⟩) | (refine ⟨.inl ⟨by decide, by decide⟩, ?_⟩) | (refine ⟨(by assumption : CDivN _ _), ?_⟩) | (refine ite_y (by decide) ?_) | (refine ite_n (by decide) ?_) | (refine ite_y rfl ?_) | (refine ite_n Bool.false_ne_true ?_)))
      rwa [show afterOne m (.within v c lo hi) = some m from if_pos hd] at q'
    · (repeat (first | (refine ⟨_, _, _, _, rfl, rfl, st_of hp, rfl, ?_⟩) | (refine ⟨_, rfl, ?_⟩) | (refine ⟨_, _, rfl, rfl, ?_⟩) | (refine ⟨⟨by decide, by decide⟩, ?_⟩) | (refine ⟨(by show (0 : Int) < _; decide), ?_⟩) | (refine ⟨rfl, ?_⟩) | (refine ⟨(by show _ ≠ (0 : Int); omega), ?_⟩) | (refine ⟨.inl ⟨by decide, by decide⟩, ?_⟩) | (refine ⟨(by assumption : CDivN _ _), ?_⟩) | (refine ite_y (by decide) ?_) | (refine ite_n (by decide) ?_) | (refine ite_y rfl ?_) | (refine ite_n Bool.false_ne_true ?_)))
      rwa [show afterOne m (.within v c lo hi) = none from if_neg hd] at q'
  | columns v cs =>
    obtain ⟨p, y, qa, rfl, hp, _, hq⟩ := hv
    (repeat (first | (refine ⟨_, _, _, _, rfl, rfl, st_of hp, rfl, ?_⟩) | (refine ⟨_, rfl, ?_⟩) | (refine ⟨_, _, rfl, rfl, ?_⟩) | (refine ⟨⟨by decide, by decide⟩, ?_⟩) | (refine ⟨(by show (0 : Int) < _; decide), ?_⟩) | (refine ⟨rfl, ?_⟩) | (refine ⟨(by show _ ≠ (0 : Int); omega), ?_⟩) | (refine ⟨.inl ⟨by decide, by decide⟩, ?_⟩) | (refine ⟨(by assumption : CDivN _ _), ?_⟩) | (refine ite_y (by decide) ?_) | (refine ite_n (by decide) ?_) | (refine ite_y rfl ?_) | (refine ite_n Bool.false_ne_true ?_)))
    refine ⟨qa, cs.map V.int, rfl, .inr (st_of hq), ?_⟩
    rw [List.length_map]
    (repeat (first | (refine ⟨_, _, _, _, rfl, rfl, st_of hp, rfl, ?_⟩) | (refine ⟨_, rfl, ?_⟩) | (refine ⟨_, _, rfl, rfl, ?_⟩) | (refine ⟨⟨by decide, by decide⟩, ?_⟩) | (refine ⟨(by show (0 : Int) < _; decide), ?_⟩) | (refine ⟨rfl, ?_⟩) | (refine ⟨(by show _ ≠ (0 : Int); omega), ?_⟩) | (refine ⟨.inl ⟨by decide, by decide⟩, ?_⟩) | (refine ⟨(by assumption : CDivN _ _), ?_⟩) | (refine ite_y (by decide) ?_) | (refine ite_n (by decide) ?_) | (refine ite_y rfl ?_) | (refine ite_n Bool.false_ne_true ?_)))
    refine ite2 (fun hd => ?_) (fun hd => ?_)
    · have hne : cs ≠ [] := by
        rintro rfl
        exact absurd hd (by decide)
      (repeat (first | (refine ⟨_, _, _, _, rfl, rfl, st_of hp, rfl, ?_⟩) | (refine ⟨_, rfl, ?_⟩) | (refine ⟨_, _, rfl, rfl, ?_⟩) | (refine ⟨⟨by decide, by decide⟩, ?_⟩) | (refine ⟨(by show (0 : Int) < _; decide), ?_⟩) | (refine ⟨rfl, ?_⟩) | (refine ⟨(by show _ ≠ (0 : Int); omega), ?_⟩) | (refine ⟨.inl ⟨by decide, by decide⟩, ?_⟩) | (refine ⟨(by assumption : CDivN _ _), ?_⟩) | (refine ite_y (by decide) ?_) | (refine ite_n (by decide) ?_) | (refine ite_y rfl ?_) | (refine ite_n Bool.false_ne_true ?_)))
      refine ⟨qa, cs, m, rfl, .inr (st_of hq), fun H1 e1 => ?_⟩
      have hp := e1 _ _ hp
      have hq := e1 _ _ hq
      have q' := q H1 e1
      (repeat (first | (refine ⟨_, _, _, _, rfl, rfl, st_of hp, rfl, ?_⟩) | (refine ⟨_, rfl, ?_⟩) | (refine ⟨_, _, rfl, rfl, ?_⟩) | (refine ⟨⟨by decide, by decide⟩, ?_⟩) | (refine ⟨(by show (0 : Int) < _; decide), ?_⟩) | (refine ⟨rfl, ?_⟩) | (refine ⟨(by show _ ≠ (0 : Int); omega), ?_⟩) | (refine ⟨.inl ⟨by decide, by decide⟩, ?_⟩) | (refine ⟨(by assumption : CDivN _ _), ?_⟩) | (refine ite_y (by decide) ?_) | (refine ite_n (by decide) ?_) | (refine ite_y rfl ?_) | (refine ite_n Bool.false_ne_true ?_)))
      refine ite2 (fun hd => ?_) (fun hd => ?_)
      · (repeat (first | (refine ⟨_, _, _, _, rfl, rfl, st_of hp, rfl, ?_⟩) | (refine ⟨_, rfl, ?_⟩) | (refine ⟨_, _, rfl, rfl, ?_⟩) | (refine ⟨⟨by decide, by decide⟩, ?_⟩) | (refine ⟨(by show (0 : Int) < _; decide), ?_⟩) | (refine ⟨rfl, ?_⟩) | (refine ⟨(by show _ ≠ (0 : Int); omega), ?_⟩) | (refine ⟨.inl ⟨by decide, by decide⟩, ?_⟩) | (refine ⟨(by assumption : CDivN _ _), ?_⟩) | (refine ite_y (by decide) ?_) | (refine ite_n (by decide) ?_) | (refine ite_y rfl ?_) | (refine ite_n Bool.false_ne_true ?_)))
        refine ⟨qa, cs.map V.int, rfl, .inr (st_of hq), ?_⟩
        rw [List.length_map]
        rwa [show afterOne m (.columns v cs) = some cs.length from if_pos ⟨hne, hd⟩] at q'
      · (repeat (first | (refine ⟨_, _, _, _, rfl, rfl, st_of hp, rfl, ?_⟩) | (refine ⟨_, rfl, ?_⟩) | (refine ⟨_, _, rfl, rfl, ?_⟩) | (refine ⟨⟨by decide, by decide⟩, ?_⟩) | (refine ⟨(by show (0 : Int) < _; decide), ?_⟩) | (refine ⟨rfl, ?_⟩) | (refine ⟨(by show _ ≠ (0 : Int); omega), ?_⟩) | (refine ⟨.inl ⟨by decide, by decide⟩, ?_⟩) | (refine ⟨(by assumption : CDivN _ _), ?_⟩) | (refine ite_y (by decide) ?_) | (refine ite_n (by decide) ?_) | (refine ite_y rfl ?_) | (refine ite_n Bool.false_ne_true ?_)))
        rwa [show afterOne m (.columns v cs) = none from if_neg fun z => hd z.2] at q'
    · have hne : cs = [] := by
        cases cs with
        | nil => rfl
        | cons a r => exact absurd (decide_eq_true (by rw [List.length_cons]; omega)) hd
      have q' := q H (Ex.refl H)
      refine ite_n (by decide) ?_
      (repeat (first | (refine ⟨_, _, _, _, rfl, rfl, st_of hp, rfl, ?_⟩) | (refine ⟨_, rfl, ?_⟩) | (refine ⟨_, _, rfl, rfl, ?_⟩) | (refine ⟨⟨by decide, by decide⟩, ?_⟩) | (refine ⟨(by show (0 : Int) < _; decide), ?_⟩) | (refine ⟨rfl, ?_⟩) | (refine ⟨(by show _ ≠ (0 : Int); omega), ?_⟩) | (refine ⟨.inl ⟨by decide, by decide⟩, ?_⟩) | (refine ⟨(by assumption : CDivN _ _), ?_⟩) | (refine ite_y (by decide) ?_) | (refine ite_n (by decide) ?_) | (refine ite_y rfl ?_) | (refine ite_n Bool.false_ne_true ?_)))
      rwa [show afterOne m (.columns v cs) = none from if_neg fun z => z.1 hne] at q'
  | once v =>
    obtain ⟨p, y, rfl, hp, _⟩ := hv
    (repeat (first | (refine ⟨_, _, _, _, rfl, rfl, st_of hp, rfl, ?_⟩) | (refine ⟨_, rfl, ?_⟩) | (refine ⟨_, _, rfl, rfl, ?_⟩) | (refine ⟨⟨by decide, by decide⟩, ?_⟩) | (refine ⟨(by show (0 : Int) < _; decide), ?_⟩) | (refine ⟨rfl, ?_⟩) | (refine ⟨(by show _ ≠ (0 : Int); omega), ?_⟩) | (refine ⟨.inl ⟨by decide, by decide⟩, ?_⟩) | (refine ⟨(by assumption : CDivN _ _), ?_⟩) | (refine ite_y (by decide) ?_) | (refine ite_n (by decide) ?_) | (refine ite_y rfl ?_) | (refine ite_n Bool.false_ne_true ?_)))
    exact q H (Ex.refl H)
  | sums v ks c =>
    obtain ⟨p, y, qa, rfl, hp, _, hq⟩ := hv
    (repeat (first | (refine ⟨_, _, _, _, rfl, rfl, st_of hp, rfl, ?_⟩) | (refine ⟨_, rfl, ?_⟩) | (refine ⟨_, _, rfl, rfl, ?_⟩) | (refine ⟨⟨by decide, by decide⟩, ?_⟩) | (refine ⟨(by show (0 : Int) < _; decide), ?_⟩) | (refine ⟨rfl, ?_⟩) | (refine ⟨(by show _ ≠ (0 : Int); omega), ?_⟩) | (refine ⟨.inl ⟨by decide, by decide⟩, ?_⟩) | (refine ⟨(by assumption : CDivN _ _), ?_⟩) | (refine ite_y (by decide) ?_) | (refine ite_n (by decide) ?_) | (refine ite_y rfl ?_) | (refine ite_n Bool.false_ne_true ?_)))
    refine ⟨qa, ks.map V.int, rfl, .inr (st_of hq), fun l hl => ?_⟩
    have hq := Ex.new (o := .lst (ks.map V.int)) hl _ _ hq
    have hp := Ex.new (o := .lst (ks.map V.int)) hl _ _ hp
    (repeat (first | (refine ⟨_, _, _, _, rfl, rfl, st_of hp, rfl, ?_⟩) | (refine ⟨_, rfl, ?_⟩) | (refine ⟨_, _, rfl, rfl, ?_⟩) | (refine ⟨⟨by decide, by decide⟩, ?_⟩) | (refine ⟨(by show (0 : Int) < _; decide), ?_⟩) | (refine ⟨rfl, ?_⟩) | (refine ⟨(by show _ ≠ (0 : Int); omega), ?_⟩) | (refine ⟨.inl ⟨by decide, by decide⟩, ?_⟩) | (refine ⟨(by assumption : CDivN _ _), ?_⟩) | (refine ite_y (by decide) ?_) | (refine ite_n (by decide) ?_) | (refine ite_y rfl ?_) | (refine ite_n Bool.false_ne_true ?_)))
    refine ⟨by show 1 ≤ sizeLine; decide, fun l2 hl2 => ?_⟩
    have hq := Ex.new (o := .lst [.int c]) hl2 _ _ hq
    have hp := Ex.new (o := .lst [.int c]) hl2 _ _ hp
    refine ⟨l, l2, ks.map V.int, [.int c], rfl, rfl, Ex.new hl2 _ _ upd_same, upd_same, sz_of (by rw [List.length_map]; show ks.length + 1 ≤ 100000; have := vok_sums hok; omega), fun l3 hl3 => ?_⟩
    (repeat (first | (refine ⟨_, _, _, _, rfl, rfl, st_of hp, rfl, ?_⟩) | (refine ⟨_, rfl, ?_⟩) | (refine ⟨_, _, rfl, rfl, ?_⟩) | (refine ⟨⟨by decide, by decide⟩, ?_⟩) | (refine ⟨(by show (0 : Int) < _; decide), ?_⟩) | (refine ⟨rfl, ?_⟩) | (refine ⟨(by show _ ≠ (0 : Int); omega), ?_⟩) | (refine ⟨.inl ⟨by decide, by decide⟩, ?_⟩) | (refine ⟨(by assumption : CDivN _ _), ?_⟩) | (refine ite_y (by decide) ?_) | (refine ite_n (by decide) ?_) | (refine ite_y rfl ?_) | (refine ite_n Bool.false_ne_true ?_)))
    refine ⟨l3, ks ++ [c], m, rfl, .inl (sq_of (by rw [upd_same, List.map_append]; rfl)), fun H1 e1 => ?_⟩
    have e31 := (Ex.new hl3).trans e1
    have e01 := ((Ex.new hl).trans (Ex.new hl2)).trans e31
    have hp := e31 _ _ hp
    have hq := e31 _ _ hq
    have q' := q H1 e01
    (repeat (first | (refine ⟨_, _, _, _, rfl, rfl, st_of hp, rfl, ?_⟩) | (refine ⟨_, rfl, ?_⟩) | (refine ⟨_, _, rfl, rfl, ?_⟩) | (refine ⟨⟨by decide, by decide⟩, ?_⟩) | (refine ⟨(by show (0 : Int) < _; decide), ?_⟩) | (refine ⟨rfl, ?_⟩) | (refine ⟨(by show _ ≠ (0 : Int); omega), ?_⟩) | (refine ⟨.inl ⟨by decide, by decide⟩, ?_⟩) | (refine ⟨(by assumption : CDivN _ _), ?_⟩) | (refine ite_y (by decide) ?_) | (refine ite_n (by decide) ?_) | (refine ite_y rfl ?_) | (refine ite_n Bool.false_ne_true ?_)))
    refine ite2 (fun hd => ?_) (fun hd => ?_)
    · (repeat (first | (refine ⟨_, _, _, _, rfl, rfl, st_of hp, rfl, ?_⟩) | (refine ⟨_, rfl, ?_⟩) | (refine ⟨_, _, rfl, rfl, ?_⟩) | (refine ⟨⟨by decide, by decide⟩, ?_⟩) | (refine ⟨(by show (0 : Int) < _; decide), ?_⟩) | (refine ⟨rfl, ?_⟩) | (refine ⟨(by show _ ≠ (0 : Int); omega), ?_⟩) | (refine ⟨.inl ⟨by decide, by decide⟩, ?_⟩) | (refine ⟨(by assumption : CDivN _ _), ?_⟩) | (refine ite_y (by decide) ?_) | (refine ite_n (by decide) ?_) | (refine ite_y rfl ?_) | (refine ite_n Bool.false_ne_true ?_)))
      refine ⟨qa, ks.map V.int, rfl, .inr (st_of hq), ?_⟩
      rw [List.length_map]
      (repeat (first | (refine ⟨_, _, _, _, rfl, rfl, st_of hp, rfl, ?_⟩) | (refine ⟨_, rfl, ?_⟩) | (refine ⟨_, _, rfl, rfl, ?_⟩) | (refine ⟨⟨by decide, by decide⟩, ?_⟩) | (refine ⟨(by show (0 : Int) < _; decide), ?_⟩) | (refine ⟨rfl, ?_⟩) | (refine ⟨(by show _ ≠ (0 : Int); omega), ?_⟩) | (refine ⟨.inl ⟨by decide, by decide⟩, ?_⟩) | (refine ⟨(by assumption : CDivN _ _), ?_⟩) | (refine ite_y (by decide) ?_) | (refine ite_n (by decide) ?_) | (refine ite_y rfl ?_) | (refine ite_n Bool.false_ne_true ?_)))
      rwa [show afterOne m (.sums v ks c) = some (ks.length + 2) from if_pos hd] at q'
    · (repeat (first | (refine ⟨_, _, _, _, rfl, rfl, st_of hp, rfl, ?_⟩) | (refine ⟨_, rfl, ?_⟩) | (refine ⟨_, _, rfl, rfl, ?_⟩) | (refine ⟨⟨by decide, by decide⟩, ?_⟩) | (refine ⟨(by show (0 : Int) < _; decide), ?_⟩) | (refine ⟨rfl, ?_⟩) | (refine ⟨(by show _ ≠ (0 : Int); omega), ?_⟩) | (refine ⟨.inl ⟨by decide, by decide⟩, ?_⟩) | (refine ⟨(by assumption : CDivN _ _), ?_⟩) | (refine ite_y (by decide) ?_) | (refine ite_n (by decide) ?_) | (refine ite_y rfl ?_) | (refine ite_n Bool.false_ne_true ?_)))
      rwa [show afterOne m (.sums v ks c) = none from if_neg hd] at q'
  | reach v =>
    obtain ⟨p, y, rfl, hp, _⟩ := hv
    have q' := q H (Ex.refl H)
    (repeat (first | (refine ⟨_, _, _, _, rfl, rfl, st_of hp, rfl, ?_⟩) | (refine ⟨_, rfl, ?_⟩) | (refine ⟨_, _, rfl, rfl, ?_⟩) | (refine ⟨⟨by decide, by decide⟩, ?_⟩) | (refine ⟨(by show (0 : Int) < _; decide), ?_⟩) | (refine ⟨rfl, ?_⟩) | (refine ⟨(by show _ ≠ (0 : Int); omega), ?_⟩) | (refine ⟨.inl ⟨by decide, by decide⟩, ?_⟩) | (refine ⟨(by assumption : CDivN _ _), ?_⟩) | (refine ite_y (by decide) ?_) | (refine ite_n (by decide) ?_) | (refine ite_y rfl ?_) | (refine ite_n Bool.false_ne_true ?_)))
    refine ite2 (fun hd => ?_) (fun hd => ?_)
    · (repeat (first | (refine ⟨_, _, _, _, rfl, rfl, st_of hp, rfl, ?_⟩) | (refine ⟨_, rfl, ?_⟩) | (refine ⟨_, _, rfl, rfl, ?_⟩) | (refine ⟨⟨by decide, by decide⟩, ?_⟩) | (refine ⟨(by show (0 : Int) < _; decide), ?_⟩) | (refine ⟨rfl, ?_⟩) | (refine ⟨(by show _ ≠ (0 : Int); omega), ?_⟩) | (refine ⟨.inl ⟨by decide, by decide⟩, ?_⟩) | (refine ⟨(by assumption : CDivN _ _), ?_⟩) | (refine ite_y (by decide) ?_) | (refine ite_n (by decide) ?_) | (refine ite_y rfl ?_) | (refine ite_n Bool.false_ne_true ?_)))
      rwa [show afterOne m (.reach v) = some 2 from if_pos (V.int.inj (of_decide_eq_true hd))] at q'
    · (repeat (first | (refine ⟨_, _, _, _, rfl, rfl, st_of hp, rfl, ?_⟩) | (refine ⟨_, rfl, ?_⟩) | (refine ⟨_, _, rfl, rfl, ?_⟩) | (refine ⟨⟨by decide, by decide⟩, ?_⟩) | (refine ⟨(by show (0 : Int) < _; decide), ?_⟩) | (refine ⟨rfl, ?_⟩) | (refine ⟨(by show _ ≠ (0 : Int); omega), ?_⟩) | (refine ⟨.inl ⟨by decide, by decide⟩, ?_⟩) | (refine ⟨(by assumption : CDivN _ _), ?_⟩) | (refine ite_y (by decide) ?_) | (refine ite_n (by decide) ?_) | (refine ite_y rfl ?_) | (refine ite_n Bool.false_ne_true ?_)))
      rwa [show afterOne m (.reach v) = none from if_neg fun z => hd (by rw [z]; rfl)] at q'
  | _ => cases ho
end
end K06

namespace K06
open PySem PySem.Spec PyProof.Rows L2 Evl KB
section
variable {P : Program} {w : World} {K : PySem.W.Frag} {mg : Str → Option Value} {base : Heap} {σ : L2.St} {H H' : Hp} {t1 t2 t3 : TE} {tA : TA} {i j : Nat} {v : V} {d : Nat} {Z : V → Hp → Prop}
/-- the width as the law reckons it: what is wider than 40 refused at each word -/
def cap4 (o : Option Int) : Option Int := o.bind fun n => if n ≤ 40 then some n else none
theorem wo_le {ws : List Int} (hw : ∀ c ∈ ws, 1 ≤ c ∧ c ≤ 6) : ∀ (v : View) (n : Int), widthOf ws v = some n → n ≤ 40 := by
  intro v
  induction v with
  | table t =>
    intro n h
    unfold widthOf at h
    split at h
    · have := hw n (List.mem_of_getElem? h); omega
    · cases h
  | within v c lo hi ih =>
    intro n h
    obtain ⟨a, ha, h⟩ := Option.bind_eq_some_iff.mp h
    split at h
    · cases h; exact ih _ ha
    · cases h
  | columns v cs ih =>
    intro n h
    obtain ⟨a, ha, h⟩ := Option.bind_eq_some_iff.mp h
    split at h
    · unfold cap at h
      split at h
      · cases h; assumption
      · cases h
    · cases h
  | both v w ih1 ih2 =>
    intro n h
    obtain ⟨a, ha, h⟩ := Option.bind_eq_some_iff.mp h
    obtain ⟨b, hb, h⟩ := Option.bind_eq_some_iff.mp h
    split at h
    · cases h; exact ih1 _ ha
    · cases h
  | less v w ih1 ih2 =>
    intro n h
    obtain ⟨a, ha, h⟩ := Option.bind_eq_some_iff.mp h
    obtain ⟨b, hb, h⟩ := Option.bind_eq_some_iff.mp h
    split at h
    · cases h; exact ih1 _ ha
    · cases h
  | meet v w ps ih1 ih2 =>
    intro n h
    obtain ⟨a, ha, h⟩ := Option.bind_eq_some_iff.mp h
    obtain ⟨b, hb, h⟩ := Option.bind_eq_some_iff.mp h
    split at h
    · unfold cap at h
      split at h
      · cases h; assumption
      · cases h
    · cases h
  | once v ih => exact ih
  | sums v ks c ih =>
    intro n h
    obtain ⟨a, ha, h⟩ := Option.bind_eq_some_iff.mp h
    split at h
    · unfold cap at h
      split at h
      · cases h; assumption
      · cases h
    · cases h
  | reach v ih =>
    intro n h
    obtain ⟨a, ha, h⟩ := Option.bind_eq_some_iff.mp h
    split at h
    · cases h; omega
    · cases h
  | odd x v w ih1 ih2 =>
    intro n h
    cases h
/-- the view that lies in it, the first -/
def kid : View → View
  | .within v _ _ _ => v
  | .columns v _ => v
  | .both v _ => v
  | .less v _ => v
  | .meet v _ _ => v
  | .once v => v
  | .sums v _ _ => v
  | .reach v => v
  | v => v
def wordOf : View → Str
  | .table _ => "table"
  | .within _ _ _ _ => "within"
  | .columns _ _ => "columns"
  | .both _ _ => "both"
  | .less _ _ => "less"
  | .meet _ _ _ => "meet"
  | .once _ => "once"
  | .sums _ _ _ => "sums"
  | .reach _ => "reach"
  | .odd x _ _ => x
theorem wide_one_cap {ws : List Int} (hw : ∀ c ∈ ws, 1 ≤ c ∧ c ≤ 6) {v : View} (h : isOne v = true) : widthOf ws v = (widthOf ws (kid v)).bind fun m => cap4 (afterOne m v) := by
  cases v with
  | within v c lo hi =>
    show (widthOf ws v).bind _ = (widthOf ws v).bind _
    cases e : widthOf ws v with
    | none => rfl
    | some m =>
      show (if inW m c = true then some m else none) = cap4 (if inW m c = true then some m else none)
      split
      · show _ = if m ≤ 40 then _ else _
        rw [if_pos (wo_le hw _ _ e)]
      · rfl
  | columns v cs =>
    show (widthOf ws v).bind _ = (widthOf ws v).bind _
    congr 1
    funext m
    show (if cs ≠ [] ∧ cs.all (inW m) = true then cap cs.length else none) = cap4 (if cs ≠ [] ∧ cs.all (inW m) = true then some (cs.length : Int) else none)
    split <;> rfl
  | once v =>
    show widthOf ws v = (widthOf ws v).bind _
    cases e : widthOf ws v with
    | none => rfl
    | some m =>
      show some m = if m ≤ 40 then _ else _
      rw [if_pos (wo_le hw _ _ e)]
  | sums v ks c =>
    show (widthOf ws v).bind _ = (widthOf ws v).bind _
    congr 1
    funext m
    show (if ks.all (inW m) = true ∧ inW m c = true then cap (ks.length + 2) else none) = cap4 (if (ks ++ [c]).all (inW m) = true then some ((ks.length : Int) + 2) else none)
    have e : ((ks ++ [c]).all (inW m) = true) = (ks.all (inW m) = true ∧ inW m c = true) := by simp
    simp only [e]
    split <;> rfl
  | reach v =>
    show (widthOf ws v).bind _ = (widthOf ws v).bind _
    congr 1
    funext m
    show (if m = 2 then some 2 else none) = cap4 (if m = 2 then some 2 else none)
    split <;> rfl
  | _ => cases h
/-- a comprehension over a tuple, its values known -/
theorem el_lcT {a : Addr} {xs : List V} {tl te : TE} {vs : List Nat} (g : Nat → V) (h : Ev tl σ H (.ref a)) (hx : SqT K H a xs) (hz : xs.length ≤ 1000) (hw : ∀ x, wipe ((wipe σ vs).set j (some x)) vs = wipe σ vs)
    (he : ∀ (i : Nat) (x : V) H1, Ex H H1 → xs[i]? = some x → Ev te ((wipe σ vs).set j (some x)) H1 (g i)) :
    EvL (tLc (iTup K tl) (gName j) tYes te vs) σ H ((List.range xs.length).map g) := fun H0 e Q q => h H0 e _ fun H1 e1 => ⟨a, rfl, ⟨xs, ex_t (e.trans e1) hx⟩, fun Dl hD =>
  lc_tup (xs := xs) (fun i H' => Ex H1 H' ∧ H' Dl = some (.lst ((List.range i).map g))) ⟨Ex.new hD, upd_same⟩ (fun i H' _ p => ex_t ((e.trans e1).trans p.1) hx) (fun i x H' hi ⟨p1, p2⟩ => by
    refine ⟨hw _, he i x H' ((e.trans e1).trans p1) hi H' (Ex.refl H') _ fun H4 e4 => ⟨_, e4 _ _ p2, sz_lt (by have := (List.getElem?_eq_some_iff.mp hi).1; rw [List.length_map, List.length_range]; omega), Ex.mut (p1.trans e4) hD, ?_⟩⟩
    rw [upd_same, List.range_succ, List.map_append]
    rfl) (fun H' ⟨p1, p2⟩ => q _ H' (fresh_back e1 hD) (e1.trans p1) p2)⟩
theorem pairs_len {H : Hp} {rs : List Addr} {ps : List (Int × Int)} (h : Paired (fun (r : Addr) (p : Int × Int) => H r = some (.tup [.int p.1, .int p.2])) rs ps) : rs.length = ps.length := by
  induction h with
  | nil => rfl
  | cons _ _ ih => rw [List.length_cons, List.length_cons, ih]
theorem pairs_at {H : Hp} {rs : List Addr} {ps : List (Int × Int)} (h : Paired (fun (r : Addr) (p : Int × Int) => H r = some (.tup [.int p.1, .int p.2])) rs ps) : ∀ (i : Nat) (x : V), (rs.map V.ref)[i]? = some x → ∃ r p, x = .ref r ∧ ps[i]? = some p ∧ H r = some (.tup [.int p.1, .int p.2]) := by
  induction h with
  | nil => intro i x hx; cases hx
  | @cons r p rs ps hr _ ih =>
    intro i x hx
    cases i with
    | zero => cases hx; exact ⟨r, p, rfl, rfl, hr⟩
    | succ i => exact ih i x hx
theorem map_range_at {ps : List (Int × Int)} (f : Int × Int → Int) : (List.range ps.length).map (fun i => V.int ((ps[i]?.map f).getD 0)) = (ps.map f).map V.int := by
  refine List.ext_getElem (by simp) fun i h1 h2 => ?_
  simp at h1
  simp [h1]
theorem vok_meet : ∀ {n : Nat} {v w : View} {ps : List (Int × Int)}, VOk n (.meet v w ps) → ps.length ≤ 1000
  | 0, _, _, _, h => h.elim
  | _ + 1, _, _, _, h => h.2.2
theorem et_there {te : TE} {cs : List Int} {m : Int} (hE : EvL te σ H (cs.map V.int)) (h2 : Ev t2 σ H (.int m)) : EvT (tB (tCall (spThere K) [] E0 (tCons te (tCons t2 tNil)))) σ H (cs.all (inW m)) := fun H1 e Q q =>
  hE H1 e _ fun l H2 _ e2 h => h2 H2 (e.trans e2) _ fun H3 e3 => ⟨l, cs, m, rfl, .inl (sq_of (e3 _ _ h)), fun H4 e4 => ⟨_, rfl, q H4 ((e2.trans e3).trans e4)⟩⟩
theorem el_pairs {p qa : Addr} {y z : V} {rs : List Addr} {ps : List (Int × Int)} {f : Int × Int → Int} {k : Int} {wl a n b : Option V} (hp : H p = some (.tup [.str "meet", y, z, .ref qa])) (hqa : H qa = some (.tup (rs.map V.ref)))
    (hpr : Paired (fun (r : Addr) (p : Int × Int) => H r = some (.tup [.int p.1, .int p.2])) rs ps) (hl : ps.length ≤ 1000) (hk : ∀ p : Int × Int, atI [V.int p.1, V.int p.2] k = some (V.int (f p))) :
    EvL (tLc (iTup K (tOp (rIxT K) (tVar 0) (tC (.int 3)))) (gName 5) tYes (tOp (rIxT K) (tVar 5) (tC (.int k))) [5]) [some (.ref p), wl, a, n, b, none] H ((ps.map f).map V.int) := by
  have hE : EvL (tLc (iTup K (tOp (rIxT K) (tVar 0) (tC (.int 3)))) (gName 5) tYes (tOp (rIxT K) (tVar 5) (tC (.int k))) [5]) [some (.ref p), wl, a, n, b, none] H ((List.range (rs.map V.ref).length).map fun i => .int ((ps[i]?.map f).getD 0)) :=
    el_lcT (xs := rs.map V.ref) (fun i => .int ((ps[i]?.map f).getD 0)) (ev_op (ev_var rfl) ev_c (rv_ixT (st_of hp) rfl)) (st_of hqa) (by rw [List.length_map, pairs_len hpr]; exact hl) (fun _ => rfl) (fun i x H1 e1 hx => by
      obtain ⟨r, p', rfl, hpi, hr⟩ := pairs_at (L2.Paired.mapP hpr fun _ _ z => e1 _ _ z) i x hx
      rw [hpi]
      exact ev_op (ev_var rfl) ev_c (rv_ixT (st_of hr) (hk p')))
  rwa [List.length_map, pairs_len hpr, map_range_at] at hE
theorem no_word {o : Str} (hn : o ∉ nine) : (!inV (.str o) [.str "within", .str "columns", .str "once", .str "sums", .str "reach", .str "both", .str "less", .str "meet"]) = true := by
  have h : inV (.str o) [.str "within", .str "columns", .str "once", .str "sums", .str "reach", .str "both", .str "less", .str "meet"] = false := by
    refine List.any_eq_false.mpr fun y hy => ?_
    simp only [List.mem_cons, List.not_mem_nil, or_false] at hy
    rcases hy with rfl | rfl | rfl | rfl | rfl | rfl | rfl | rfl <;> exact fun e => hn (by rw [← eq_of_beq (show (_ == o) = true from e)]; decide)
  rw [h]
  rfl
def spWide (N : Nat) : Sp := fun vs H Q _ => ∃ (x : V) (wl : Addr) (v : View) (ws : List Int), vs = [x, .ref wl] ∧ VOk N v ∧ VAt H v x ∧ H wl = some (.lst (ws.map V.int)) ∧ (∀ c ∈ ws, 1 ≤ c ∧ c ≤ 6) ∧ ∀ H', Ex H H' → Q (optV (widthOf ws v)) H'
theorem ok_wide {f f1 f2 : Addr} {fd fd1 fd2 : FuncData} (Awide : FnAt K mg "_law_wide" sL_wide PL_wide f fd) (Athere : FnAt K mg "_law_there" sL_there PL_there f1 fd1) (Awo : FnAt K mg "_law_wide_one" sL_wide_one PL_wide_one f2 fd2) (B : Bt mg) :
    ∀ N : Nat, FnOk P w K mg base CX0 (N + 3) f fd PL_wide (spWide N)
  | 0 => by
    refine Awide.F.ok scL_wide (fun vs H Q E h => ?_) (fun cdv A' outer s H vs Q E hr h => ?_)
    · obtain ⟨_, _, _, _, _, h, _⟩ := h
      exact h.elim
    · obtain ⟨_, _, _, _, _, h, _⟩ := h
      exact h.elim
  | N + 1 => by
    have Gwide := ok_wide Awide Athere Awo B N
    refine Awide.F.ok scL_wide (fun vs H Q E h => ?_) (fun cdv A' outer s H vs Q E hr h => ?_)
    · obtain ⟨_, _, _, _, rfl, _⟩ := h
      rfl
    obtain ⟨x, wl, v, ws, rfl, hok, hv, hwl, hws, q⟩ := h
    have hr1 : Room 1 _ := hr.mono (by omega)
    have hr2 : Room 2 _ := hr.mono (by omega)
    have hrW : Room (N + 3) _ := hr.mono (by omega)
    have Gthere : FnOk P w K mg base CX0 1 f1 fd1 PL_there (spThere K) := ok_there Athere B
    have Gwo : FnOk P w K mg base CX0 2 f2 fd2 PL_wide_one spWideOne := ok_wide_one (k := 0) Awo Athere B
    refine ⟨_, (pss_cons (ps_if (pt_cmpR op_eq (pe_ix ix_tup (pv 0) pe_int (fun _ _ => rfl)) pe_str (nomark _)) (pss_one (ps_ret (pe_ifExp (pt_chain op_le op_lt pe_int (pe_ix ix_tup (pv 0) pe_int (fun _ _ => rfl)) (pe_callB call_len_seq (by rfl) B.len (by decide +kernel) (pa_cons (pv 1) pa_nil))) (pe_ix ix_list (pv 1) (pe_ix ix_tup (pv 0) pe_int (fun _ _ => rfl)) (fun _ _ => rfl)) pe_non))) pss_nil)
  (pss_cons (ps_if (pt_cmpR op_notIn_seq (pe_ix ix_tup (pv 0) pe_int (fun _ _ => rfl)) (pe_tup (pa_cons pe_str (pa_cons pe_str (pa_cons pe_str (pa_cons pe_str (pa_cons pe_str (pa_cons pe_str (pa_cons pe_str (pa_cons pe_str pa_nil))))))))) (by rfl)) (pss_one (ps_ret pe_non)) pss_nil)
  (pss_cons (ps_set (i := 2) scL_wide.nd rfl (.inl rfl) (pe_call Gwide hrW (by rfl) Awide.g Awide.F.kp Awide.b .nil pass0 (pa_cons (pe_ix ix_tup (pv 0) pe_int (fun _ _ => rfl)) (pa_cons (pv 1) pa_nil))))
  (pss_cons (ps_if (pt_cmpR op_isN (pv 2) pe_non (nomark _)) (pss_one (ps_ret pe_non)) pss_nil)
  (pss_cons (ps_set (i := 3) scL_wide.nd rfl (.inl rfl) pe_non)
  (pss_cons (ps_if (pt_cmpR op_in_seq (pe_ix ix_tup (pv 0) pe_int (fun _ _ => rfl)) (pe_tup (pa_cons pe_str (pa_cons pe_str (pa_cons pe_str pa_nil)))) (by rfl)) (pss_cons (ps_set (i := 4) scL_wide.nd rfl (.inl rfl) (pe_call Gwide hrW (by rfl) Awide.g Awide.F.kp Awide.b .nil pass0 (pa_cons (pe_ix ix_tup (pv 0) pe_int (fun _ _ => rfl)) (pa_cons (pv 1) pa_nil))))
  (pss_cons (ps_if (pt_cmpR op_isN (pv 4) pe_non (nomark _)) (pss_one (ps_ret pe_non)) pss_nil)
  (pss_one (ps_if (pt_cmpR op_ne (pe_ix ix_tup (pv 0) pe_int (fun _ _ => rfl)) pe_str (nomark _)) (pss_one (ps_set (i := 3) scL_wide.nd rfl (.inl rfl) (pe_ifExp (pt_cmpR op_eq (pv 2) (pv 4) (nomark _)) (pv 2) pe_non))) (pss_one (ps_if (PW.pt (pw_and (pt_val (pe_call Gthere hr1 (by rfl) Athere.g Athere.F.kp Athere.b .nil pass0 (pa_cons (pe_lc (own := [("_law_pair", 5)]) (g := gName 5) (tt := tYes) rfl scL_wide.nd (pi_tup (pe_ix ix_tup (pv 0) pe_int (fun _ _ => rfl))) (blkOk_by (N := NL_wide) (sc := defScope sL_wide) (by decide +kernel)) (fun _ _ _ _ _ => pg_name (i := 5) scL_wide.nd rfl (.inl rfl)) (fun _ _ _ _ _ => pts_nil) (fun _ _ _ _ _ => (pe_ix (r := rIxT K) ix_tup (pv 5) pe_int (fun _ _ => rfl)))) (pa_cons (pv 2) pa_nil)))) (pw_and1 (pt_val (pe_call Gthere hr1 (by rfl) Athere.g Athere.F.kp Athere.b .nil pass0 (pa_cons (pe_lc (own := [("_law_pair", 5)]) (g := gName 5) (tt := tYes) rfl scL_wide.nd (pi_tup (pe_ix ix_tup (pv 0) pe_int (fun _ _ => rfl))) (blkOk_by (N := NL_wide) (sc := defScope sL_wide) (by decide +kernel)) (fun _ _ _ _ _ => pg_name (i := 5) scL_wide.nd rfl (.inl rfl)) (fun _ _ _ _ _ => pts_nil) (fun _ _ _ _ _ => (pe_ix (r := rIxT K) ix_tup (pv 5) pe_int (fun _ _ => rfl)))) (pa_cons (pv 4) pa_nil))))))) (pss_one (ps_set (i := 3) scL_wide.nd rfl (.inl rfl) (pe_op op_add (pv 2) (pv 4)))) pss_nil)))))) (pss_one (ps_set (i := 3) scL_wide.nd rfl (.inl rfl) (pe_call Gwo hr2 (by rfl) Awo.g Awo.F.kp Awo.b .nil pass0 (pa_cons (pv 0) (pa_cons (pv 2) pa_nil))))))
  (pss_one (ps_ret (pe_ifExp (PW.pt (pw_or (pt_cmpR op_isN (pv 3) pe_non (nomark _)) (pw_or1 (pt_cmpR op_le (pv 3) pe_int (nomark _))))) (pv 3) pe_non))))))))), ?_⟩
    cases v with
    | table t =>
      obtain ⟨p, rfl, hp⟩ := hv
      have q' := q H (Ex.refl H)
      (repeat (first | (refine ⟨_, _, _, _, rfl, rfl, st_of hp, rfl, ?_⟩) | (refine ⟨_, rfl, ?_⟩) | (refine ⟨_, _, rfl, rfl, ?_⟩) | (refine ⟨⟨by decide, by decide⟩, ?_⟩) | (refine ⟨(by show (0 : Int) < _; decide), ?_⟩) | (refine ⟨rfl, ?_⟩) | (refine ⟨(by show _ ≠ (0 : Int); omega), ?_⟩) | (refine ⟨.inl ⟨by decide, by decide⟩, ?_⟩) | (refine ⟨(by assumption : CDivN _ _), ?_⟩) | (refine ite_y (by decide) ?_) | (refine ite_n (by decide) ?_) | (refine ite_y rfl ?_) | (refine ite_n Bool.false_ne_true ?_)))
      have none' : ¬ (0 ≤ t ∧ t < ws.length) → widthOf ws (.table t) = none := fun h => if_neg h
      refine ite2 (fun hd => ?_) (fun hd => ?_)
      · refine ⟨_, rfl, wl, ws.map V.int, rfl, .inl (sq_of hwl), ?_⟩
        rw [List.length_map]
        (repeat (first | (refine ⟨_, _, _, _, rfl, rfl, st_of hp, rfl, ?_⟩) | (refine ⟨_, rfl, ?_⟩) | (refine ⟨_, _, rfl, rfl, ?_⟩) | (refine ⟨⟨by decide, by decide⟩, ?_⟩) | (refine ⟨(by show (0 : Int) < _; decide), ?_⟩) | (refine ⟨rfl, ?_⟩) | (refine ⟨(by show _ ≠ (0 : Int); omega), ?_⟩) | (refine ⟨.inl ⟨by decide, by decide⟩, ?_⟩) | (refine ⟨(by assumption : CDivN _ _), ?_⟩) | (refine ite_y (by decide) ?_) | (refine ite_n (by decide) ?_) | (refine ite_y rfl ?_) | (refine ite_n Bool.false_ne_true ?_)))
        refine ite2 (fun hd2 => ?_) (fun hd2 => ?_)
        · have h0 : 0 ≤ t := of_decide_eq_true hd
          have h1 : t < ws.length := of_decide_eq_true hd2
          have hlt : t.toNat < ws.length := by omega
          (repeat (first | (refine ⟨_, _, _, _, rfl, rfl, st_of hp, rfl, ?_⟩) | (refine ⟨_, rfl, ?_⟩) | (refine ⟨_, _, rfl, rfl, ?_⟩) | (refine ⟨⟨by decide, by decide⟩, ?_⟩) | (refine ⟨(by show (0 : Int) < _; decide), ?_⟩) | (refine ⟨rfl, ?_⟩) | (refine ⟨(by show _ ≠ (0 : Int); omega), ?_⟩) | (refine ⟨.inl ⟨by decide, by decide⟩, ?_⟩) | (refine ⟨(by assumption : CDivN _ _), ?_⟩) | (refine ite_y (by decide) ?_) | (refine ite_n (by decide) ?_) | (refine ite_y rfl ?_) | (refine ite_n Bool.false_ne_true ?_)))
          have hat := atI_nat (xs := ws.map V.int) (j := t.toNat) (v := V.int ws[t.toNat]) (by rw [List.getElem?_map, List.getElem?_eq_getElem hlt]; rfl)
          rw [show ((t.toNat : Nat) : Int) = t by omega] at hat
          refine ⟨wl, ws.map V.int, t, _, rfl, rfl, sq_of hwl, hat, ?_⟩
          rwa [show widthOf ws (.table t) = some ws[t.toNat] from by (show (if _ then _ else _) = _); rw [if_pos ⟨h0, h1⟩, List.getElem?_eq_getElem hlt]] at q'
        · (repeat (first | (refine ⟨_, _, _, _, rfl, rfl, st_of hp, rfl, ?_⟩) | (refine ⟨_, rfl, ?_⟩) | (refine ⟨_, _, rfl, rfl, ?_⟩) | (refine ⟨⟨by decide, by decide⟩, ?_⟩) | (refine ⟨(by show (0 : Int) < _; decide), ?_⟩) | (refine ⟨rfl, ?_⟩) | (refine ⟨(by show _ ≠ (0 : Int); omega), ?_⟩) | (refine ⟨.inl ⟨by decide, by decide⟩, ?_⟩) | (refine ⟨(by assumption : CDivN _ _), ?_⟩) | (refine ite_y (by decide) ?_) | (refine ite_n (by decide) ?_) | (refine ite_y rfl ?_) | (refine ite_n Bool.false_ne_true ?_)))
          rwa [none' fun z => hd2 (decide_eq_true z.2)] at q'
      · (repeat (first | (refine ⟨_, _, _, _, rfl, rfl, st_of hp, rfl, ?_⟩) | (refine ⟨_, rfl, ?_⟩) | (refine ⟨_, _, rfl, rfl, ?_⟩) | (refine ⟨⟨by decide, by decide⟩, ?_⟩) | (refine ⟨(by show (0 : Int) < _; decide), ?_⟩) | (refine ⟨rfl, ?_⟩) | (refine ⟨(by show _ ≠ (0 : Int); omega), ?_⟩) | (refine ⟨.inl ⟨by decide, by decide⟩, ?_⟩) | (refine ⟨(by assumption : CDivN _ _), ?_⟩) | (refine ite_y (by decide) ?_) | (refine ite_n (by decide) ?_) | (refine ite_y rfl ?_) | (refine ite_n Bool.false_ne_true ?_)))
        rwa [none' fun z => hd (decide_eq_true z.1)] at q'
    | odd o v1 v2 =>
      obtain ⟨p, y, z, rfl, hp, _, _, h4⟩ := hv
      have hn := four_nine h4
      (repeat (first | (refine ⟨_, _, _, _, rfl, rfl, st_of hp, rfl, ?_⟩) | (refine ⟨_, rfl, ?_⟩) | (refine ⟨_, _, rfl, rfl, ?_⟩) | (refine ⟨⟨by decide, by decide⟩, ?_⟩) | (refine ⟨(by show (0 : Int) < _; decide), ?_⟩) | (refine ⟨rfl, ?_⟩) | (refine ⟨(by show _ ≠ (0 : Int); omega), ?_⟩) | (refine ⟨.inl ⟨by decide, by decide⟩, ?_⟩) | (refine ⟨(by assumption : CDivN _ _), ?_⟩) | (refine ite_y (by decide) ?_) | (refine ite_n (by decide) ?_) | (refine ite_y rfl ?_) | (refine ite_n Bool.false_ne_true ?_)))
      refine ite_n (fun h => hn (by rw [V.str.inj (of_decide_eq_true h)]; decide)) ?_
      (repeat (first | (refine ⟨_, _, _, _, rfl, rfl, st_of hp, rfl, ?_⟩) | (refine ⟨_, rfl, ?_⟩) | (refine ⟨_, _, rfl, rfl, ?_⟩) | (refine ⟨⟨by decide, by decide⟩, ?_⟩) | (refine ⟨(by show (0 : Int) < _; decide), ?_⟩) | (refine ⟨rfl, ?_⟩) | (refine ⟨(by show _ ≠ (0 : Int); omega), ?_⟩) | (refine ⟨.inl ⟨by decide, by decide⟩, ?_⟩) | (refine ⟨(by assumption : CDivN _ _), ?_⟩) | (refine ite_y (by decide) ?_) | (refine ite_n (by decide) ?_) | (refine ite_y rfl ?_) | (refine ite_n Bool.false_ne_true ?_)))
      refine ⟨by show 8 ≤ sizeLine; decide, fun l hl => ⟨l, _, rfl, .inr (st_of upd_same), rfl, rfl, ?_⟩⟩
      have e1 := Ex.new (o := .tup [.str "within", .str "columns", .str "once", .str "sums", .str "reach", .str "both", .str "less", .str "meet"]) hl
      have q' := q _ e1
      have hin : (!inV (.str o) [.str "within", .str "columns", .str "once", .str "sums", .str "reach", .str "both", .str "less", .str "meet"]) = true := no_word hn
      refine ⟨_, rfl, ?_⟩
      refine ite_y hin ?_
      (repeat (first | (refine ⟨_, _, _, _, rfl, rfl, st_of hp, rfl, ?_⟩) | (refine ⟨_, rfl, ?_⟩) | (refine ⟨_, _, rfl, rfl, ?_⟩) | (refine ⟨⟨by decide, by decide⟩, ?_⟩) | (refine ⟨(by show (0 : Int) < _; decide), ?_⟩) | (refine ⟨rfl, ?_⟩) | (refine ⟨(by show _ ≠ (0 : Int); omega), ?_⟩) | (refine ⟨.inl ⟨by decide, by decide⟩, ?_⟩) | (refine ⟨(by assumption : CDivN _ _), ?_⟩) | (refine ite_y (by decide) ?_) | (refine ite_n (by decide) ?_) | (refine ite_y rfl ?_) | (refine ite_n Bool.false_ne_true ?_)))
      exact q'
    | within v1 c lo hi =>
      have hv0 := hv
      obtain ⟨p, y, rfl, hp, hy, _⟩ := hv
      (repeat (first | (refine ⟨_, _, _, _, rfl, rfl, st_of hp, rfl, ?_⟩) | (refine ⟨_, rfl, ?_⟩) | (refine ⟨_, _, rfl, rfl, ?_⟩) | (refine ⟨⟨by decide, by decide⟩, ?_⟩) | (refine ⟨(by show (0 : Int) < _; decide), ?_⟩) | (refine ⟨rfl, ?_⟩) | (refine ⟨(by show _ ≠ (0 : Int); omega), ?_⟩) | (refine ⟨.inl ⟨by decide, by decide⟩, ?_⟩) | (refine ⟨(by assumption : CDivN _ _), ?_⟩) | (refine ite_y (by decide) ?_) | (refine ite_n (by decide) ?_) | (refine ite_y rfl ?_) | (refine ite_n Bool.false_ne_true ?_)))
      refine ⟨by show 8 ≤ sizeLine; decide, fun l hl => ⟨l, _, rfl, .inr (st_of upd_same), rfl, rfl, ?_⟩⟩
      have e1 := Ex.new (o := .tup [.str "within", .str "columns", .str "once", .str "sums", .str "reach", .str "both", .str "less", .str "meet"]) hl
      have hp := e1 _ _ hp
      (repeat (first | (refine ⟨_, _, _, _, rfl, rfl, st_of hp, rfl, ?_⟩) | (refine ⟨_, rfl, ?_⟩) | (refine ⟨_, _, rfl, rfl, ?_⟩) | (refine ⟨⟨by decide, by decide⟩, ?_⟩) | (refine ⟨(by show (0 : Int) < _; decide), ?_⟩) | (refine ⟨rfl, ?_⟩) | (refine ⟨(by show _ ≠ (0 : Int); omega), ?_⟩) | (refine ⟨.inl ⟨by decide, by decide⟩, ?_⟩) | (refine ⟨(by assumption : CDivN _ _), ?_⟩) | (refine ite_y (by decide) ?_) | (refine ite_n (by decide) ?_) | (refine ite_y rfl ?_) | (refine ite_n Bool.false_ne_true ?_)))
      refine ⟨y, wl, v1, ws, rfl, hok, VAt.pers _ _ _ _ e1 hy, e1 _ _ hwl, hws, fun H2 e2 => ?_⟩
      have e02 := e1.trans e2
      have hp := e2 _ _ hp
      cases ho : widthOf ws v1 with
      | none =>
        (repeat (first | (refine ⟨_, _, _, _, rfl, rfl, st_of hp, rfl, ?_⟩) | (refine ⟨_, rfl, ?_⟩) | (refine ⟨_, _, rfl, rfl, ?_⟩) | (refine ⟨⟨by decide, by decide⟩, ?_⟩) | (refine ⟨(by show (0 : Int) < _; decide), ?_⟩) | (refine ⟨rfl, ?_⟩) | (refine ⟨(by show _ ≠ (0 : Int); omega), ?_⟩) | (refine ⟨.inl ⟨by decide, by decide⟩, ?_⟩) | (refine ⟨(by assumption : CDivN _ _), ?_⟩) | (refine ite_y (by decide) ?_) | (refine ite_n (by decide) ?_) | (refine ite_y rfl ?_) | (refine ite_n Bool.false_ne_true ?_)))
        have q' := q H2 e02
        rwa [wide_one_cap hws rfl, show widthOf ws (kid ((.within v1 c lo hi))) = none from ho] at q'
      | some a =>
        (repeat (first | (refine ⟨_, _, _, _, rfl, rfl, st_of hp, rfl, ?_⟩) | (refine ⟨_, rfl, ?_⟩) | (refine ⟨_, _, rfl, rfl, ?_⟩) | (refine ⟨⟨by decide, by decide⟩, ?_⟩) | (refine ⟨(by show (0 : Int) < _; decide), ?_⟩) | (refine ⟨rfl, ?_⟩) | (refine ⟨(by show _ ≠ (0 : Int); omega), ?_⟩) | (refine ⟨.inl ⟨by decide, by decide⟩, ?_⟩) | (refine ⟨(by assumption : CDivN _ _), ?_⟩) | (refine ite_y (by decide) ?_) | (refine ite_n (by decide) ?_) | (refine ite_y rfl ?_) | (refine ite_n Bool.false_ne_true ?_)))
        refine ⟨by show 3 ≤ sizeLine; decide, fun l2 hl2 => ⟨l2, _, rfl, .inr (st_of upd_same), rfl, rfl, ?_⟩⟩
        have e3 := Ex.new (o := .tup [.str "both", .str "less", .str "meet"]) hl2
        have hp := e3 _ _ hp
        have e03 := e02.trans e3
        (repeat (first | (refine ⟨_, _, _, _, rfl, rfl, st_of hp, rfl, ?_⟩) | (refine ⟨_, rfl, ?_⟩) | (refine ⟨_, _, rfl, rfl, ?_⟩) | (refine ⟨⟨by decide, by decide⟩, ?_⟩) | (refine ⟨(by show (0 : Int) < _; decide), ?_⟩) | (refine ⟨rfl, ?_⟩) | (refine ⟨(by show _ ≠ (0 : Int); omega), ?_⟩) | (refine ⟨.inl ⟨by decide, by decide⟩, ?_⟩) | (refine ⟨(by assumption : CDivN _ _), ?_⟩) | (refine ite_y (by decide) ?_) | (refine ite_n (by decide) ?_) | (refine ite_y rfl ?_) | (refine ite_n Bool.false_ne_true ?_)))
        refine ⟨.ref p, a, (.within v1 c lo hi), N + 1, rfl, rfl, hok, VAt.pers _ _ _ _ e03 hv0, fun H4 e4 => ?_⟩
        have q' := q H4 (e03.trans e4)
        rw [wide_one_cap hws rfl, show widthOf ws (kid (.within v1 c lo hi)) = some a from ho] at q'
        have q2 : Q (optV (cap4 (afterOne a (.within v1 c lo hi)))) H4 := q'
        clear q'
        cases hz : afterOne a (.within v1 c lo hi) with
        | none =>
          (repeat (first | (refine ⟨_, _, _, _, rfl, rfl, st_of hp, rfl, ?_⟩) | (refine ⟨_, rfl, ?_⟩) | (refine ⟨_, _, rfl, rfl, ?_⟩) | (refine ⟨⟨by decide, by decide⟩, ?_⟩) | (refine ⟨(by show (0 : Int) < _; decide), ?_⟩) | (refine ⟨rfl, ?_⟩) | (refine ⟨(by show _ ≠ (0 : Int); omega), ?_⟩) | (refine ⟨.inl ⟨by decide, by decide⟩, ?_⟩) | (refine ⟨(by assumption : CDivN _ _), ?_⟩) | (refine ite_y (by decide) ?_) | (refine ite_n (by decide) ?_) | (refine ite_y rfl ?_) | (refine ite_n Bool.false_ne_true ?_)))
          rw [hz] at q2
          exact q2
        | some z =>
          (repeat (first | (refine ⟨_, _, _, _, rfl, rfl, st_of hp, rfl, ?_⟩) | (refine ⟨_, rfl, ?_⟩) | (refine ⟨_, _, rfl, rfl, ?_⟩) | (refine ⟨⟨by decide, by decide⟩, ?_⟩) | (refine ⟨(by show (0 : Int) < _; decide), ?_⟩) | (refine ⟨rfl, ?_⟩) | (refine ⟨(by show _ ≠ (0 : Int); omega), ?_⟩) | (refine ⟨.inl ⟨by decide, by decide⟩, ?_⟩) | (refine ⟨(by assumption : CDivN _ _), ?_⟩) | (refine ite_y (by decide) ?_) | (refine ite_n (by decide) ?_) | (refine ite_y rfl ?_) | (refine ite_n Bool.false_ne_true ?_)))
          rw [hz] at q2
          refine ite2 (fun hd => ?_) (fun hd => ?_)
          · (repeat (first | (refine ⟨_, _, _, _, rfl, rfl, st_of hp, rfl, ?_⟩) | (refine ⟨_, rfl, ?_⟩) | (refine ⟨_, _, rfl, rfl, ?_⟩) | (refine ⟨⟨by decide, by decide⟩, ?_⟩) | (refine ⟨(by show (0 : Int) < _; decide), ?_⟩) | (refine ⟨rfl, ?_⟩) | (refine ⟨(by show _ ≠ (0 : Int); omega), ?_⟩) | (refine ⟨.inl ⟨by decide, by decide⟩, ?_⟩) | (refine ⟨(by assumption : CDivN _ _), ?_⟩) | (refine ite_y (by decide) ?_) | (refine ite_n (by decide) ?_) | (refine ite_y rfl ?_) | (refine ite_n Bool.false_ne_true ?_)))
            rwa [show cap4 (some z) = some z from if_pos (of_decide_eq_true hd)] at q2
          · (repeat (first | (refine ⟨_, _, _, _, rfl, rfl, st_of hp, rfl, ?_⟩) | (refine ⟨_, rfl, ?_⟩) | (refine ⟨_, _, rfl, rfl, ?_⟩) | (refine ⟨⟨by decide, by decide⟩, ?_⟩) | (refine ⟨(by show (0 : Int) < _; decide), ?_⟩) | (refine ⟨rfl, ?_⟩) | (refine ⟨(by show _ ≠ (0 : Int); omega), ?_⟩) | (refine ⟨.inl ⟨by decide, by decide⟩, ?_⟩) | (refine ⟨(by assumption : CDivN _ _), ?_⟩) | (refine ite_y (by decide) ?_) | (refine ite_n (by decide) ?_) | (refine ite_y rfl ?_) | (refine ite_n Bool.false_ne_true ?_)))
            rwa [show cap4 (some z) = none from if_neg fun h => hd (decide_eq_true h)] at q2
    | columns v1 cs =>
      have hv0 := hv
      obtain ⟨p, y, qa, rfl, hp, hy, hq⟩ := hv
      (repeat (first | (refine ⟨_, _, _, _, rfl, rfl, st_of hp, rfl, ?_⟩) | (refine ⟨_, rfl, ?_⟩) | (refine ⟨_, _, rfl, rfl, ?_⟩) | (refine ⟨⟨by decide, by decide⟩, ?_⟩) | (refine ⟨(by show (0 : Int) < _; decide), ?_⟩) | (refine ⟨rfl, ?_⟩) | (refine ⟨(by show _ ≠ (0 : Int); omega), ?_⟩) | (refine ⟨.inl ⟨by decide, by decide⟩, ?_⟩) | (refine ⟨(by assumption : CDivN _ _), ?_⟩) | (refine ite_y (by decide) ?_) | (refine ite_n (by decide) ?_) | (refine ite_y rfl ?_) | (refine ite_n Bool.false_ne_true ?_)))
      refine ⟨by show 8 ≤ sizeLine; decide, fun l hl => ⟨l, _, rfl, .inr (st_of upd_same), rfl, rfl, ?_⟩⟩
      have e1 := Ex.new (o := .tup [.str "within", .str "columns", .str "once", .str "sums", .str "reach", .str "both", .str "less", .str "meet"]) hl
      have hp := e1 _ _ hp
      (repeat (first | (refine ⟨_, _, _, _, rfl, rfl, st_of hp, rfl, ?_⟩) | (refine ⟨_, rfl, ?_⟩) | (refine ⟨_, _, rfl, rfl, ?_⟩) | (refine ⟨⟨by decide, by decide⟩, ?_⟩) | (refine ⟨(by show (0 : Int) < _; decide), ?_⟩) | (refine ⟨rfl, ?_⟩) | (refine ⟨(by show _ ≠ (0 : Int); omega), ?_⟩) | (refine ⟨.inl ⟨by decide, by decide⟩, ?_⟩) | (refine ⟨(by assumption : CDivN _ _), ?_⟩) | (refine ite_y (by decide) ?_) | (refine ite_n (by decide) ?_) | (refine ite_y rfl ?_) | (refine ite_n Bool.false_ne_true ?_)))
      refine ⟨y, wl, v1, ws, rfl, hok.1, VAt.pers _ _ _ _ e1 hy, e1 _ _ hwl, hws, fun H2 e2 => ?_⟩
      have e02 := e1.trans e2
      have hp := e2 _ _ hp
      cases ho : widthOf ws v1 with
      | none =>
        (repeat (first | (refine ⟨_, _, _, _, rfl, rfl, st_of hp, rfl, ?_⟩) | (refine ⟨_, rfl, ?_⟩) | (refine ⟨_, _, rfl, rfl, ?_⟩) | (refine ⟨⟨by decide, by decide⟩, ?_⟩) | (refine ⟨(by show (0 : Int) < _; decide), ?_⟩) | (refine ⟨rfl, ?_⟩) | (refine ⟨(by show _ ≠ (0 : Int); omega), ?_⟩) | (refine ⟨.inl ⟨by decide, by decide⟩, ?_⟩) | (refine ⟨(by assumption : CDivN _ _), ?_⟩) | (refine ite_y (by decide) ?_) | (refine ite_n (by decide) ?_) | (refine ite_y rfl ?_) | (refine ite_n Bool.false_ne_true ?_)))
        have q' := q H2 e02
        rwa [wide_one_cap hws rfl, show widthOf ws (kid ((.columns v1 cs))) = none from ho] at q'
      | some a =>
        (repeat (first | (refine ⟨_, _, _, _, rfl, rfl, st_of hp, rfl, ?_⟩) | (refine ⟨_, rfl, ?_⟩) | (refine ⟨_, _, rfl, rfl, ?_⟩) | (refine ⟨⟨by decide, by decide⟩, ?_⟩) | (refine ⟨(by show (0 : Int) < _; decide), ?_⟩) | (refine ⟨rfl, ?_⟩) | (refine ⟨(by show _ ≠ (0 : Int); omega), ?_⟩) | (refine ⟨.inl ⟨by decide, by decide⟩, ?_⟩) | (refine ⟨(by assumption : CDivN _ _), ?_⟩) | (refine ite_y (by decide) ?_) | (refine ite_n (by decide) ?_) | (refine ite_y rfl ?_) | (refine ite_n Bool.false_ne_true ?_)))
        refine ⟨by show 3 ≤ sizeLine; decide, fun l2 hl2 => ⟨l2, _, rfl, .inr (st_of upd_same), rfl, rfl, ?_⟩⟩
        have e3 := Ex.new (o := .tup [.str "both", .str "less", .str "meet"]) hl2
        have hp := e3 _ _ hp
        have e03 := e02.trans e3
        (repeat (first | (refine ⟨_, _, _, _, rfl, rfl, st_of hp, rfl, ?_⟩) | (refine ⟨_, rfl, ?_⟩) | (refine ⟨_, _, rfl, rfl, ?_⟩) | (refine ⟨⟨by decide, by decide⟩, ?_⟩) | (refine ⟨(by show (0 : Int) < _; decide), ?_⟩) | (refine ⟨rfl, ?_⟩) | (refine ⟨(by show _ ≠ (0 : Int); omega), ?_⟩) | (refine ⟨.inl ⟨by decide, by decide⟩, ?_⟩) | (refine ⟨(by assumption : CDivN _ _), ?_⟩) | (refine ite_y (by decide) ?_) | (refine ite_n (by decide) ?_) | (refine ite_y rfl ?_) | (refine ite_n Bool.false_ne_true ?_)))
        refine ⟨.ref p, a, (.columns v1 cs), N + 1, rfl, rfl, hok, VAt.pers _ _ _ _ e03 hv0, fun H4 e4 => ?_⟩
        have q' := q H4 (e03.trans e4)
        rw [wide_one_cap hws rfl, show widthOf ws (kid (.columns v1 cs)) = some a from ho] at q'
        have q2 : Q (optV (cap4 (afterOne a (.columns v1 cs)))) H4 := q'
        clear q'
        cases hz : afterOne a (.columns v1 cs) with
        | none =>
          (repeat (first | (refine ⟨_, _, _, _, rfl, rfl, st_of hp, rfl, ?_⟩) | (refine ⟨_, rfl, ?_⟩) | (refine ⟨_, _, rfl, rfl, ?_⟩) | (refine ⟨⟨by decide, by decide⟩, ?_⟩) | (refine ⟨(by show (0 : Int) < _; decide), ?_⟩) | (refine ⟨rfl, ?_⟩) | (refine ⟨(by show _ ≠ (0 : Int); omega), ?_⟩) | (refine ⟨.inl ⟨by decide, by decide⟩, ?_⟩) | (refine ⟨(by assumption : CDivN _ _), ?_⟩) | (refine ite_y (by decide) ?_) | (refine ite_n (by decide) ?_) | (refine ite_y rfl ?_) | (refine ite_n Bool.false_ne_true ?_)))
          rw [hz] at q2
          exact q2
        | some z =>
          (repeat (first | (refine ⟨_, _, _, _, rfl, rfl, st_of hp, rfl, ?_⟩) | (refine ⟨_, rfl, ?_⟩) | (refine ⟨_, _, rfl, rfl, ?_⟩) | (refine ⟨⟨by decide, by decide⟩, ?_⟩) | (refine ⟨(by show (0 : Int) < _; decide), ?_⟩) | (refine ⟨rfl, ?_⟩) | (refine ⟨(by show _ ≠ (0 : Int); omega), ?_⟩) | (refine ⟨.inl ⟨by decide, by decide⟩, ?_⟩) | (refine ⟨(by assumption : CDivN _ _), ?_⟩) | (refine ite_y (by decide) ?_) | (refine ite_n (by decide) ?_) | (refine ite_y rfl ?_) | (refine ite_n Bool.false_ne_true ?_)))
          rw [hz] at q2
          refine ite2 (fun hd => ?_) (fun hd => ?_)
          · (repeat (first | (refine ⟨_, _, _, _, rfl, rfl, st_of hp, rfl, ?_⟩) | (refine ⟨_, rfl, ?_⟩) | (refine ⟨_, _, rfl, rfl, ?_⟩) | (refine ⟨⟨by decide, by decide⟩, ?_⟩) | (refine ⟨(by show (0 : Int) < _; decide), ?_⟩) | (refine ⟨rfl, ?_⟩) | (refine ⟨(by show _ ≠ (0 : Int); omega), ?_⟩) | (refine ⟨.inl ⟨by decide, by decide⟩, ?_⟩) | (refine ⟨(by assumption : CDivN _ _), ?_⟩) | (refine ite_y (by decide) ?_) | (refine ite_n (by decide) ?_) | (refine ite_y rfl ?_) | (refine ite_n Bool.false_ne_true ?_)))
            rwa [show cap4 (some z) = some z from if_pos (of_decide_eq_true hd)] at q2
          · (repeat (first | (refine ⟨_, _, _, _, rfl, rfl, st_of hp, rfl, ?_⟩) | (refine ⟨_, rfl, ?_⟩) | (refine ⟨_, _, rfl, rfl, ?_⟩) | (refine ⟨⟨by decide, by decide⟩, ?_⟩) | (refine ⟨(by show (0 : Int) < _; decide), ?_⟩) | (refine ⟨rfl, ?_⟩) | (refine ⟨(by show _ ≠ (0 : Int); omega), ?_⟩) | (refine ⟨.inl ⟨by decide, by decide⟩, ?_⟩) | (refine ⟨(by assumption : CDivN _ _), ?_⟩) | (refine ite_y (by decide) ?_) | (refine ite_n (by decide) ?_) | (refine ite_y rfl ?_) | (refine ite_n Bool.false_ne_true ?_)))
            rwa [show cap4 (some z) = none from if_neg fun h => hd (decide_eq_true h)] at q2
    | once v1 =>
      have hv0 := hv
      obtain ⟨p, y, rfl, hp, hy⟩ := hv
      (repeat (first | (refine ⟨_, _, _, _, rfl, rfl, st_of hp, rfl, ?_⟩) | (refine ⟨_, rfl, ?_⟩) | (refine ⟨_, _, rfl, rfl, ?_⟩) | (refine ⟨⟨by decide, by decide⟩, ?_⟩) | (refine ⟨(by show (0 : Int) < _; decide), ?_⟩) | (refine ⟨rfl, ?_⟩) | (refine ⟨(by show _ ≠ (0 : Int); omega), ?_⟩) | (refine ⟨.inl ⟨by decide, by decide⟩, ?_⟩) | (refine ⟨(by assumption : CDivN _ _), ?_⟩) | (refine ite_y (by decide) ?_) | (refine ite_n (by decide) ?_) | (refine ite_y rfl ?_) | (refine ite_n Bool.false_ne_true ?_)))
      refine ⟨by show 8 ≤ sizeLine; decide, fun l hl => ⟨l, _, rfl, .inr (st_of upd_same), rfl, rfl, ?_⟩⟩
      have e1 := Ex.new (o := .tup [.str "within", .str "columns", .str "once", .str "sums", .str "reach", .str "both", .str "less", .str "meet"]) hl
      have hp := e1 _ _ hp
      (repeat (first | (refine ⟨_, _, _, _, rfl, rfl, st_of hp, rfl, ?_⟩) | (refine ⟨_, rfl, ?_⟩) | (refine ⟨_, _, rfl, rfl, ?_⟩) | (refine ⟨⟨by decide, by decide⟩, ?_⟩) | (refine ⟨(by show (0 : Int) < _; decide), ?_⟩) | (refine ⟨rfl, ?_⟩) | (refine ⟨(by show _ ≠ (0 : Int); omega), ?_⟩) | (refine ⟨.inl ⟨by decide, by decide⟩, ?_⟩) | (refine ⟨(by assumption : CDivN _ _), ?_⟩) | (refine ite_y (by decide) ?_) | (refine ite_n (by decide) ?_) | (refine ite_y rfl ?_) | (refine ite_n Bool.false_ne_true ?_)))
      refine ⟨y, wl, v1, ws, rfl, hok, VAt.pers _ _ _ _ e1 hy, e1 _ _ hwl, hws, fun H2 e2 => ?_⟩
      have e02 := e1.trans e2
      have hp := e2 _ _ hp
      cases ho : widthOf ws v1 with
      | none =>
        (repeat (first | (refine ⟨_, _, _, _, rfl, rfl, st_of hp, rfl, ?_⟩) | (refine ⟨_, rfl, ?_⟩) | (refine ⟨_, _, rfl, rfl, ?_⟩) | (refine ⟨⟨by decide, by decide⟩, ?_⟩) | (refine ⟨(by show (0 : Int) < _; decide), ?_⟩) | (refine ⟨rfl, ?_⟩) | (refine ⟨(by show _ ≠ (0 : Int); omega), ?_⟩) | (refine ⟨.inl ⟨by decide, by decide⟩, ?_⟩) | (refine ⟨(by assumption : CDivN _ _), ?_⟩) | (refine ite_y (by decide) ?_) | (refine ite_n (by decide) ?_) | (refine ite_y rfl ?_) | (refine ite_n Bool.false_ne_true ?_)))
        have q' := q H2 e02
        rwa [wide_one_cap hws rfl, show widthOf ws (kid ((.once v1))) = none from ho] at q'
      | some a =>
        (repeat (first | (refine ⟨_, _, _, _, rfl, rfl, st_of hp, rfl, ?_⟩) | (refine ⟨_, rfl, ?_⟩) | (refine ⟨_, _, rfl, rfl, ?_⟩) | (refine ⟨⟨by decide, by decide⟩, ?_⟩) | (refine ⟨(by show (0 : Int) < _; decide), ?_⟩) | (refine ⟨rfl, ?_⟩) | (refine ⟨(by show _ ≠ (0 : Int); omega), ?_⟩) | (refine ⟨.inl ⟨by decide, by decide⟩, ?_⟩) | (refine ⟨(by assumption : CDivN _ _), ?_⟩) | (refine ite_y (by decide) ?_) | (refine ite_n (by decide) ?_) | (refine ite_y rfl ?_) | (refine ite_n Bool.false_ne_true ?_)))
        refine ⟨by show 3 ≤ sizeLine; decide, fun l2 hl2 => ⟨l2, _, rfl, .inr (st_of upd_same), rfl, rfl, ?_⟩⟩
        have e3 := Ex.new (o := .tup [.str "both", .str "less", .str "meet"]) hl2
        have hp := e3 _ _ hp
        have e03 := e02.trans e3
        (repeat (first | (refine ⟨_, _, _, _, rfl, rfl, st_of hp, rfl, ?_⟩) | (refine ⟨_, rfl, ?_⟩) | (refine ⟨_, _, rfl, rfl, ?_⟩) | (refine ⟨⟨by decide, by decide⟩, ?_⟩) | (refine ⟨(by show (0 : Int) < _; decide), ?_⟩) | (refine ⟨rfl, ?_⟩) | (refine ⟨(by show _ ≠ (0 : Int); omega), ?_⟩) | (refine ⟨.inl ⟨by decide, by decide⟩, ?_⟩) | (refine ⟨(by assumption : CDivN _ _), ?_⟩) | (refine ite_y (by decide) ?_) | (refine ite_n (by decide) ?_) | (refine ite_y rfl ?_) | (refine ite_n Bool.false_ne_true ?_)))
        refine ⟨.ref p, a, (.once v1), N + 1, rfl, rfl, hok, VAt.pers _ _ _ _ e03 hv0, fun H4 e4 => ?_⟩
        have q' := q H4 (e03.trans e4)
        rw [wide_one_cap hws rfl, show widthOf ws (kid (.once v1)) = some a from ho] at q'
        have q2 : Q (optV (cap4 (afterOne a (.once v1)))) H4 := q'
        clear q'
        cases hz : afterOne a (.once v1) with
        | none =>
          (repeat (first | (refine ⟨_, _, _, _, rfl, rfl, st_of hp, rfl, ?_⟩) | (refine ⟨_, rfl, ?_⟩) | (refine ⟨_, _, rfl, rfl, ?_⟩) | (refine ⟨⟨by decide, by decide⟩, ?_⟩) | (refine ⟨(by show (0 : Int) < _; decide), ?_⟩) | (refine ⟨rfl, ?_⟩) | (refine ⟨(by show _ ≠ (0 : Int); omega), ?_⟩) | (refine ⟨.inl ⟨by decide, by decide⟩, ?_⟩) | (refine ⟨(by assumption : CDivN _ _), ?_⟩) | (refine ite_y (by decide) ?_) | (refine ite_n (by decide) ?_) | (refine ite_y rfl ?_) | (refine ite_n Bool.false_ne_true ?_)))
          rw [hz] at q2
          exact q2
        | some z =>
          (repeat (first | (refine ⟨_, _, _, _, rfl, rfl, st_of hp, rfl, ?_⟩) | (refine ⟨_, rfl, ?_⟩) | (refine ⟨_, _, rfl, rfl, ?_⟩) | (refine ⟨⟨by decide, by decide⟩, ?_⟩) | (refine ⟨(by show (0 : Int) < _; decide), ?_⟩) | (refine ⟨rfl, ?_⟩) | (refine ⟨(by show _ ≠ (0 : Int); omega), ?_⟩) | (refine ⟨.inl ⟨by decide, by decide⟩, ?_⟩) | (refine ⟨(by assumption : CDivN _ _), ?_⟩) | (refine ite_y (by decide) ?_) | (refine ite_n (by decide) ?_) | (refine ite_y rfl ?_) | (refine ite_n Bool.false_ne_true ?_)))
          rw [hz] at q2
          refine ite2 (fun hd => ?_) (fun hd => ?_)
          · (repeat (first | (refine ⟨_, _, _, _, rfl, rfl, st_of hp, rfl, ?_⟩) | (refine ⟨_, rfl, ?_⟩) | (refine ⟨_, _, rfl, rfl, ?_⟩) | (refine ⟨⟨by decide, by decide⟩, ?_⟩) | (refine ⟨(by show (0 : Int) < _; decide), ?_⟩) | (refine ⟨rfl, ?_⟩) | (refine ⟨(by show _ ≠ (0 : Int); omega), ?_⟩) | (refine ⟨.inl ⟨by decide, by decide⟩, ?_⟩) | (refine ⟨(by assumption : CDivN _ _), ?_⟩) | (refine ite_y (by decide) ?_) | (refine ite_n (by decide) ?_) | (refine ite_y rfl ?_) | (refine ite_n Bool.false_ne_true ?_)))
            rwa [show cap4 (some z) = some z from if_pos (of_decide_eq_true hd)] at q2
          · (repeat (first | (refine ⟨_, _, _, _, rfl, rfl, st_of hp, rfl, ?_⟩) | (refine ⟨_, rfl, ?_⟩) | (refine ⟨_, _, rfl, rfl, ?_⟩) | (refine ⟨⟨by decide, by decide⟩, ?_⟩) | (refine ⟨(by show (0 : Int) < _; decide), ?_⟩) | (refine ⟨rfl, ?_⟩) | (refine ⟨(by show _ ≠ (0 : Int); omega), ?_⟩) | (refine ⟨.inl ⟨by decide, by decide⟩, ?_⟩) | (refine ⟨(by assumption : CDivN _ _), ?_⟩) | (refine ite_y (by decide) ?_) | (refine ite_n (by decide) ?_) | (refine ite_y rfl ?_) | (refine ite_n Bool.false_ne_true ?_)))
            rwa [show cap4 (some z) = none from if_neg fun h => hd (decide_eq_true h)] at q2
    | sums v1 ks c =>
      have hv0 := hv
      obtain ⟨p, y, qa, rfl, hp, hy, hq⟩ := hv
      (repeat (first | (refine ⟨_, _, _, _, rfl, rfl, st_of hp, rfl, ?_⟩) | (refine ⟨_, rfl, ?_⟩) | (refine ⟨_, _, rfl, rfl, ?_⟩) | (refine ⟨⟨by decide, by decide⟩, ?_⟩) | (refine ⟨(by show (0 : Int) < _; decide), ?_⟩) | (refine ⟨rfl, ?_⟩) | (refine ⟨(by show _ ≠ (0 : Int); omega), ?_⟩) | (refine ⟨.inl ⟨by decide, by decide⟩, ?_⟩) | (refine ⟨(by assumption : CDivN _ _), ?_⟩) | (refine ite_y (by decide) ?_) | (refine ite_n (by decide) ?_) | (refine ite_y rfl ?_) | (refine ite_n Bool.false_ne_true ?_)))
      refine ⟨by show 8 ≤ sizeLine; decide, fun l hl => ⟨l, _, rfl, .inr (st_of upd_same), rfl, rfl, ?_⟩⟩
      have e1 := Ex.new (o := .tup [.str "within", .str "columns", .str "once", .str "sums", .str "reach", .str "both", .str "less", .str "meet"]) hl
      have hp := e1 _ _ hp
      (repeat (first | (refine ⟨_, _, _, _, rfl, rfl, st_of hp, rfl, ?_⟩) | (refine ⟨_, rfl, ?_⟩) | (refine ⟨_, _, rfl, rfl, ?_⟩) | (refine ⟨⟨by decide, by decide⟩, ?_⟩) | (refine ⟨(by show (0 : Int) < _; decide), ?_⟩) | (refine ⟨rfl, ?_⟩) | (refine ⟨(by show _ ≠ (0 : Int); omega), ?_⟩) | (refine ⟨.inl ⟨by decide, by decide⟩, ?_⟩) | (refine ⟨(by assumption : CDivN _ _), ?_⟩) | (refine ite_y (by decide) ?_) | (refine ite_n (by decide) ?_) | (refine ite_y rfl ?_) | (refine ite_n Bool.false_ne_true ?_)))
      refine ⟨y, wl, v1, ws, rfl, hok.1, VAt.pers _ _ _ _ e1 hy, e1 _ _ hwl, hws, fun H2 e2 => ?_⟩
      have e02 := e1.trans e2
      have hp := e2 _ _ hp
      cases ho : widthOf ws v1 with
      | none =>
        (repeat (first | (refine ⟨_, _, _, _, rfl, rfl, st_of hp, rfl, ?_⟩) | (refine ⟨_, rfl, ?_⟩) | (refine ⟨_, _, rfl, rfl, ?_⟩) | (refine ⟨⟨by decide, by decide⟩, ?_⟩) | (refine ⟨(by show (0 : Int) < _; decide), ?_⟩) | (refine ⟨rfl, ?_⟩) | (refine ⟨(by show _ ≠ (0 : Int); omega), ?_⟩) | (refine ⟨.inl ⟨by decide, by decide⟩, ?_⟩) | (refine ⟨(by assumption : CDivN _ _), ?_⟩) | (refine ite_y (by decide) ?_) | (refine ite_n (by decide) ?_) | (refine ite_y rfl ?_) | (refine ite_n Bool.false_ne_true ?_)))
        have q' := q H2 e02
        rwa [wide_one_cap hws rfl, show widthOf ws (kid ((.sums v1 ks c))) = none from ho] at q'
      | some a =>
        (repeat (first | (refine ⟨_, _, _, _, rfl, rfl, st_of hp, rfl, ?_⟩) | (refine ⟨_, rfl, ?_⟩) | (refine ⟨_, _, rfl, rfl, ?_⟩) | (refine ⟨⟨by decide, by decide⟩, ?_⟩) | (refine ⟨(by show (0 : Int) < _; decide), ?_⟩) | (refine ⟨rfl, ?_⟩) | (refine ⟨(by show _ ≠ (0 : Int); omega), ?_⟩) | (refine ⟨.inl ⟨by decide, by decide⟩, ?_⟩) | (refine ⟨(by assumption : CDivN _ _), ?_⟩) | (refine ite_y (by decide) ?_) | (refine ite_n (by decide) ?_) | (refine ite_y rfl ?_) | (refine ite_n Bool.false_ne_true ?_)))
        refine ⟨by show 3 ≤ sizeLine; decide, fun l2 hl2 => ⟨l2, _, rfl, .inr (st_of upd_same), rfl, rfl, ?_⟩⟩
        have e3 := Ex.new (o := .tup [.str "both", .str "less", .str "meet"]) hl2
        have hp := e3 _ _ hp
        have e03 := e02.trans e3
        (repeat (first | (refine ⟨_, _, _, _, rfl, rfl, st_of hp, rfl, ?_⟩) | (refine ⟨_, rfl, ?_⟩) | (refine ⟨_, _, rfl, rfl, ?_⟩) | (refine ⟨⟨by decide, by decide⟩, ?_⟩) | (refine ⟨(by show (0 : Int) < _; decide), ?_⟩) | (refine ⟨rfl, ?_⟩) | (refine ⟨(by show _ ≠ (0 : Int); omega), ?_⟩) | (refine ⟨.inl ⟨by decide, by decide⟩, ?_⟩) | (refine ⟨(by assumption : CDivN _ _), ?_⟩) | (refine ite_y (by decide) ?_) | (refine ite_n (by decide) ?_) | (refine ite_y rfl ?_) | (refine ite_n Bool.false_ne_true ?_)))
        refine ⟨.ref p, a, (.sums v1 ks c), N + 1, rfl, rfl, hok, VAt.pers _ _ _ _ e03 hv0, fun H4 e4 => ?_⟩
        have q' := q H4 (e03.trans e4)
        rw [wide_one_cap hws rfl, show widthOf ws (kid (.sums v1 ks c)) = some a from ho] at q'
        have q2 : Q (optV (cap4 (afterOne a (.sums v1 ks c)))) H4 := q'
        clear q'
        cases hz : afterOne a (.sums v1 ks c) with
        | none =>
          (repeat (first | (refine ⟨_, _, _, _, rfl, rfl, st_of hp, rfl, ?_⟩) | (refine ⟨_, rfl, ?_⟩) | (refine ⟨_, _, rfl, rfl, ?_⟩) | (refine ⟨⟨by decide, by decide⟩, ?_⟩) | (refine ⟨(by show (0 : Int) < _; decide), ?_⟩) | (refine ⟨rfl, ?_⟩) | (refine ⟨(by show _ ≠ (0 : Int); omega), ?_⟩) | (refine ⟨.inl ⟨by decide, by decide⟩, ?_⟩) | (refine ⟨(by assumption : CDivN _ _), ?_⟩) | (refine ite_y (by decide) ?_) | (refine ite_n (by decide) ?_) | (refine ite_y rfl ?_) | (refine ite_n Bool.false_ne_true ?_)))
          rw [hz] at q2
          exact q2
        | some z =>
          (repeat (first | (refine ⟨_, _, _, _, rfl, rfl, st_of hp, rfl, ?_⟩) | (refine ⟨_, rfl, ?_⟩) | (refine ⟨_, _, rfl, rfl, ?_⟩) | (refine ⟨⟨by decide, by decide⟩, ?_⟩) | (refine ⟨(by show (0 : Int) < _; decide), ?_⟩) | (refine ⟨rfl, ?_⟩) | (refine ⟨(by show _ ≠ (0 : Int); omega), ?_⟩) | (refine ⟨.inl ⟨by decide, by decide⟩, ?_⟩) | (refine ⟨(by assumption : CDivN _ _), ?_⟩) | (refine ite_y (by decide) ?_) | (refine ite_n (by decide) ?_) | (refine ite_y rfl ?_) | (refine ite_n Bool.false_ne_true ?_)))
          rw [hz] at q2
          refine ite2 (fun hd => ?_) (fun hd => ?_)
          · (repeat (first | (refine ⟨_, _, _, _, rfl, rfl, st_of hp, rfl, ?_⟩) | (refine ⟨_, rfl, ?_⟩) | (refine ⟨_, _, rfl, rfl, ?_⟩) | (refine ⟨⟨by decide, by decide⟩, ?_⟩) | (refine ⟨(by show (0 : Int) < _; decide), ?_⟩) | (refine ⟨rfl, ?_⟩) | (refine ⟨(by show _ ≠ (0 : Int); omega), ?_⟩) | (refine ⟨.inl ⟨by decide, by decide⟩, ?_⟩) | (refine ⟨(by assumption : CDivN _ _), ?_⟩) | (refine ite_y (by decide) ?_) | (refine ite_n (by decide) ?_) | (refine ite_y rfl ?_) | (refine ite_n Bool.false_ne_true ?_)))
            rwa [show cap4 (some z) = some z from if_pos (of_decide_eq_true hd)] at q2
          · (repeat (first | (refine ⟨_, _, _, _, rfl, rfl, st_of hp, rfl, ?_⟩) | (refine ⟨_, rfl, ?_⟩) | (refine ⟨_, _, rfl, rfl, ?_⟩) | (refine ⟨⟨by decide, by decide⟩, ?_⟩) | (refine ⟨(by show (0 : Int) < _; decide), ?_⟩) | (refine ⟨rfl, ?_⟩) | (refine ⟨(by show _ ≠ (0 : Int); omega), ?_⟩) | (refine ⟨.inl ⟨by decide, by decide⟩, ?_⟩) | (refine ⟨(by assumption : CDivN _ _), ?_⟩) | (refine ite_y (by decide) ?_) | (refine ite_n (by decide) ?_) | (refine ite_y rfl ?_) | (refine ite_n Bool.false_ne_true ?_)))
            rwa [show cap4 (some z) = none from if_neg fun h => hd (decide_eq_true h)] at q2
    | reach v1 =>
      have hv0 := hv
      obtain ⟨p, y, rfl, hp, hy⟩ := hv
      (repeat (first | (refine ⟨_, _, _, _, rfl, rfl, st_of hp, rfl, ?_⟩) | (refine ⟨_, rfl, ?_⟩) | (refine ⟨_, _, rfl, rfl, ?_⟩) | (refine ⟨⟨by decide, by decide⟩, ?_⟩) | (refine ⟨(by show (0 : Int) < _; decide), ?_⟩) | (refine ⟨rfl, ?_⟩) | (refine ⟨(by show _ ≠ (0 : Int); omega), ?_⟩) | (refine ⟨.inl ⟨by decide, by decide⟩, ?_⟩) | (refine ⟨(by assumption : CDivN _ _), ?_⟩) | (refine ite_y (by decide) ?_) | (refine ite_n (by decide) ?_) | (refine ite_y rfl ?_) | (refine ite_n Bool.false_ne_true ?_)))
      refine ⟨by show 8 ≤ sizeLine; decide, fun l hl => ⟨l, _, rfl, .inr (st_of upd_same), rfl, rfl, ?_⟩⟩
      have e1 := Ex.new (o := .tup [.str "within", .str "columns", .str "once", .str "sums", .str "reach", .str "both", .str "less", .str "meet"]) hl
      have hp := e1 _ _ hp
      (repeat (first | (refine ⟨_, _, _, _, rfl, rfl, st_of hp, rfl, ?_⟩) | (refine ⟨_, rfl, ?_⟩) | (refine ⟨_, _, rfl, rfl, ?_⟩) | (refine ⟨⟨by decide, by decide⟩, ?_⟩) | (refine ⟨(by show (0 : Int) < _; decide), ?_⟩) | (refine ⟨rfl, ?_⟩) | (refine ⟨(by show _ ≠ (0 : Int); omega), ?_⟩) | (refine ⟨.inl ⟨by decide, by decide⟩, ?_⟩) | (refine ⟨(by assumption : CDivN _ _), ?_⟩) | (refine ite_y (by decide) ?_) | (refine ite_n (by decide) ?_) | (refine ite_y rfl ?_) | (refine ite_n Bool.false_ne_true ?_)))
      refine ⟨y, wl, v1, ws, rfl, hok, VAt.pers _ _ _ _ e1 hy, e1 _ _ hwl, hws, fun H2 e2 => ?_⟩
      have e02 := e1.trans e2
      have hp := e2 _ _ hp
      cases ho : widthOf ws v1 with
      | none =>
        (repeat (first | (refine ⟨_, _, _, _, rfl, rfl, st_of hp, rfl, ?_⟩) | (refine ⟨_, rfl, ?_⟩) | (refine ⟨_, _, rfl, rfl, ?_⟩) | (refine ⟨⟨by decide, by decide⟩, ?_⟩) | (refine ⟨(by show (0 : Int) < _; decide), ?_⟩) | (refine ⟨rfl, ?_⟩) | (refine ⟨(by show _ ≠ (0 : Int); omega), ?_⟩) | (refine ⟨.inl ⟨by decide, by decide⟩, ?_⟩) | (refine ⟨(by assumption : CDivN _ _), ?_⟩) | (refine ite_y (by decide) ?_) | (refine ite_n (by decide) ?_) | (refine ite_y rfl ?_) | (refine ite_n Bool.false_ne_true ?_)))
        have q' := q H2 e02
        rwa [wide_one_cap hws rfl, show widthOf ws (kid ((.reach v1))) = none from ho] at q'
      | some a =>
        (repeat (first | (refine ⟨_, _, _, _, rfl, rfl, st_of hp, rfl, ?_⟩) | (refine ⟨_, rfl, ?_⟩) | (refine ⟨_, _, rfl, rfl, ?_⟩) | (refine ⟨⟨by decide, by decide⟩, ?_⟩) | (refine ⟨(by show (0 : Int) < _; decide), ?_⟩) | (refine ⟨rfl, ?_⟩) | (refine ⟨(by show _ ≠ (0 : Int); omega), ?_⟩) | (refine ⟨.inl ⟨by decide, by decide⟩, ?_⟩) | (refine ⟨(by assumption : CDivN _ _), ?_⟩) | (refine ite_y (by decide) ?_) | (refine ite_n (by decide) ?_) | (refine ite_y rfl ?_) | (refine ite_n Bool.false_ne_true ?_)))
        refine ⟨by show 3 ≤ sizeLine; decide, fun l2 hl2 => ⟨l2, _, rfl, .inr (st_of upd_same), rfl, rfl, ?_⟩⟩
        have e3 := Ex.new (o := .tup [.str "both", .str "less", .str "meet"]) hl2
        have hp := e3 _ _ hp
        have e03 := e02.trans e3
        (repeat (first | (refine ⟨_, _, _, _, rfl, rfl, st_of hp, rfl, ?_⟩) | (refine ⟨_, rfl, ?_⟩) | (refine ⟨_, _, rfl, rfl, ?_⟩) | (refine ⟨⟨by decide, by decide⟩, ?_⟩) | (refine ⟨(by show (0 : Int) < _; decide), ?_⟩) | (refine ⟨rfl, ?_⟩) | (refine ⟨(by show _ ≠ (0 : Int); omega), ?_⟩) | (refine ⟨.inl ⟨by decide, by decide⟩, ?_⟩) | (refine ⟨(by assumption : CDivN _ _), ?_⟩) | (refine ite_y (by decide) ?_) | (refine ite_n (by decide) ?_) | (refine ite_y rfl ?_) | (refine ite_n Bool.false_ne_true ?_)))
        refine ⟨.ref p, a, (.reach v1), N + 1, rfl, rfl, hok, VAt.pers _ _ _ _ e03 hv0, fun H4 e4 => ?_⟩
        have q' := q H4 (e03.trans e4)
        rw [wide_one_cap hws rfl, show widthOf ws (kid (.reach v1)) = some a from ho] at q'
        have q2 : Q (optV (cap4 (afterOne a (.reach v1)))) H4 := q'
        clear q'
        cases hz : afterOne a (.reach v1) with
        | none =>
          (repeat (first | (refine ⟨_, _, _, _, rfl, rfl, st_of hp, rfl, ?_⟩) | (refine ⟨_, rfl, ?_⟩) | (refine ⟨_, _, rfl, rfl, ?_⟩) | (refine ⟨⟨by decide, by decide⟩, ?_⟩) | (refine ⟨(by show (0 : Int) < _; decide), ?_⟩) | (refine ⟨rfl, ?_⟩) | (refine ⟨(by show _ ≠ (0 : Int); omega), ?_⟩) | (refine ⟨.inl ⟨by decide, by decide⟩, ?_⟩) | (refine ⟨(by assumption : CDivN _ _), ?_⟩) | (refine ite_y (by decide) ?_) | (refine ite_n (by decide) ?_) | (refine ite_y rfl ?_) | (refine ite_n Bool.false_ne_true ?_)))
          rw [hz] at q2
          exact q2
        | some z =>
          (repeat (first | (refine ⟨_, _, _, _, rfl, rfl, st_of hp, rfl, ?_⟩) | (refine ⟨_, rfl, ?_⟩) | (refine ⟨_, _, rfl, rfl, ?_⟩) | (refine ⟨⟨by decide, by decide⟩, ?_⟩) | (refine ⟨(by show (0 : Int) < _; decide), ?_⟩) | (refine ⟨rfl, ?_⟩) | (refine ⟨(by show _ ≠ (0 : Int); omega), ?_⟩) | (refine ⟨.inl ⟨by decide, by decide⟩, ?_⟩) | (refine ⟨(by assumption : CDivN _ _), ?_⟩) | (refine ite_y (by decide) ?_) | (refine ite_n (by decide) ?_) | (refine ite_y rfl ?_) | (refine ite_n Bool.false_ne_true ?_)))
          rw [hz] at q2
          refine ite2 (fun hd => ?_) (fun hd => ?_)
          · (repeat (first | (refine ⟨_, _, _, _, rfl, rfl, st_of hp, rfl, ?_⟩) | (refine ⟨_, rfl, ?_⟩) | (refine ⟨_, _, rfl, rfl, ?_⟩) | (refine ⟨⟨by decide, by decide⟩, ?_⟩) | (refine ⟨(by show (0 : Int) < _; decide), ?_⟩) | (refine ⟨rfl, ?_⟩) | (refine ⟨(by show _ ≠ (0 : Int); omega), ?_⟩) | (refine ⟨.inl ⟨by decide, by decide⟩, ?_⟩) | (refine ⟨(by assumption : CDivN _ _), ?_⟩) | (refine ite_y (by decide) ?_) | (refine ite_n (by decide) ?_) | (refine ite_y rfl ?_) | (refine ite_n Bool.false_ne_true ?_)))
            rwa [show cap4 (some z) = some z from if_pos (of_decide_eq_true hd)] at q2
          · (repeat (first | (refine ⟨_, _, _, _, rfl, rfl, st_of hp, rfl, ?_⟩) | (refine ⟨_, rfl, ?_⟩) | (refine ⟨_, _, rfl, rfl, ?_⟩) | (refine ⟨⟨by decide, by decide⟩, ?_⟩) | (refine ⟨(by show (0 : Int) < _; decide), ?_⟩) | (refine ⟨rfl, ?_⟩) | (refine ⟨(by show _ ≠ (0 : Int); omega), ?_⟩) | (refine ⟨.inl ⟨by decide, by decide⟩, ?_⟩) | (refine ⟨(by assumption : CDivN _ _), ?_⟩) | (refine ite_y (by decide) ?_) | (refine ite_n (by decide) ?_) | (refine ite_y rfl ?_) | (refine ite_n Bool.false_ne_true ?_)))
            rwa [show cap4 (some z) = none from if_neg fun h => hd (decide_eq_true h)] at q2
    | both v1 v2 =>
      have hv0 := hv
      obtain ⟨p, y, z, rfl, hp, hy, hz⟩ := hv
      (repeat (first | (refine ⟨_, _, _, _, rfl, rfl, st_of hp, rfl, ?_⟩) | (refine ⟨_, rfl, ?_⟩) | (refine ⟨_, _, rfl, rfl, ?_⟩) | (refine ⟨⟨by decide, by decide⟩, ?_⟩) | (refine ⟨(by show (0 : Int) < _; decide), ?_⟩) | (refine ⟨rfl, ?_⟩) | (refine ⟨(by show _ ≠ (0 : Int); omega), ?_⟩) | (refine ⟨.inl ⟨by decide, by decide⟩, ?_⟩) | (refine ⟨(by assumption : CDivN _ _), ?_⟩) | (refine ite_y (by decide) ?_) | (refine ite_n (by decide) ?_) | (refine ite_y rfl ?_) | (refine ite_n Bool.false_ne_true ?_)))
      refine ⟨by show 8 ≤ sizeLine; decide, fun l hl => ⟨l, _, rfl, .inr (st_of upd_same), rfl, rfl, ?_⟩⟩
      have e1 := Ex.new (o := .tup [.str "within", .str "columns", .str "once", .str "sums", .str "reach", .str "both", .str "less", .str "meet"]) hl
      have hp := e1 _ _ hp
      (repeat (first | (refine ⟨_, _, _, _, rfl, rfl, st_of hp, rfl, ?_⟩) | (refine ⟨_, rfl, ?_⟩) | (refine ⟨_, _, rfl, rfl, ?_⟩) | (refine ⟨⟨by decide, by decide⟩, ?_⟩) | (refine ⟨(by show (0 : Int) < _; decide), ?_⟩) | (refine ⟨rfl, ?_⟩) | (refine ⟨(by show _ ≠ (0 : Int); omega), ?_⟩) | (refine ⟨.inl ⟨by decide, by decide⟩, ?_⟩) | (refine ⟨(by assumption : CDivN _ _), ?_⟩) | (refine ite_y (by decide) ?_) | (refine ite_n (by decide) ?_) | (refine ite_y rfl ?_) | (refine ite_n Bool.false_ne_true ?_)))
      refine ⟨y, wl, v1, ws, rfl, hok.1, VAt.pers _ _ _ _ e1 hy, e1 _ _ hwl, hws, fun H2 e2 => ?_⟩
      have e02 := e1.trans e2
      have hp := e2 _ _ hp
      cases ho : widthOf ws v1 with
      | none =>
        (repeat (first | (refine ⟨_, _, _, _, rfl, rfl, st_of hp, rfl, ?_⟩) | (refine ⟨_, rfl, ?_⟩) | (refine ⟨_, _, rfl, rfl, ?_⟩) | (refine ⟨⟨by decide, by decide⟩, ?_⟩) | (refine ⟨(by show (0 : Int) < _; decide), ?_⟩) | (refine ⟨rfl, ?_⟩) | (refine ⟨(by show _ ≠ (0 : Int); omega), ?_⟩) | (refine ⟨.inl ⟨by decide, by decide⟩, ?_⟩) | (refine ⟨(by assumption : CDivN _ _), ?_⟩) | (refine ite_y (by decide) ?_) | (refine ite_n (by decide) ?_) | (refine ite_y rfl ?_) | (refine ite_n Bool.false_ne_true ?_)))
        have q' := q H2 e02
        rwa [show widthOf ws ((.both v1 v2)) = none from by (show (widthOf ws v1).bind _ = none); rw [ho]; rfl] at q'
      | some a =>
        (repeat (first | (refine ⟨_, _, _, _, rfl, rfl, st_of hp, rfl, ?_⟩) | (refine ⟨_, rfl, ?_⟩) | (refine ⟨_, _, rfl, rfl, ?_⟩) | (refine ⟨⟨by decide, by decide⟩, ?_⟩) | (refine ⟨(by show (0 : Int) < _; decide), ?_⟩) | (refine ⟨rfl, ?_⟩) | (refine ⟨(by show _ ≠ (0 : Int); omega), ?_⟩) | (refine ⟨.inl ⟨by decide, by decide⟩, ?_⟩) | (refine ⟨(by assumption : CDivN _ _), ?_⟩) | (refine ite_y (by decide) ?_) | (refine ite_n (by decide) ?_) | (refine ite_y rfl ?_) | (refine ite_n Bool.false_ne_true ?_)))
        refine ⟨by show 3 ≤ sizeLine; decide, fun l2 hl2 => ⟨l2, _, rfl, .inr (st_of upd_same), rfl, rfl, ?_⟩⟩
        have e3 := Ex.new (o := .tup [.str "both", .str "less", .str "meet"]) hl2
        have hp := e3 _ _ hp
        have e03 := e02.trans e3
        (repeat (first | (refine ⟨_, _, _, _, rfl, rfl, st_of hp, rfl, ?_⟩) | (refine ⟨_, rfl, ?_⟩) | (refine ⟨_, _, rfl, rfl, ?_⟩) | (refine ⟨⟨by decide, by decide⟩, ?_⟩) | (refine ⟨(by show (0 : Int) < _; decide), ?_⟩) | (refine ⟨rfl, ?_⟩) | (refine ⟨(by show _ ≠ (0 : Int); omega), ?_⟩) | (refine ⟨.inl ⟨by decide, by decide⟩, ?_⟩) | (refine ⟨(by assumption : CDivN _ _), ?_⟩) | (refine ite_y (by decide) ?_) | (refine ite_n (by decide) ?_) | (refine ite_y rfl ?_) | (refine ite_n Bool.false_ne_true ?_)))
        refine ⟨z, wl, v2, ws, rfl, hok.2, VAt.pers _ _ _ _ e03 hz, e03 _ _ hwl, hws, fun H4 e4 => ?_⟩
        have hp := e4 _ _ hp
        have e04 := e03.trans e4
        cases ho2 : widthOf ws v2 with
        | none =>
          (repeat (first | (refine ⟨_, _, _, _, rfl, rfl, st_of hp, rfl, ?_⟩) | (refine ⟨_, rfl, ?_⟩) | (refine ⟨_, _, rfl, rfl, ?_⟩) | (refine ⟨⟨by decide, by decide⟩, ?_⟩) | (refine ⟨(by show (0 : Int) < _; decide), ?_⟩) | (refine ⟨rfl, ?_⟩) | (refine ⟨(by show _ ≠ (0 : Int); omega), ?_⟩) | (refine ⟨.inl ⟨by decide, by decide⟩, ?_⟩) | (refine ⟨(by assumption : CDivN _ _), ?_⟩) | (refine ite_y (by decide) ?_) | (refine ite_n (by decide) ?_) | (refine ite_y rfl ?_) | (refine ite_n Bool.false_ne_true ?_)))
          have q' := q H4 e04
          rwa [show widthOf ws ((.both v1 v2)) = none from by (show (widthOf ws v1).bind (fun a => (widthOf ws v2).bind _) = none); rw [ho, ho2]; rfl] at q'
        | some b =>
          have hv2 : widthOf ws ((.both v1 v2)) = if a = b then some a else none := by
            show (widthOf ws v1).bind (fun a => (widthOf ws v2).bind fun b => if a = b then some a else none) = _
            rw [ho, ho2]; rfl
          have q' := q H4 e04
          rw [hv2] at q'
          (repeat (first | (refine ⟨_, _, _, _, rfl, rfl, st_of hp, rfl, ?_⟩) | (refine ⟨_, rfl, ?_⟩) | (refine ⟨_, _, rfl, rfl, ?_⟩) | (refine ⟨⟨by decide, by decide⟩, ?_⟩) | (refine ⟨(by show (0 : Int) < _; decide), ?_⟩) | (refine ⟨rfl, ?_⟩) | (refine ⟨(by show _ ≠ (0 : Int); omega), ?_⟩) | (refine ⟨.inl ⟨by decide, by decide⟩, ?_⟩) | (refine ⟨(by assumption : CDivN _ _), ?_⟩) | (refine ite_y (by decide) ?_) | (refine ite_n (by decide) ?_) | (refine ite_y rfl ?_) | (refine ite_n Bool.false_ne_true ?_)))
          refine ite2 (fun hd => ?_) (fun hd => ?_)
          · (repeat (first | (refine ⟨_, _, _, _, rfl, rfl, st_of hp, rfl, ?_⟩) | (refine ⟨_, rfl, ?_⟩) | (refine ⟨_, _, rfl, rfl, ?_⟩) | (refine ⟨⟨by decide, by decide⟩, ?_⟩) | (refine ⟨(by show (0 : Int) < _; decide), ?_⟩) | (refine ⟨rfl, ?_⟩) | (refine ⟨(by show _ ≠ (0 : Int); omega), ?_⟩) | (refine ⟨.inl ⟨by decide, by decide⟩, ?_⟩) | (refine ⟨(by assumption : CDivN _ _), ?_⟩) | (refine ite_y (by decide) ?_) | (refine ite_n (by decide) ?_) | (refine ite_y rfl ?_) | (refine ite_n Bool.false_ne_true ?_)))
            refine ite_y (decide_eq_true (wo_le hws _ _ ho)) ?_
            (repeat (first | (refine ⟨_, _, _, _, rfl, rfl, st_of hp, rfl, ?_⟩) | (refine ⟨_, rfl, ?_⟩) | (refine ⟨_, _, rfl, rfl, ?_⟩) | (refine ⟨⟨by decide, by decide⟩, ?_⟩) | (refine ⟨(by show (0 : Int) < _; decide), ?_⟩) | (refine ⟨rfl, ?_⟩) | (refine ⟨(by show _ ≠ (0 : Int); omega), ?_⟩) | (refine ⟨.inl ⟨by decide, by decide⟩, ?_⟩) | (refine ⟨(by assumption : CDivN _ _), ?_⟩) | (refine ite_y (by decide) ?_) | (refine ite_n (by decide) ?_) | (refine ite_y rfl ?_) | (refine ite_n Bool.false_ne_true ?_)))
            rwa [if_pos (V.int.inj (of_decide_eq_true hd))] at q'
          · (repeat (first | (refine ⟨_, _, _, _, rfl, rfl, st_of hp, rfl, ?_⟩) | (refine ⟨_, rfl, ?_⟩) | (refine ⟨_, _, rfl, rfl, ?_⟩) | (refine ⟨⟨by decide, by decide⟩, ?_⟩) | (refine ⟨(by show (0 : Int) < _; decide), ?_⟩) | (refine ⟨rfl, ?_⟩) | (refine ⟨(by show _ ≠ (0 : Int); omega), ?_⟩) | (refine ⟨.inl ⟨by decide, by decide⟩, ?_⟩) | (refine ⟨(by assumption : CDivN _ _), ?_⟩) | (refine ite_y (by decide) ?_) | (refine ite_n (by decide) ?_) | (refine ite_y rfl ?_) | (refine ite_n Bool.false_ne_true ?_)))
            rwa [if_neg fun z => hd (by rw [z]; exact decide_eq_true rfl)] at q'
    | less v1 v2 =>
      have hv0 := hv
      obtain ⟨p, y, z, rfl, hp, hy, hz⟩ := hv
      (repeat (first | (refine ⟨_, _, _, _, rfl, rfl, st_of hp, rfl, ?_⟩) | (refine ⟨_, rfl, ?_⟩) | (refine ⟨_, _, rfl, rfl, ?_⟩) | (refine ⟨⟨by decide, by decide⟩, ?_⟩) | (refine ⟨(by show (0 : Int) < _; decide), ?_⟩) | (refine ⟨rfl, ?_⟩) | (refine ⟨(by show _ ≠ (0 : Int); omega), ?_⟩) | (refine ⟨.inl ⟨by decide, by decide⟩, ?_⟩) | (refine ⟨(by assumption : CDivN _ _), ?_⟩) | (refine ite_y (by decide) ?_) | (refine ite_n (by decide) ?_) | (refine ite_y rfl ?_) | (refine ite_n Bool.false_ne_true ?_)))
      refine ⟨by show 8 ≤ sizeLine; decide, fun l hl => ⟨l, _, rfl, .inr (st_of upd_same), rfl, rfl, ?_⟩⟩
      have e1 := Ex.new (o := .tup [.str "within", .str "columns", .str "once", .str "sums", .str "reach", .str "both", .str "less", .str "meet"]) hl
      have hp := e1 _ _ hp
      (repeat (first | (refine ⟨_, _, _, _, rfl, rfl, st_of hp, rfl, ?_⟩) | (refine ⟨_, rfl, ?_⟩) | (refine ⟨_, _, rfl, rfl, ?_⟩) | (refine ⟨⟨by decide, by decide⟩, ?_⟩) | (refine ⟨(by show (0 : Int) < _; decide), ?_⟩) | (refine ⟨rfl, ?_⟩) | (refine ⟨(by show _ ≠ (0 : Int); omega), ?_⟩) | (refine ⟨.inl ⟨by decide, by decide⟩, ?_⟩) | (refine ⟨(by assumption : CDivN _ _), ?_⟩) | (refine ite_y (by decide) ?_) | (refine ite_n (by decide) ?_) | (refine ite_y rfl ?_) | (refine ite_n Bool.false_ne_true ?_)))
      refine ⟨y, wl, v1, ws, rfl, hok.1, VAt.pers _ _ _ _ e1 hy, e1 _ _ hwl, hws, fun H2 e2 => ?_⟩
      have e02 := e1.trans e2
      have hp := e2 _ _ hp
      cases ho : widthOf ws v1 with
      | none =>
        (repeat (first | (refine ⟨_, _, _, _, rfl, rfl, st_of hp, rfl, ?_⟩) | (refine ⟨_, rfl, ?_⟩) | (refine ⟨_, _, rfl, rfl, ?_⟩) | (refine ⟨⟨by decide, by decide⟩, ?_⟩) | (refine ⟨(by show (0 : Int) < _; decide), ?_⟩) | (refine ⟨rfl, ?_⟩) | (refine ⟨(by show _ ≠ (0 : Int); omega), ?_⟩) | (refine ⟨.inl ⟨by decide, by decide⟩, ?_⟩) | (refine ⟨(by assumption : CDivN _ _), ?_⟩) | (refine ite_y (by decide) ?_) | (refine ite_n (by decide) ?_) | (refine ite_y rfl ?_) | (refine ite_n Bool.false_ne_true ?_)))
        have q' := q H2 e02
        rwa [show widthOf ws ((.less v1 v2)) = none from by (show (widthOf ws v1).bind _ = none); rw [ho]; rfl] at q'
      | some a =>
        (repeat (first | (refine ⟨_, _, _, _, rfl, rfl, st_of hp, rfl, ?_⟩) | (refine ⟨_, rfl, ?_⟩) | (refine ⟨_, _, rfl, rfl, ?_⟩) | (refine ⟨⟨by decide, by decide⟩, ?_⟩) | (refine ⟨(by show (0 : Int) < _; decide), ?_⟩) | (refine ⟨rfl, ?_⟩) | (refine ⟨(by show _ ≠ (0 : Int); omega), ?_⟩) | (refine ⟨.inl ⟨by decide, by decide⟩, ?_⟩) | (refine ⟨(by assumption : CDivN _ _), ?_⟩) | (refine ite_y (by decide) ?_) | (refine ite_n (by decide) ?_) | (refine ite_y rfl ?_) | (refine ite_n Bool.false_ne_true ?_)))
        refine ⟨by show 3 ≤ sizeLine; decide, fun l2 hl2 => ⟨l2, _, rfl, .inr (st_of upd_same), rfl, rfl, ?_⟩⟩
        have e3 := Ex.new (o := .tup [.str "both", .str "less", .str "meet"]) hl2
        have hp := e3 _ _ hp
        have e03 := e02.trans e3
        (repeat (first | (refine ⟨_, _, _, _, rfl, rfl, st_of hp, rfl, ?_⟩) | (refine ⟨_, rfl, ?_⟩) | (refine ⟨_, _, rfl, rfl, ?_⟩) | (refine ⟨⟨by decide, by decide⟩, ?_⟩) | (refine ⟨(by show (0 : Int) < _; decide), ?_⟩) | (refine ⟨rfl, ?_⟩) | (refine ⟨(by show _ ≠ (0 : Int); omega), ?_⟩) | (refine ⟨.inl ⟨by decide, by decide⟩, ?_⟩) | (refine ⟨(by assumption : CDivN _ _), ?_⟩) | (refine ite_y (by decide) ?_) | (refine ite_n (by decide) ?_) | (refine ite_y rfl ?_) | (refine ite_n Bool.false_ne_true ?_)))
        refine ⟨z, wl, v2, ws, rfl, hok.2, VAt.pers _ _ _ _ e03 hz, e03 _ _ hwl, hws, fun H4 e4 => ?_⟩
        have hp := e4 _ _ hp
        have e04 := e03.trans e4
        cases ho2 : widthOf ws v2 with
        | none =>
          (repeat (first | (refine ⟨_, _, _, _, rfl, rfl, st_of hp, rfl, ?_⟩) | (refine ⟨_, rfl, ?_⟩) | (refine ⟨_, _, rfl, rfl, ?_⟩) | (refine ⟨⟨by decide, by decide⟩, ?_⟩) | (refine ⟨(by show (0 : Int) < _; decide), ?_⟩) | (refine ⟨rfl, ?_⟩) | (refine ⟨(by show _ ≠ (0 : Int); omega), ?_⟩) | (refine ⟨.inl ⟨by decide, by decide⟩, ?_⟩) | (refine ⟨(by assumption : CDivN _ _), ?_⟩) | (refine ite_y (by decide) ?_) | (refine ite_n (by decide) ?_) | (refine ite_y rfl ?_) | (refine ite_n Bool.false_ne_true ?_)))
          have q' := q H4 e04
          rwa [show widthOf ws ((.less v1 v2)) = none from by (show (widthOf ws v1).bind (fun a => (widthOf ws v2).bind _) = none); rw [ho, ho2]; rfl] at q'
        | some b =>
          have hv2 : widthOf ws ((.less v1 v2)) = if a = b then some a else none := by
            show (widthOf ws v1).bind (fun a => (widthOf ws v2).bind fun b => if a = b then some a else none) = _
            rw [ho, ho2]; rfl
          have q' := q H4 e04
          rw [hv2] at q'
          (repeat (first | (refine ⟨_, _, _, _, rfl, rfl, st_of hp, rfl, ?_⟩) | (refine ⟨_, rfl, ?_⟩) | (refine ⟨_, _, rfl, rfl, ?_⟩) | (refine ⟨⟨by decide, by decide⟩, ?_⟩) | (refine ⟨(by show (0 : Int) < _; decide), ?_⟩) | (refine ⟨rfl, ?_⟩) | (refine ⟨(by show _ ≠ (0 : Int); omega), ?_⟩) | (refine ⟨.inl ⟨by decide, by decide⟩, ?_⟩) | (refine ⟨(by assumption : CDivN _ _), ?_⟩) | (refine ite_y (by decide) ?_) | (refine ite_n (by decide) ?_) | (refine ite_y rfl ?_) | (refine ite_n Bool.false_ne_true ?_)))
          refine ite2 (fun hd => ?_) (fun hd => ?_)
          · (repeat (first | (refine ⟨_, _, _, _, rfl, rfl, st_of hp, rfl, ?_⟩) | (refine ⟨_, rfl, ?_⟩) | (refine ⟨_, _, rfl, rfl, ?_⟩) | (refine ⟨⟨by decide, by decide⟩, ?_⟩) | (refine ⟨(by show (0 : Int) < _; decide), ?_⟩) | (refine ⟨rfl, ?_⟩) | (refine ⟨(by show _ ≠ (0 : Int); omega), ?_⟩) | (refine ⟨.inl ⟨by decide, by decide⟩, ?_⟩) | (refine ⟨(by assumption : CDivN _ _), ?_⟩) | (refine ite_y (by decide) ?_) | (refine ite_n (by decide) ?_) | (refine ite_y rfl ?_) | (refine ite_n Bool.false_ne_true ?_)))
            refine ite_y (decide_eq_true (wo_le hws _ _ ho)) ?_
            (repeat (first | (refine ⟨_, _, _, _, rfl, rfl, st_of hp, rfl, ?_⟩) | (refine ⟨_, rfl, ?_⟩) | (refine ⟨_, _, rfl, rfl, ?_⟩) | (refine ⟨⟨by decide, by decide⟩, ?_⟩) | (refine ⟨(by show (0 : Int) < _; decide), ?_⟩) | (refine ⟨rfl, ?_⟩) | (refine ⟨(by show _ ≠ (0 : Int); omega), ?_⟩) | (refine ⟨.inl ⟨by decide, by decide⟩, ?_⟩) | (refine ⟨(by assumption : CDivN _ _), ?_⟩) | (refine ite_y (by decide) ?_) | (refine ite_n (by decide) ?_) | (refine ite_y rfl ?_) | (refine ite_n Bool.false_ne_true ?_)))
            rwa [if_pos (V.int.inj (of_decide_eq_true hd))] at q'
          · (repeat (first | (refine ⟨_, _, _, _, rfl, rfl, st_of hp, rfl, ?_⟩) | (refine ⟨_, rfl, ?_⟩) | (refine ⟨_, _, rfl, rfl, ?_⟩) | (refine ⟨⟨by decide, by decide⟩, ?_⟩) | (refine ⟨(by show (0 : Int) < _; decide), ?_⟩) | (refine ⟨rfl, ?_⟩) | (refine ⟨(by show _ ≠ (0 : Int); omega), ?_⟩) | (refine ⟨.inl ⟨by decide, by decide⟩, ?_⟩) | (refine ⟨(by assumption : CDivN _ _), ?_⟩) | (refine ite_y (by decide) ?_) | (refine ite_n (by decide) ?_) | (refine ite_y rfl ?_) | (refine ite_n Bool.false_ne_true ?_)))
            rwa [if_neg fun z => hd (by rw [z]; exact decide_eq_true rfl)] at q'
    | meet v1 v2 ps =>
      have hv0 := hv
      obtain ⟨p, y, z, qa, rfl, hp, hy, hz, hq⟩ := hv
      (repeat (first | (refine ⟨_, _, _, _, rfl, rfl, st_of hp, rfl, ?_⟩) | (refine ⟨_, rfl, ?_⟩) | (refine ⟨_, _, rfl, rfl, ?_⟩) | (refine ⟨⟨by decide, by decide⟩, ?_⟩) | (refine ⟨(by show (0 : Int) < _; decide), ?_⟩) | (refine ⟨rfl, ?_⟩) | (refine ⟨(by show _ ≠ (0 : Int); omega), ?_⟩) | (refine ⟨.inl ⟨by decide, by decide⟩, ?_⟩) | (refine ⟨(by assumption : CDivN _ _), ?_⟩) | (refine ite_y (by decide) ?_) | (refine ite_n (by decide) ?_) | (refine ite_y rfl ?_) | (refine ite_n Bool.false_ne_true ?_)))
      refine ⟨by show 8 ≤ sizeLine; decide, fun l hl => ⟨l, _, rfl, .inr (st_of upd_same), rfl, rfl, ?_⟩⟩
      have e1 := Ex.new (o := .tup [.str "within", .str "columns", .str "once", .str "sums", .str "reach", .str "both", .str "less", .str "meet"]) hl
      have hp := e1 _ _ hp
      (repeat (first | (refine ⟨_, _, _, _, rfl, rfl, st_of hp, rfl, ?_⟩) | (refine ⟨_, rfl, ?_⟩) | (refine ⟨_, _, rfl, rfl, ?_⟩) | (refine ⟨⟨by decide, by decide⟩, ?_⟩) | (refine ⟨(by show (0 : Int) < _; decide), ?_⟩) | (refine ⟨rfl, ?_⟩) | (refine ⟨(by show _ ≠ (0 : Int); omega), ?_⟩) | (refine ⟨.inl ⟨by decide, by decide⟩, ?_⟩) | (refine ⟨(by assumption : CDivN _ _), ?_⟩) | (refine ite_y (by decide) ?_) | (refine ite_n (by decide) ?_) | (refine ite_y rfl ?_) | (refine ite_n Bool.false_ne_true ?_)))
      refine ⟨y, wl, v1, ws, rfl, hok.1, VAt.pers _ _ _ _ e1 hy, e1 _ _ hwl, hws, fun H2 e2 => ?_⟩
      have e02 := e1.trans e2
      have hp := e2 _ _ hp
      cases ho : widthOf ws v1 with
      | none =>
        (repeat (first | (refine ⟨_, _, _, _, rfl, rfl, st_of hp, rfl, ?_⟩) | (refine ⟨_, rfl, ?_⟩) | (refine ⟨_, _, rfl, rfl, ?_⟩) | (refine ⟨⟨by decide, by decide⟩, ?_⟩) | (refine ⟨(by show (0 : Int) < _; decide), ?_⟩) | (refine ⟨rfl, ?_⟩) | (refine ⟨(by show _ ≠ (0 : Int); omega), ?_⟩) | (refine ⟨.inl ⟨by decide, by decide⟩, ?_⟩) | (refine ⟨(by assumption : CDivN _ _), ?_⟩) | (refine ite_y (by decide) ?_) | (refine ite_n (by decide) ?_) | (refine ite_y rfl ?_) | (refine ite_n Bool.false_ne_true ?_)))
        have q' := q H2 e02
        rwa [show widthOf ws ((.meet v1 v2 ps)) = none from by (show (widthOf ws v1).bind _ = none); rw [ho]; rfl] at q'
      | some a =>
        (repeat (first | (refine ⟨_, _, _, _, rfl, rfl, st_of hp, rfl, ?_⟩) | (refine ⟨_, rfl, ?_⟩) | (refine ⟨_, _, rfl, rfl, ?_⟩) | (refine ⟨⟨by decide, by decide⟩, ?_⟩) | (refine ⟨(by show (0 : Int) < _; decide), ?_⟩) | (refine ⟨rfl, ?_⟩) | (refine ⟨(by show _ ≠ (0 : Int); omega), ?_⟩) | (refine ⟨.inl ⟨by decide, by decide⟩, ?_⟩) | (refine ⟨(by assumption : CDivN _ _), ?_⟩) | (refine ite_y (by decide) ?_) | (refine ite_n (by decide) ?_) | (refine ite_y rfl ?_) | (refine ite_n Bool.false_ne_true ?_)))
        refine ⟨by show 3 ≤ sizeLine; decide, fun l2 hl2 => ⟨l2, _, rfl, .inr (st_of upd_same), rfl, rfl, ?_⟩⟩
        have e3 := Ex.new (o := .tup [.str "both", .str "less", .str "meet"]) hl2
        have hp := e3 _ _ hp
        have e03 := e02.trans e3
        (repeat (first | (refine ⟨_, _, _, _, rfl, rfl, st_of hp, rfl, ?_⟩) | (refine ⟨_, rfl, ?_⟩) | (refine ⟨_, _, rfl, rfl, ?_⟩) | (refine ⟨⟨by decide, by decide⟩, ?_⟩) | (refine ⟨(by show (0 : Int) < _; decide), ?_⟩) | (refine ⟨rfl, ?_⟩) | (refine ⟨(by show _ ≠ (0 : Int); omega), ?_⟩) | (refine ⟨.inl ⟨by decide, by decide⟩, ?_⟩) | (refine ⟨(by assumption : CDivN _ _), ?_⟩) | (refine ite_y (by decide) ?_) | (refine ite_n (by decide) ?_) | (refine ite_y rfl ?_) | (refine ite_n Bool.false_ne_true ?_)))
        refine ⟨z, wl, v2, ws, rfl, hok.2.1, VAt.pers _ _ _ _ e03 hz, e03 _ _ hwl, hws, fun H4 e4 => ?_⟩
        have hp := e4 _ _ hp
        have e04 := e03.trans e4
        cases ho2 : widthOf ws v2 with
        | none =>
          (repeat (first | (refine ⟨_, _, _, _, rfl, rfl, st_of hp, rfl, ?_⟩) | (refine ⟨_, rfl, ?_⟩) | (refine ⟨_, _, rfl, rfl, ?_⟩) | (refine ⟨⟨by decide, by decide⟩, ?_⟩) | (refine ⟨(by show (0 : Int) < _; decide), ?_⟩) | (refine ⟨rfl, ?_⟩) | (refine ⟨(by show _ ≠ (0 : Int); omega), ?_⟩) | (refine ⟨.inl ⟨by decide, by decide⟩, ?_⟩) | (refine ⟨(by assumption : CDivN _ _), ?_⟩) | (refine ite_y (by decide) ?_) | (refine ite_n (by decide) ?_) | (refine ite_y rfl ?_) | (refine ite_n Bool.false_ne_true ?_)))
          have q' := q H4 e04
          rwa [show widthOf ws ((.meet v1 v2 ps)) = none from by (show (widthOf ws v1).bind (fun a => (widthOf ws v2).bind _) = none); rw [ho, ho2]; rfl] at q'
        | some b =>
          have hv2 : widthOf ws (.meet v1 v2 ps) = if (ps.map (·.1)).all (inW a) = true ∧ (ps.map (·.2)).all (inW b) = true then cap (a + b) else none := by
            show (widthOf ws v1).bind (fun a => (widthOf ws v2).bind fun b => if (ps.map (·.1)).all (inW a) = true ∧ (ps.map (·.2)).all (inW b) = true then cap (a + b) else none) = _
            rw [ho, ho2]; rfl
          obtain ⟨rs, hqa, hpr⟩ := PairsAt.pers _ _ e04 hq
          have hT : EvT (tAnd (tB (tCall (spThere K) [] E0 (tCons (tLc (iTup K (tOp (rIxT K) (tVar 0) (tC (.int 3)))) (gName 5) tYes (tOp (rIxT K) (tVar 5) (tC (.int 0))) [5]) (tCons (tVar 2) tNil))))
              (tB (tCall (spThere K) [] E0 (tCons (tLc (iTup K (tOp (rIxT K) (tVar 0) (tC (.int 3)))) (gName 5) tYes (tOp (rIxT K) (tVar 5) (tC (.int 1))) [5]) (tCons (tVar 4) tNil)))))
              [some (.ref p), some (.ref wl), some (.int a), some .non, some (.int b), none] H4 ((ps.map (·.1)).all (inW a) && (ps.map (·.2)).all (inW b)) :=
            et_and (et_there (el_pairs (f := (·.1)) (k := 0) hp hqa hpr (vok_meet hok) fun _ => rfl) (ev_var rfl)) fun _ => et_there (el_pairs (f := (·.2)) (k := 1) hp hqa hpr (vok_meet hok) fun _ => rfl) (ev_var rfl)
          (repeat (first | (refine q_if hT (fun hb H8 e8 => ?_) (fun hb H8 e8 => ?_)) | (refine ⟨_, _, _, _, rfl, rfl, st_of hp, rfl, ?_⟩) | (refine ⟨_, rfl, ?_⟩) | (refine ⟨_, _, rfl, rfl, ?_⟩) | (refine ⟨⟨by decide, by decide⟩, ?_⟩) | (refine ⟨(by show (0 : Int) < _; decide), ?_⟩) | (refine ⟨rfl, ?_⟩) | (refine ⟨(by show _ ≠ (0 : Int); omega), ?_⟩) | (refine ⟨.inl ⟨by decide, by decide⟩, ?_⟩) | (refine ⟨(by assumption : CDivN _ _), ?_⟩) | (refine ite_y (by decide) ?_) | (refine ite_n (by decide) ?_) | (refine ite_y rfl ?_) | (refine ite_n Bool.false_ne_true ?_)))
          · have q' := q H8 (e04.trans e8)
            rw [hv2, if_pos (by rwa [Bool.and_eq_true] at hb)] at q'
            (repeat (first | (refine ⟨_, _, _, _, rfl, rfl, st_of hp, rfl, ?_⟩) | (refine ⟨_, rfl, ?_⟩) | (refine ⟨_, _, rfl, rfl, ?_⟩) | (refine ⟨⟨by decide, by decide⟩, ?_⟩) | (refine ⟨(by show (0 : Int) < _; decide), ?_⟩) | (refine ⟨rfl, ?_⟩) | (refine ⟨(by show _ ≠ (0 : Int); omega), ?_⟩) | (refine ⟨.inl ⟨by decide, by decide⟩, ?_⟩) | (refine ⟨(by assumption : CDivN _ _), ?_⟩) | (refine ite_y (by decide) ?_) | (refine ite_n (by decide) ?_) | (refine ite_y rfl ?_) | (refine ite_n Bool.false_ne_true ?_)))
            refine ite2 (fun hd => ?_) (fun hd => ?_)
            · (repeat (first | (refine ⟨_, _, _, _, rfl, rfl, st_of hp, rfl, ?_⟩) | (refine ⟨_, rfl, ?_⟩) | (refine ⟨_, _, rfl, rfl, ?_⟩) | (refine ⟨⟨by decide, by decide⟩, ?_⟩) | (refine ⟨(by show (0 : Int) < _; decide), ?_⟩) | (refine ⟨rfl, ?_⟩) | (refine ⟨(by show _ ≠ (0 : Int); omega), ?_⟩) | (refine ⟨.inl ⟨by decide, by decide⟩, ?_⟩) | (refine ⟨(by assumption : CDivN _ _), ?_⟩) | (refine ite_y (by decide) ?_) | (refine ite_n (by decide) ?_) | (refine ite_y rfl ?_) | (refine ite_n Bool.false_ne_true ?_)))
              rwa [show cap (a + b) = some (a + b) from if_pos (of_decide_eq_true hd)] at q'
            · (repeat (first | (refine ⟨_, _, _, _, rfl, rfl, st_of hp, rfl, ?_⟩) | (refine ⟨_, rfl, ?_⟩) | (refine ⟨_, _, rfl, rfl, ?_⟩) | (refine ⟨⟨by decide, by decide⟩, ?_⟩) | (refine ⟨(by show (0 : Int) < _; decide), ?_⟩) | (refine ⟨rfl, ?_⟩) | (refine ⟨(by show _ ≠ (0 : Int); omega), ?_⟩) | (refine ⟨.inl ⟨by decide, by decide⟩, ?_⟩) | (refine ⟨(by assumption : CDivN _ _), ?_⟩) | (refine ite_y (by decide) ?_) | (refine ite_n (by decide) ?_) | (refine ite_y rfl ?_) | (refine ite_n Bool.false_ne_true ?_)))
              rwa [show cap (a + b) = none from if_neg fun h => hd (decide_eq_true h)] at q'
          · have q' := q H8 (e04.trans e8)
            rw [hv2, if_neg (by rw [← Bool.and_eq_true, hb]; exact Bool.false_ne_true)] at q'
            (repeat (first | (refine ⟨_, _, _, _, rfl, rfl, st_of hp, rfl, ?_⟩) | (refine ⟨_, rfl, ?_⟩) | (refine ⟨_, _, rfl, rfl, ?_⟩) | (refine ⟨⟨by decide, by decide⟩, ?_⟩) | (refine ⟨(by show (0 : Int) < _; decide), ?_⟩) | (refine ⟨rfl, ?_⟩) | (refine ⟨(by show _ ≠ (0 : Int); omega), ?_⟩) | (refine ⟨.inl ⟨by decide, by decide⟩, ?_⟩) | (refine ⟨(by assumption : CDivN _ _), ?_⟩) | (refine ite_y (by decide) ?_) | (refine ite_n (by decide) ?_) | (refine ite_y rfl ?_) | (refine ite_n Bool.false_ne_true ?_)))
            exact q'
end
end K06

namespace K06
open PySem PySem.Spec PyProof.Rows L2 Evl KB
section
variable {P : Program} {w : World} {K : PySem.W.Frag} {mg : Str → Option Value} {base : Heap} {σ : L2.St} {H H' : Hp} {t1 t2 t3 : TE} {tA : TA} {i j : Nat} {v : V} {d : Nat} {Z : V → Hp → Prop}
/-- a list of views -/
def IsVs (n d : Nat) (v : V) (H : Hp) : Prop := ∃ (p : Addr) (vs : List V), v = .ref p ∧ H p = some (.lst vs) ∧ AllZ (IsView d) n vs H
theorem est_vs {n : Nat} (h : EstA tA σ H (AllZ (IsView d) n)) (hn : n ≤ 1000) : Est (tLst tA) σ H (IsVs n d) :=
  est_lstE h (AllZ.pers (IsView.pers d)) (fun vs H' ⟨l, _⟩ => by omega) fun p vs H' _ hp ha => ⟨p, vs, rfl, hp, ha⟩
theorem est_catVs {n m : Nat} (hv : σ[i]? = some (some v)) (h : IsVs n d v H) (h2 : EstA tA σ H (AllZ (IsView d) m)) (hn : n + m ≤ 1000) : Est (tOp rCat (tVar i) (tLst tA)) σ H (IsVs (n + m) d) := fun H1 e Q q => by
  obtain ⟨p, vs, rfl, hp, ha⟩ := h
  refine ⟨.ref p, hv, h2 H1 e _ fun ws H2 e2 hb => ⟨sz_of (by have := hb.1; omega), fun l hl => ?_⟩⟩
  refine ⟨p, l, vs, ws, rfl, rfl, ((e.trans e2).trans (Ex.new hl)) _ _ hp, upd_same, sz_of (by rw [ha.1, hb.1]; omega), fun l2 hl2 => ?_⟩
  refine q _ _ ((e2.trans (Ex.new hl)).trans (Ex.new hl2)) ⟨l2, vs ++ ws, rfl, upd_same, by rw [List.length_append, ha.1, hb.1], fun z hz => ?_⟩
  rcases List.mem_append.mp hz with hz | hz
  · exact IsView.pers d z _ _ (((e.trans e2).trans (Ex.new hl)).trans (Ex.new hl2)) (ha.2 z hz)
  · exact IsView.pers d z _ _ ((Ex.new hl).trans (Ex.new hl2)) (hb.2 z hz)
theorem est_ixVs {n : Nat} {k : Int} (hv : σ[i]? = some (some v)) (h : IsVs n d v H) (hk : Ev t2 σ H (.int k)) (h0 : 0 ≤ k) (h1 : k < n) : Est (tOp (rIxL K) (tVar i) t2) σ H (IsView d) := fun H1 e Q q => by
  obtain ⟨p, vs, rfl, hp, hl, ha⟩ := h
  refine ⟨.ref p, hv, hk H1 e _ fun H2 e2 => ?_⟩
  have hlt : k.toNat < vs.length := by omega
  have z := atI_nat (xs := vs) (j := k.toNat) (List.getElem?_eq_getElem hlt)
  rw [show ((k.toNat : Nat) : Int) = k by omega] at z
  exact ⟨p, vs, k, _, rfl, rfl, sq_of ((e.trans e2) _ _ hp), z, q _ _ e2 (IsView.pers d _ _ _ (e.trans e2) (ha _ (List.getElem_mem hlt)))⟩
theorem IsVs.pers (n d : Nat) (v : V) : Pers (IsVs n d v) := fun H H' e ⟨p, vs, a, b, c⟩ => ⟨p, vs, a, e _ _ b, AllZ.pers (IsView.pers d) _ _ _ e c⟩
def spOdd : Sp := fun vs H Q _ => ∃ (cell : Int) (x : V) (d : Nat), vs = [.int cell, x] ∧ IsView d x H ∧ ∀ v H', Ex H H' → IsView (d + 2) v H' → Q v H'
theorem ok_odd {f : Addr} {fd : FuncData} {k : Nat} (A : FnAt K mg "_law_odd" sL_odd PL_odd f fd) (B : Bt mg) : FnOk P w K mg base CX0 (k + 1) f fd PL_odd spOdd := by
  refine A.F.ok scL_odd (fun vs H Q E h => ?_) (fun cdv A' outer s H vs Q E hr h => ?_)
  · obtain ⟨_, _, _, rfl, _⟩ := h
    rfl
  obtain ⟨cell, x, d, rfl, hv, q⟩ := h
  refine ⟨_, (pss_cons (ps_set (i := 2) scL_odd.nd rfl (.inl rfl) (pe_ix ix_list (pe_lst (pa_cons (pe_un un_neg pe_int) (pa_cons pe_int (pa_cons pe_int (pa_cons pe_int (pa_cons pe_int (pa_cons (pe_un un_neg pe_int) (pa_cons pe_int pa_nil)))))))) (pe_op op_mod (pe_op op_fdiv (pv 0) pe_int) pe_int) (fun _ _ => rfl)))
  (pss_cons (ps_set (i := 3) scL_odd.nd rfl (.inl rfl) (pe_ix ix_list (pe_lst (pa_cons (pe_op op_add pe_int (pv 2)) (pa_cons (pe_op op_sub (pe_op op_sub pe_int pe_int) (pe_op op_mod (pe_op op_fdiv (pv 0) pe_int) pe_int)) pa_nil))) (pe_op op_mod (pe_op op_fdiv (pv 0) pe_int) pe_int) (fun _ _ => rfl)))
  (pss_cons (ps_set (i := 4) scL_odd.nd rfl (.inl rfl) (pe_lst (pa_cons (pe_tup (pa_cons pe_str (pa_cons (pv 3) pa_nil))) (pa_cons (pe_tup (pa_cons pe_str (pa_cons (pv 1) (pa_cons (pe_op op_add pe_int (pv 2)) (pa_cons pe_int (pa_cons pe_int pa_nil)))))) (pa_cons (pe_tup (pa_cons pe_str (pa_cons (pv 1) (pa_cons (pe_tup (pa_cons pe_int (pa_cons (pe_op op_add pe_int (pv 2)) pa_nil))) pa_nil)))) (pa_cons (pe_tup (pa_cons pe_str (pa_cons (pv 1) (pa_cons (pe_tup pa_nil) pa_nil)))) pa_nil))))))
  (pss_cons (ps_set (i := 4) scL_odd.nd rfl (.inl rfl) (pe_op op_cat (pv 4) (pe_lst (pa_cons (pe_tup (pa_cons pe_str (pa_cons (pv 1) (pa_cons (pe_tup (pa_cons pe_int pa_nil)) (pa_cons (pe_op op_add pe_int (pv 2)) pa_nil))))) (pa_cons (pe_tup (pa_cons pe_str (pa_cons (pv 1) (pa_cons (pe_tup (pa_cons pe_int (pa_cons (pe_op op_add pe_int (pv 2)) pa_nil))) (pa_cons pe_int pa_nil))))) (pa_cons (pe_tup (pa_cons pe_str (pa_cons (pv 1) pa_nil))) pa_nil))))))
  (pss_cons (ps_set (i := 4) scL_odd.nd rfl (.inl rfl) (pe_op op_cat (pv 4) (pe_lst (pa_cons (pe_tup (pa_cons pe_str (pa_cons (pv 1) (pa_cons (pv 1) (pa_cons (pe_tup (pa_cons (pe_tup (pa_cons pe_int (pa_cons pe_int pa_nil))) (pa_cons (pe_tup (pa_cons (pe_op op_add pe_int (pv 2)) (pa_cons pe_int pa_nil))) pa_nil))) pa_nil))))) pa_nil))))
  (pss_cons (ps_set (i := 4) scL_odd.nd rfl (.inl rfl) (pe_op op_cat (pv 4) (pe_lst (pa_cons (pe_tup (pa_cons pe_str (pa_cons (pv 1) (pa_cons (pe_tup (pa_cons pe_str (pa_cons (pv 1) (pa_cons (pe_tup (pa_cons pe_int pa_nil)) pa_nil)))) (pa_cons (pe_tup (pa_cons (pe_tup (pa_cons pe_int (pa_cons (pe_op op_add pe_int (pv 2)) pa_nil))) pa_nil)) pa_nil))))) pa_nil))))
  (pss_cons (ps_set (i := 4) scL_odd.nd rfl (.inl rfl) (pe_op op_cat (pv 4) (pe_lst (pa_cons (pe_tup (pa_cons (pe_ix ix_list (pe_lst (pa_cons pe_str (pa_cons pe_str (pa_cons pe_str (pa_cons pe_str pa_nil))))) (pe_op op_mod (pe_op op_fdiv (pv 0) pe_int) pe_int) (fun _ _ => rfl)) (pa_cons (pv 1) (pa_cons (pv 1) pa_nil)))) pa_nil))))
  (pss_one (ps_ret (pe_ix ix_list (pv 4) (pe_op op_mod (pv 0) pe_int) (fun _ _ => rfl))))))))))), ?_⟩
  refine w_asg (P := IsInt) (est_menu (n := 7) (i := cell / 10 % 7) (allz_cons (fun H1 e1 Q1 q1 => by (repeat (first | (refine ⟨_, rfl, ?_⟩) | (refine ⟨_, _, rfl, rfl, ?_⟩) | (refine ⟨⟨by decide, by decide⟩, ?_⟩) | (refine ⟨(by show (0 : Int) < _; decide), ?_⟩) | (refine ⟨rfl, ?_⟩) | (refine ⟨(by show _ ≠ (0 : Int); omega), ?_⟩) | (refine ⟨.inl ⟨by decide, by decide⟩, ?_⟩) | (refine ⟨(by assumption : CDivN _ _), ?_⟩))); exact q1 _ _ (Ex.refl _) ⟨_, rfl⟩) (allz_cons (fun H1 e1 Q1 q1 => by (repeat (first | (refine ⟨_, rfl, ?_⟩) | (refine ⟨_, _, rfl, rfl, ?_⟩) | (refine ⟨⟨by decide, by decide⟩, ?_⟩) | (refine ⟨(by show (0 : Int) < _; decide), ?_⟩) | (refine ⟨rfl, ?_⟩) | (refine ⟨(by show _ ≠ (0 : Int); omega), ?_⟩) | (refine ⟨.inl ⟨by decide, by decide⟩, ?_⟩) | (refine ⟨(by assumption : CDivN _ _), ?_⟩))); exact q1 _ _ (Ex.refl _) ⟨_, rfl⟩) (allz_cons (fun H1 e1 Q1 q1 => by (repeat (first | (refine ⟨_, rfl, ?_⟩) | (refine ⟨_, _, rfl, rfl, ?_⟩) | (refine ⟨⟨by decide, by decide⟩, ?_⟩) | (refine ⟨(by show (0 : Int) < _; decide), ?_⟩) | (refine ⟨rfl, ?_⟩) | (refine ⟨(by show _ ≠ (0 : Int); omega), ?_⟩) | (refine ⟨.inl ⟨by decide, by decide⟩, ?_⟩) | (refine ⟨(by assumption : CDivN _ _), ?_⟩))); exact q1 _ _ (Ex.refl _) ⟨_, rfl⟩) (allz_cons (fun H1 e1 Q1 q1 => by (repeat (first | (refine ⟨_, rfl, ?_⟩) | (refine ⟨_, _, rfl, rfl, ?_⟩) | (refine ⟨⟨by decide, by decide⟩, ?_⟩) | (refine ⟨(by show (0 : Int) < _; decide), ?_⟩) | (refine ⟨rfl, ?_⟩) | (refine ⟨(by show _ ≠ (0 : Int); omega), ?_⟩) | (refine ⟨.inl ⟨by decide, by decide⟩, ?_⟩) | (refine ⟨(by assumption : CDivN _ _), ?_⟩))); exact q1 _ _ (Ex.refl _) ⟨_, rfl⟩) (allz_cons (fun H1 e1 Q1 q1 => by (repeat (first | (refine ⟨_, rfl, ?_⟩) | (refine ⟨_, _, rfl, rfl, ?_⟩) | (refine ⟨⟨by decide, by decide⟩, ?_⟩) | (refine ⟨(by show (0 : Int) < _; decide), ?_⟩) | (refine ⟨rfl, ?_⟩) | (refine ⟨(by show _ ≠ (0 : Int); omega), ?_⟩) | (refine ⟨.inl ⟨by decide, by decide⟩, ?_⟩) | (refine ⟨(by assumption : CDivN _ _), ?_⟩))); exact q1 _ _ (Ex.refl _) ⟨_, rfl⟩) (allz_cons (fun H1 e1 Q1 q1 => by (repeat (first | (refine ⟨_, rfl, ?_⟩) | (refine ⟨_, _, rfl, rfl, ?_⟩) | (refine ⟨⟨by decide, by decide⟩, ?_⟩) | (refine ⟨(by show (0 : Int) < _; decide), ?_⟩) | (refine ⟨rfl, ?_⟩) | (refine ⟨(by show _ ≠ (0 : Int); omega), ?_⟩) | (refine ⟨.inl ⟨by decide, by decide⟩, ?_⟩) | (refine ⟨(by assumption : CDivN _ _), ?_⟩))); exact q1 _ _ (Ex.refl _) ⟨_, rfl⟩) (allz_cons (fun H1 e1 Q1 q1 => by (repeat (first | (refine ⟨_, rfl, ?_⟩) | (refine ⟨_, _, rfl, rfl, ?_⟩) | (refine ⟨⟨by decide, by decide⟩, ?_⟩) | (refine ⟨(by show (0 : Int) < _; decide), ?_⟩) | (refine ⟨rfl, ?_⟩) | (refine ⟨(by show _ ≠ (0 : Int); omega), ?_⟩) | (refine ⟨.inl ⟨by decide, by decide⟩, ?_⟩) | (refine ⟨(by assumption : CDivN _ _), ?_⟩))); exact q1 _ _ (Ex.refl _) ⟨_, rfl⟩) allz_nil IsInt.pers) IsInt.pers) IsInt.pers) IsInt.pers) IsInt.pers) IsInt.pers) IsInt.pers) IsInt.pers (fun H1 e1 Q1 q1 => by (repeat (first | (refine ⟨_, rfl, ?_⟩) | (refine ⟨_, _, rfl, rfl, ?_⟩) | (refine ⟨⟨by decide, by decide⟩, ?_⟩) | (refine ⟨(by show (0 : Int) < _; decide), ?_⟩) | (refine ⟨rfl, ?_⟩) | (refine ⟨(by show _ ≠ (0 : Int); omega), ?_⟩) | (refine ⟨.inl ⟨by decide, by decide⟩, ?_⟩) | (refine ⟨(by assumption : CDivN _ _), ?_⟩))); exact q1 _ (Ex.refl _)) (by omega) (by omega) (by omega)) fun v2 H2 e2 ⟨far, h2⟩ => ?_
  subst h2
  refine w_asg (P := IsInt) (est_menu (n := 2) (i := cell / 70 % 2) (allz_cons (fun H1 e1 Q1 q1 => by (repeat (first | (refine ⟨_, rfl, ?_⟩) | (refine ⟨_, _, rfl, rfl, ?_⟩) | (refine ⟨⟨by decide, by decide⟩, ?_⟩) | (refine ⟨(by show (0 : Int) < _; decide), ?_⟩) | (refine ⟨rfl, ?_⟩) | (refine ⟨(by show _ ≠ (0 : Int); omega), ?_⟩) | (refine ⟨.inl ⟨by decide, by decide⟩, ?_⟩) | (refine ⟨(by assumption : CDivN _ _), ?_⟩))); exact q1 _ _ (Ex.refl _) ⟨_, rfl⟩) (allz_cons (fun H1 e1 Q1 q1 => by (repeat (first | (refine ⟨_, rfl, ?_⟩) | (refine ⟨_, _, rfl, rfl, ?_⟩) | (refine ⟨⟨by decide, by decide⟩, ?_⟩) | (refine ⟨(by show (0 : Int) < _; decide), ?_⟩) | (refine ⟨rfl, ?_⟩) | (refine ⟨(by show _ ≠ (0 : Int); omega), ?_⟩) | (refine ⟨.inl ⟨by decide, by decide⟩, ?_⟩) | (refine ⟨(by assumption : CDivN _ _), ?_⟩))); exact q1 _ _ (Ex.refl _) ⟨_, rfl⟩) allz_nil IsInt.pers) IsInt.pers) IsInt.pers (fun H1 e1 Q1 q1 => by (repeat (first | (refine ⟨_, rfl, ?_⟩) | (refine ⟨_, _, rfl, rfl, ?_⟩) | (refine ⟨⟨by decide, by decide⟩, ?_⟩) | (refine ⟨(by show (0 : Int) < _; decide), ?_⟩) | (refine ⟨rfl, ?_⟩) | (refine ⟨(by show _ ≠ (0 : Int); omega), ?_⟩) | (refine ⟨.inl ⟨by decide, by decide⟩, ?_⟩) | (refine ⟨(by assumption : CDivN _ _), ?_⟩))); exact q1 _ (Ex.refl _)) (by omega) (by omega) (by omega)) fun v3 H3 e3 ⟨tab, h3⟩ => ?_
  subst h3
  have e03 := e2.trans e3
  refine w_asg (P := IsVs 4 (d + 2)) (est_vs (allz_cons (vc_table (fun H1 e1 Q1 q1 => by (repeat (first | (refine ⟨_, rfl, ?_⟩) | (refine ⟨_, _, rfl, rfl, ?_⟩) | (refine ⟨⟨by decide, by decide⟩, ?_⟩) | (refine ⟨(by show (0 : Int) < _; decide), ?_⟩) | (refine ⟨rfl, ?_⟩) | (refine ⟨(by show _ ≠ (0 : Int); omega), ?_⟩) | (refine ⟨.inl ⟨by decide, by decide⟩, ?_⟩) | (refine ⟨(by assumption : CDivN _ _), ?_⟩))); exact q1 _ _ (Ex.refl _) ⟨_, rfl⟩)) (allz_cons (vc_within (est_var rfl ((IsView.pers _ _ _ _ e03 hv).le (by omega)) (IsView.pers (d + 1) _)) (fun H1 e1 Q1 q1 => by (repeat (first | (refine ⟨_, rfl, ?_⟩) | (refine ⟨_, _, rfl, rfl, ?_⟩) | (refine ⟨⟨by decide, by decide⟩, ?_⟩) | (refine ⟨(by show (0 : Int) < _; decide), ?_⟩) | (refine ⟨rfl, ?_⟩) | (refine ⟨(by show _ ≠ (0 : Int); omega), ?_⟩) | (refine ⟨.inl ⟨by decide, by decide⟩, ?_⟩) | (refine ⟨(by assumption : CDivN _ _), ?_⟩))); exact q1 _ _ (Ex.refl _) ⟨_, rfl⟩) (est_endI (fun H1 e1 Q1 q1 => by (repeat (first | (refine ⟨_, rfl, ?_⟩) | (refine ⟨_, _, rfl, rfl, ?_⟩) | (refine ⟨⟨by decide, by decide⟩, ?_⟩) | (refine ⟨(by show (0 : Int) < _; decide), ?_⟩) | (refine ⟨rfl, ?_⟩) | (refine ⟨(by show _ ≠ (0 : Int); omega), ?_⟩) | (refine ⟨.inl ⟨by decide, by decide⟩, ?_⟩) | (refine ⟨(by assumption : CDivN _ _), ?_⟩))); exact q1 _ _ (Ex.refl _) ⟨_, rfl⟩)) (est_endI (fun H1 e1 Q1 q1 => by (repeat (first | (refine ⟨_, rfl, ?_⟩) | (refine ⟨_, _, rfl, rfl, ?_⟩) | (refine ⟨⟨by decide, by decide⟩, ?_⟩) | (refine ⟨(by show (0 : Int) < _; decide), ?_⟩) | (refine ⟨rfl, ?_⟩) | (refine ⟨(by show _ ≠ (0 : Int); omega), ?_⟩) | (refine ⟨.inl ⟨by decide, by decide⟩, ?_⟩) | (refine ⟨(by assumption : CDivN _ _), ?_⟩))); exact q1 _ _ (Ex.refl _) ⟨_, rfl⟩))) (allz_cons (vc_columns (est_var rfl ((IsView.pers _ _ _ _ e03 hv).le (by omega)) (IsView.pers (d + 1) _)) (est_cols (allz_cons (fun H1 e1 Q1 q1 => by (repeat (first | (refine ⟨_, rfl, ?_⟩) | (refine ⟨_, _, rfl, rfl, ?_⟩) | (refine ⟨⟨by decide, by decide⟩, ?_⟩) | (refine ⟨(by show (0 : Int) < _; decide), ?_⟩) | (refine ⟨rfl, ?_⟩) | (refine ⟨(by show _ ≠ (0 : Int); omega), ?_⟩) | (refine ⟨.inl ⟨by decide, by decide⟩, ?_⟩) | (refine ⟨(by assumption : CDivN _ _), ?_⟩))); exact q1 _ _ (Ex.refl _) ⟨_, rfl⟩) (allz_cons (fun H1 e1 Q1 q1 => by (repeat (first | (refine ⟨_, rfl, ?_⟩) | (refine ⟨_, _, rfl, rfl, ?_⟩) | (refine ⟨⟨by decide, by decide⟩, ?_⟩) | (refine ⟨(by show (0 : Int) < _; decide), ?_⟩) | (refine ⟨rfl, ?_⟩) | (refine ⟨(by show _ ≠ (0 : Int); omega), ?_⟩) | (refine ⟨.inl ⟨by decide, by decide⟩, ?_⟩) | (refine ⟨(by assumption : CDivN _ _), ?_⟩))); exact q1 _ _ (Ex.refl _) ⟨_, rfl⟩) allz_nil IsInt.pers) IsInt.pers) (by omega))) (allz_cons (vc_columns (est_var rfl ((IsView.pers _ _ _ _ e03 hv).le (by omega)) (IsView.pers (d + 1) _)) (est_cols allz_nil (by omega))) allz_nil (IsView.pers _)) (IsView.pers _)) (IsView.pers _)) (IsView.pers _)) (by omega)) fun v4 H4 e4 h4 => ?_
  have e04 := e03.trans e4
  refine w_asg (P := IsVs 7 (d + 2)) (est_catVs (m := 3) rfl h4 (allz_cons (vc_sums (est_var rfl ((IsView.pers _ _ _ _ e04 hv).le (by omega)) (IsView.pers (d + 1) _)) (est_cols (allz_cons (fun H1 e1 Q1 q1 => by (repeat (first | (refine ⟨_, rfl, ?_⟩) | (refine ⟨_, _, rfl, rfl, ?_⟩) | (refine ⟨⟨by decide, by decide⟩, ?_⟩) | (refine ⟨(by show (0 : Int) < _; decide), ?_⟩) | (refine ⟨rfl, ?_⟩) | (refine ⟨(by show _ ≠ (0 : Int); omega), ?_⟩) | (refine ⟨.inl ⟨by decide, by decide⟩, ?_⟩) | (refine ⟨(by assumption : CDivN _ _), ?_⟩))); exact q1 _ _ (Ex.refl _) ⟨_, rfl⟩) allz_nil IsInt.pers) (by omega)) (fun H1 e1 Q1 q1 => by (repeat (first | (refine ⟨_, rfl, ?_⟩) | (refine ⟨_, _, rfl, rfl, ?_⟩) | (refine ⟨⟨by decide, by decide⟩, ?_⟩) | (refine ⟨(by show (0 : Int) < _; decide), ?_⟩) | (refine ⟨rfl, ?_⟩) | (refine ⟨(by show _ ≠ (0 : Int); omega), ?_⟩) | (refine ⟨.inl ⟨by decide, by decide⟩, ?_⟩) | (refine ⟨(by assumption : CDivN _ _), ?_⟩))); exact q1 _ _ (Ex.refl _) ⟨_, rfl⟩)) (allz_cons (vc_sums (est_var rfl ((IsView.pers _ _ _ _ e04 hv).le (by omega)) (IsView.pers (d + 1) _)) (est_cols (allz_cons (fun H1 e1 Q1 q1 => by (repeat (first | (refine ⟨_, rfl, ?_⟩) | (refine ⟨_, _, rfl, rfl, ?_⟩) | (refine ⟨⟨by decide, by decide⟩, ?_⟩) | (refine ⟨(by show (0 : Int) < _; decide), ?_⟩) | (refine ⟨rfl, ?_⟩) | (refine ⟨(by show _ ≠ (0 : Int); omega), ?_⟩) | (refine ⟨.inl ⟨by decide, by decide⟩, ?_⟩) | (refine ⟨(by assumption : CDivN _ _), ?_⟩))); exact q1 _ _ (Ex.refl _) ⟨_, rfl⟩) (allz_cons (fun H1 e1 Q1 q1 => by (repeat (first | (refine ⟨_, rfl, ?_⟩) | (refine ⟨_, _, rfl, rfl, ?_⟩) | (refine ⟨⟨by decide, by decide⟩, ?_⟩) | (refine ⟨(by show (0 : Int) < _; decide), ?_⟩) | (refine ⟨rfl, ?_⟩) | (refine ⟨(by show _ ≠ (0 : Int); omega), ?_⟩) | (refine ⟨.inl ⟨by decide, by decide⟩, ?_⟩) | (refine ⟨(by assumption : CDivN _ _), ?_⟩))); exact q1 _ _ (Ex.refl _) ⟨_, rfl⟩) allz_nil IsInt.pers) IsInt.pers) (by omega)) (fun H1 e1 Q1 q1 => by (repeat (first | (refine ⟨_, rfl, ?_⟩) | (refine ⟨_, _, rfl, rfl, ?_⟩) | (refine ⟨⟨by decide, by decide⟩, ?_⟩) | (refine ⟨(by show (0 : Int) < _; decide), ?_⟩) | (refine ⟨rfl, ?_⟩) | (refine ⟨(by show _ ≠ (0 : Int); omega), ?_⟩) | (refine ⟨.inl ⟨by decide, by decide⟩, ?_⟩) | (refine ⟨(by assumption : CDivN _ _), ?_⟩))); exact q1 _ _ (Ex.refl _) ⟨_, rfl⟩)) (allz_cons (vc_reach (est_var rfl ((IsView.pers _ _ _ _ e04 hv).le (by omega)) (IsView.pers (d + 1) _))) allz_nil (IsView.pers _)) (IsView.pers _)) (IsView.pers _)) (by omega)) fun v5 H5 e5 h5 => ?_
  have e05 := e04.trans e5
  refine w_asg (P := IsVs 8 (d + 2)) (est_catVs (m := 1) rfl h5 (allz_cons (vc_meet (est_var rfl ((IsView.pers _ _ _ _ e05 hv).le (by omega)) (IsView.pers (d + 1) _)) (est_var rfl ((IsView.pers _ _ _ _ e05 hv).le (by omega)) (IsView.pers (d + 1) _)) (est_pairs (allz_cons (est_pair (fun H1 e1 Q1 q1 => by (repeat (first | (refine ⟨_, rfl, ?_⟩) | (refine ⟨_, _, rfl, rfl, ?_⟩) | (refine ⟨⟨by decide, by decide⟩, ?_⟩) | (refine ⟨(by show (0 : Int) < _; decide), ?_⟩) | (refine ⟨rfl, ?_⟩) | (refine ⟨(by show _ ≠ (0 : Int); omega), ?_⟩) | (refine ⟨.inl ⟨by decide, by decide⟩, ?_⟩) | (refine ⟨(by assumption : CDivN _ _), ?_⟩))); exact q1 _ _ (Ex.refl _) ⟨_, rfl⟩) (fun H1 e1 Q1 q1 => by (repeat (first | (refine ⟨_, rfl, ?_⟩) | (refine ⟨_, _, rfl, rfl, ?_⟩) | (refine ⟨⟨by decide, by decide⟩, ?_⟩) | (refine ⟨(by show (0 : Int) < _; decide), ?_⟩) | (refine ⟨rfl, ?_⟩) | (refine ⟨(by show _ ≠ (0 : Int); omega), ?_⟩) | (refine ⟨.inl ⟨by decide, by decide⟩, ?_⟩) | (refine ⟨(by assumption : CDivN _ _), ?_⟩))); exact q1 _ _ (Ex.refl _) ⟨_, rfl⟩)) (allz_cons (est_pair (fun H1 e1 Q1 q1 => by (repeat (first | (refine ⟨_, rfl, ?_⟩) | (refine ⟨_, _, rfl, rfl, ?_⟩) | (refine ⟨⟨by decide, by decide⟩, ?_⟩) | (refine ⟨(by show (0 : Int) < _; decide), ?_⟩) | (refine ⟨rfl, ?_⟩) | (refine ⟨(by show _ ≠ (0 : Int); omega), ?_⟩) | (refine ⟨.inl ⟨by decide, by decide⟩, ?_⟩) | (refine ⟨(by assumption : CDivN _ _), ?_⟩))); exact q1 _ _ (Ex.refl _) ⟨_, rfl⟩) (fun H1 e1 Q1 q1 => by (repeat (first | (refine ⟨_, rfl, ?_⟩) | (refine ⟨_, _, rfl, rfl, ?_⟩) | (refine ⟨⟨by decide, by decide⟩, ?_⟩) | (refine ⟨(by show (0 : Int) < _; decide), ?_⟩) | (refine ⟨rfl, ?_⟩) | (refine ⟨(by show _ ≠ (0 : Int); omega), ?_⟩) | (refine ⟨.inl ⟨by decide, by decide⟩, ?_⟩) | (refine ⟨(by assumption : CDivN _ _), ?_⟩))); exact q1 _ _ (Ex.refl _) ⟨_, rfl⟩)) allz_nil IsPair.pers) IsPair.pers) (by omega))) allz_nil (IsView.pers _)) (by omega)) fun v6 H6 e6 h6 => ?_
  have e06 := e05.trans e6
  refine w_asg (P := IsVs 9 (d + 2)) (est_catVs (m := 1) rfl h6 (allz_cons (vc_meet (est_var rfl ((IsView.pers _ _ _ _ e06 hv).le (by omega)) (IsView.pers (d + 1) _)) (vc_columns (est_var rfl (IsView.pers _ _ _ _ e06 hv) (IsView.pers d _)) (est_cols (allz_cons (fun H1 e1 Q1 q1 => by (repeat (first | (refine ⟨_, rfl, ?_⟩) | (refine ⟨_, _, rfl, rfl, ?_⟩) | (refine ⟨⟨by decide, by decide⟩, ?_⟩) | (refine ⟨(by show (0 : Int) < _; decide), ?_⟩) | (refine ⟨rfl, ?_⟩) | (refine ⟨(by show _ ≠ (0 : Int); omega), ?_⟩) | (refine ⟨.inl ⟨by decide, by decide⟩, ?_⟩) | (refine ⟨(by assumption : CDivN _ _), ?_⟩))); exact q1 _ _ (Ex.refl _) ⟨_, rfl⟩) allz_nil IsInt.pers) (by omega))) (est_pairs (allz_cons (est_pair (fun H1 e1 Q1 q1 => by (repeat (first | (refine ⟨_, rfl, ?_⟩) | (refine ⟨_, _, rfl, rfl, ?_⟩) | (refine ⟨⟨by decide, by decide⟩, ?_⟩) | (refine ⟨(by show (0 : Int) < _; decide), ?_⟩) | (refine ⟨rfl, ?_⟩) | (refine ⟨(by show _ ≠ (0 : Int); omega), ?_⟩) | (refine ⟨.inl ⟨by decide, by decide⟩, ?_⟩) | (refine ⟨(by assumption : CDivN _ _), ?_⟩))); exact q1 _ _ (Ex.refl _) ⟨_, rfl⟩) (fun H1 e1 Q1 q1 => by (repeat (first | (refine ⟨_, rfl, ?_⟩) | (refine ⟨_, _, rfl, rfl, ?_⟩) | (refine ⟨⟨by decide, by decide⟩, ?_⟩) | (refine ⟨(by show (0 : Int) < _; decide), ?_⟩) | (refine ⟨rfl, ?_⟩) | (refine ⟨(by show _ ≠ (0 : Int); omega), ?_⟩) | (refine ⟨.inl ⟨by decide, by decide⟩, ?_⟩) | (refine ⟨(by assumption : CDivN _ _), ?_⟩))); exact q1 _ _ (Ex.refl _) ⟨_, rfl⟩)) allz_nil IsPair.pers) (by omega))) allz_nil (IsView.pers _)) (by omega)) fun v7 H7 e7 h7 => ?_
  have e07 := e06.trans e7
  refine w_asg (P := IsVs 10 (d + 2)) (est_catVs (m := 1) rfl h7 (allz_cons (vc_word (est_menu (n := 4) (i := cell / 70 % 4) (allz_cons ((est_is _).imp fun _ _ _ h => ⟨_, h, by decide⟩) (allz_cons ((est_is _).imp fun _ _ _ h => ⟨_, h, by decide⟩) (allz_cons ((est_is _).imp fun _ _ _ h => ⟨_, h, by decide⟩) (allz_cons ((est_is _).imp fun _ _ _ h => ⟨_, h, by decide⟩) allz_nil IsWord.pers) IsWord.pers) IsWord.pers) IsWord.pers) IsWord.pers (fun H1 e1 Q1 q1 => by (repeat (first | (refine ⟨_, rfl, ?_⟩) | (refine ⟨_, _, rfl, rfl, ?_⟩) | (refine ⟨⟨by decide, by decide⟩, ?_⟩) | (refine ⟨(by show (0 : Int) < _; decide), ?_⟩) | (refine ⟨rfl, ?_⟩) | (refine ⟨(by show _ ≠ (0 : Int); omega), ?_⟩) | (refine ⟨.inl ⟨by decide, by decide⟩, ?_⟩) | (refine ⟨(by assumption : CDivN _ _), ?_⟩))); exact q1 _ (Ex.refl _)) (by omega) (by omega) (by omega)) (est_var rfl ((IsView.pers _ _ _ _ e07 hv).le (by omega)) (IsView.pers (d + 1) _)) (est_var rfl ((IsView.pers _ _ _ _ e07 hv).le (by omega)) (IsView.pers (d + 1) _)) (fun _ h => .inr (.inr h))) allz_nil (IsView.pers _)) (by omega)) fun v8 H8 e8 h8 => ?_
  have e08 := e07.trans e8
  exact w_ret (est_ixVs (k := cell % 10) rfl h8 (fun H1 e1 Q1 q1 => by (repeat (first | (refine ⟨_, rfl, ?_⟩) | (refine ⟨_, _, rfl, rfl, ?_⟩) | (refine ⟨⟨by decide, by decide⟩, ?_⟩) | (refine ⟨(by show (0 : Int) < _; decide), ?_⟩) | (refine ⟨rfl, ?_⟩) | (refine ⟨(by show _ ≠ (0 : Int); omega), ?_⟩) | (refine ⟨.inl ⟨by decide, by decide⟩, ?_⟩) | (refine ⟨(by assumption : CDivN _ _), ?_⟩))); exact q1 _ (Ex.refl _)) (by omega) (by omega)) fun v H' e h => q v H' (e08.trans e) h
def spWrapped : Sp := fun vs H Q _ => ∃ (cell : Int) (x y : V) (d : Nat), vs = [.int cell, x, y] ∧ IsView d x H ∧ IsView d y H ∧ ∀ v H', Ex H H' → IsView (d + 1) v H' → Q v H'
theorem ok_wrapped {f : Addr} {fd : FuncData} {k : Nat} (A : FnAt K mg "_law_wrapped" sL_wrapped PL_wrapped f fd) (B : Bt mg) : FnOk P w K mg base CX0 (k + 1) f fd PL_wrapped spWrapped := by
  refine A.F.ok scL_wrapped (fun vs H Q E h => ?_) (fun cdv A' outer s H vs Q E hr h => ?_)
  · obtain ⟨_, _, _, _, rfl, _⟩ := h
    rfl
  obtain ⟨cell, x, y, d, rfl, hv, hu, q⟩ := h
  refine ⟨_, (pss_cons (ps_set (i := 3) scL_wrapped.nd rfl (.inl rfl) (pe_lst (pa_cons (pv 2) (pa_cons (pe_tup (pa_cons pe_str (pa_cons (pv 2) pa_nil))) (pa_cons (pe_tup (pa_cons pe_str (pa_cons (pv 1) (pa_cons (pv 2) pa_nil)))) (pa_cons (pe_tup (pa_cons pe_str (pa_cons (pv 2) (pa_cons (pv 1) pa_nil)))) (pa_cons (pe_tup (pa_cons pe_str (pa_cons (pv 1) (pa_cons (pv 2) (pa_cons (pe_tup pa_nil) pa_nil))))) (pa_cons (pe_tup (pa_cons pe_str (pa_cons (pv 2) pa_nil))) pa_nil))))))))
  (pss_cons (ps_set (i := 3) scL_wrapped.nd rfl (.inl rfl) (pe_op op_cat (pv 3) (pe_lst (pa_cons (pe_tup (pa_cons pe_str (pa_cons (pv 2) (pa_cons (pe_tup (pa_cons pe_int pa_nil)) pa_nil)))) (pa_cons (pe_tup (pa_cons pe_str (pa_cons (pv 2) (pa_cons (pe_tup pa_nil) (pa_cons pe_int pa_nil))))) (pa_cons (pe_tup (pa_cons pe_str (pa_cons (pv 2) (pa_cons (pv 2) pa_nil)))) pa_nil))))))
  (pss_one (ps_ret (pe_ix ix_list (pv 3) (pe_op op_mod (pv 0) pe_int) (fun _ _ => rfl)))))), ?_⟩
  refine w_asg (P := IsVs 6 (d + 1)) (est_vs (allz_cons (est_var rfl ((IsView.pers _ _ _ _ (Ex.refl _) hu).le (by omega)) (IsView.pers (d + 1) _)) (allz_cons (vc_once (est_var rfl (IsView.pers _ _ _ _ (Ex.refl _) hu) (IsView.pers d _))) (allz_cons (vc_both (est_var rfl (IsView.pers _ _ _ _ (Ex.refl _) hv) (IsView.pers d _)) (est_var rfl (IsView.pers _ _ _ _ (Ex.refl _) hu) (IsView.pers d _))) (allz_cons (vc_less (est_var rfl (IsView.pers _ _ _ _ (Ex.refl _) hu) (IsView.pers d _)) (est_var rfl (IsView.pers _ _ _ _ (Ex.refl _) hv) (IsView.pers d _))) (allz_cons (vc_meet (est_var rfl (IsView.pers _ _ _ _ (Ex.refl _) hv) (IsView.pers d _)) (est_var rfl (IsView.pers _ _ _ _ (Ex.refl _) hu) (IsView.pers d _)) (est_pairs allz_nil (by omega))) (allz_cons (vc_reach (est_var rfl (IsView.pers _ _ _ _ (Ex.refl _) hu) (IsView.pers d _))) allz_nil (IsView.pers _)) (IsView.pers _)) (IsView.pers _)) (IsView.pers _)) (IsView.pers _)) (IsView.pers _)) (by omega)) fun v3 H3 e3 h3 => ?_
  refine w_asg (P := IsVs 9 (d + 1)) (est_catVs (m := 3) rfl h3 (allz_cons (vc_columns (est_var rfl (IsView.pers _ _ _ _ e3 hu) (IsView.pers d _)) (est_cols (allz_cons (fun H1 e1 Q1 q1 => by (repeat (first | (refine ⟨_, rfl, ?_⟩) | (refine ⟨_, _, rfl, rfl, ?_⟩) | (refine ⟨⟨by decide, by decide⟩, ?_⟩) | (refine ⟨(by show (0 : Int) < _; decide), ?_⟩) | (refine ⟨rfl, ?_⟩) | (refine ⟨(by show _ ≠ (0 : Int); omega), ?_⟩) | (refine ⟨.inl ⟨by decide, by decide⟩, ?_⟩) | (refine ⟨(by assumption : CDivN _ _), ?_⟩))); exact q1 _ _ (Ex.refl _) ⟨_, rfl⟩) allz_nil IsInt.pers) (by omega))) (allz_cons (vc_sums (est_var rfl (IsView.pers _ _ _ _ e3 hu) (IsView.pers d _)) (est_cols allz_nil (by omega)) (fun H1 e1 Q1 q1 => by (repeat (first | (refine ⟨_, rfl, ?_⟩) | (refine ⟨_, _, rfl, rfl, ?_⟩) | (refine ⟨⟨by decide, by decide⟩, ?_⟩) | (refine ⟨(by show (0 : Int) < _; decide), ?_⟩) | (refine ⟨rfl, ?_⟩) | (refine ⟨(by show _ ≠ (0 : Int); omega), ?_⟩) | (refine ⟨.inl ⟨by decide, by decide⟩, ?_⟩) | (refine ⟨(by assumption : CDivN _ _), ?_⟩))); exact q1 _ _ (Ex.refl _) ⟨_, rfl⟩)) (allz_cons (vc_both (est_var rfl (IsView.pers _ _ _ _ e3 hu) (IsView.pers d _)) (est_var rfl (IsView.pers _ _ _ _ e3 hu) (IsView.pers d _))) allz_nil (IsView.pers _)) (IsView.pers _)) (IsView.pers _)) (by omega)) fun v4 H4 e4 h4 => ?_
  have e04 := e3.trans e4
  exact w_ret (est_ixVs (k := cell % 9) rfl h4 (fun H1 e1 Q1 q1 => by (repeat (first | (refine ⟨_, rfl, ?_⟩) | (refine ⟨_, _, rfl, rfl, ?_⟩) | (refine ⟨⟨by decide, by decide⟩, ?_⟩) | (refine ⟨(by show (0 : Int) < _; decide), ?_⟩) | (refine ⟨rfl, ?_⟩) | (refine ⟨(by show _ ≠ (0 : Int); omega), ?_⟩) | (refine ⟨.inl ⟨by decide, by decide⟩, ?_⟩) | (refine ⟨(by assumption : CDivN _ _), ?_⟩))); exact q1 _ (Ex.refl _)) (by omega) (by omega)) fun v H' e h => q v H' (e04.trans e) h
end
end K06

/-! KX: a def that is handed the exception which an except suite holds: what it promises, its body, its call, isinstance in it. -/
namespace KX
open PySem PySem.Spec PyProof.Rows L2 Evl KB
abbrev SpE := Addr → Addr → Sp
def IsA (p : Addr × Obj) (D : Addr) : Prop := Zc (.ref D) none p.2 ∧ ∃ vs, p.2.data = .fields vs
structure FnE (P : Program) (w : World) (K : PySem.W.Frag) (mg : Str → Option Value) (base : Heap) (CX : CXT) (k : Nat) (f : Addr) (fd : FuncData) (ps : List Str) (sp : SpE) : Prop where
  len : ∀ a D vs H Q E, sp a D vs H Q E → vs.length = ps.length
  run : ∀ (A : Around) (outer : List Env) (s : Shared) (H : Hp) (args : Args) (us : List Value) (vs : List V) (Q : VK) (E : XK) (p : Addr × Obj) (D : Addr), L2H.RoomH k A → IsA p D → L2H.PinOk outer H s p → Env0 P w K mg base A outer s H → BindsTo s fd args (ps.zip us) → Vals vs us → sp p.1 D vs H Q E →
    codeAny (model P w) A (.call (.ref f) args) (CR CX outer P w H s Q E) s
theorem fn_ofE {CX : CXT} {P : Program} {w : World} {K : PySem.W.Frag} {mg : Str → Option Value} {base : Heap} {k : Nat} {f : Addr} {name qual : Str} {params : Arguments} {body : List Stmt} {scope : Scope} {dV kV doc pm cdv ct oc : Value} {an od : Option Addr}
    {osl : Array (Option Value)} {N ps : List Str} {sp : SpE} (lk : K.lookup f = some ⟨oc, od, .func (PySem.W.fnOf name qual params body scope dV kV doc pm an cdv ct), osl⟩) (hcd : PySem.W.codeIn K cdv qual = true) (S : FnScope N ps scope)
    (len : ∀ a D vs H Q E, sp a D vs H Q E → vs.length = ps.length)
    (hbody : ∀ (A : Around) (outer : List Env) (s : Shared) (H : Hp) (vs : List V) (Q : VK) (E : XK) (p : Addr × Obj) (D : Addr), IsA p D → sp p.1 D vs H Q E →
      ∃ t, PSs (L2H.cxH CX P w K mg base N qual scope f cdv A outer s H E p) body t ∧ t { nx := fun _ H' => Q .non H', rt := Q } (L2.start N vs) H) :
    FnE P w K mg base CX (k + 1) f (PySem.W.fnOf name qual params body scope dV kV doc pm an cdv ct) ps sp :=
  ⟨len, fun A outer s H args us vs Q E p D room isa pin e0 hb r hsp => by
    have kin : K.In s.heap := e0.mod.kin.keeps fun b o e => (e0.bs b o e).1
    have nol : s.heap.NoLimit := e0.mod.nolimit.keeps fun b o e => (e0.bs b o e).1
    refine codeAny_call_function room.depth (kin _ _ lk) rfl S.co S.gen rfl (PySem.W.codeRec_of kin hcd) (hb _ _ _ _ ?_)
    refine wpAny_newFunctionEnv_cells S.kind (fun y hy => ?_) fun env he s1 x => ?_
    · obtain ⟨n, v⟩ := y
      exact (S.par n (List.of_mem_zip hy).1).imp id fun q => ⟨q, PySem.W.cellsFrom_some _ _ _ (.inl q)⟩
    · subst he
      refine ⟨nol.keeps x.toInCall.keep, codeAny_func ?_⟩
      obtain ⟨t, ht, hq⟩ := hbody A outer s H vs Q E p D isa hsp
      refine wpAny_mono (ht.run [] s1 (L2.start N vs) H _ (L2H.inv_startH S pin e0 (len _ _ _ _ _ _ hsp) r x) hq) (fun fl s' hs => ?_) fun _ _ hs => hs
      cases fl with
      | ret u =>
        obtain ⟨v, _, H', J, rv, q⟩ := hs
        exact ⟨v, H', J.os, J.bare, J.base, J.hok, rv, q⟩
      | next =>
        obtain ⟨_, H', J, q⟩ := hs
        exact ⟨V.non, H', J.os, J.bare, J.base, J.hok, rfl, q⟩
      | brk => exact hs.elim fun _ h => h.elim fun _ h => h.2.elim
      | cont => exact hs.elim fun _ h => h.elim fun _ h => h.2.elim⟩
theorem fun_okE {P : Program} {w : World} {K : PySem.W.Frag} {mg : Str → Option Value} {base : Heap} {x qual : Str} {st : Stmt} {f : Addr} {fd : FuncData} {N ps : List Str} {k : Nat} {sp : SpE} (F : Fun K x qual st f fd) (S : FnScope N ps (defScope st))
    (len : ∀ a D vs H Q E, sp a D vs H Q E → vs.length = ps.length)
    (hbody : ∀ (cdv : Value) (A : Around) (outer : List Env) (s : Shared) (H : Hp) (vs : List V) (Q : VK) (E : XK) (p : Addr × Obj) (D : Addr), IsA p D → sp p.1 D vs H Q E →
      ∃ t, PSs (L2H.cxH CX0 P w K mg base N qual (defScope st) f cdv A outer s H E p) (defBody st) t ∧ t { nx := fun _ H' => Q .non H', rt := Q } (L2.start N vs) H) :
    FnE P w K mg base CX0 (k + 1) f fd ps sp := by
  obtain ⟨oc, od, kV, doc, pm, an, cdv, ct, osl, rfl, lk, hcd⟩ := F.ex
  exact fn_ofE lk hcd S len fun A outer s H vs Q E p D isa hsp => hbody cdv A outer s H vs Q E p D isa hsp
/-- f(e), e what the suite holds -/
def tCallE (a : Addr) (cls : Value) (d : Option Addr) (sp : SpE) (t : TA) : TE := fun σ H Q => t σ H fun vs H1 => ∃ D, cls = .ref D ∧ d = none ∧ sp a D vs H1 Q E0
section
variable {X : Cx} {k : Nat} {f : Addr} {fd : FuncData} {ps : List Str} {sp : SpE} {x : Str} {q pos : Pos} {e : Expr} {es : List Expr} {t : TA} {a : Addr} {oe : Obj} {cls : Value} {d : Option Addr}
theorem pe_callE (hp : (a, oe) ∈ X.pn) (hz : Zc cls d oe) (hf : ∃ vs, oe.data = .fields vs) (F : FnE X.prog X.w X.K X.mg X.base CX0 k f fd ps sp) (hr : L2H.RoomH k X.A) (hg : Gl X x) (hm : X.mg x = some (.ref f)) (hk : PySem.W.keepIn X.K (.ref f) = true) (hb : Binds X.K fd ps [])
    (ha : PA X (e :: es) t) (hdb : (x == ("__debug__" : Str)) = false := by decide) (he : starEach (e :: es) X.env = (false, eval e X.env) :: starEach es X.env := by rfl) (hpl : (backTo pos (starEach es X.env)).any (·.1) = false := by rfl) :
    PE X (.Call (.Name x q) (e :: es) [] pos) (tCallE a cls d sp t) := by
  refine ⟨fun pins s σ H Q I h => wpAny_Call_Name_kw (ld_glob I hg hm ?_ hdb)⟩
  refine PySem.W.callWith_K (h₀ := X.base) I.ok.mod.kin hk (thn (ha.run pos pins s σ H _ I h) fun us s1 ⟨vs, H1, I1, r, D, ec, ed, hsp⟩ => ⟨I1.kIn, ?_⟩) he hpl
  subst ec ed
  have b := hb s1 us I1.kIn (by rw [List.append_nil, ← r.length]; exact F.len _ _ _ _ _ _ hsp)
  rw [List.append_nil] at b
  obtain ⟨g, n, nl, nf, nc⟩ := I1.pin (a, oe) (List.mem_append_left _ hp)
  refine wpAny_call (codeAny_mono (F.run X.A X.stack s1 H1 ⟨us, []⟩ us vs Q E0 (a, oe) D hr ⟨hz, hf⟩ ⟨g, n, fun hm => (List.mem_cons.mp (I1.stkSub a hm)).elim nl nf, nc⟩ I1.env0 b r hsp) fun r s' hq => ?_)
  cases r with
  | error e => exact hq.elim
  | ok fl =>
    cases fl with
    | ret u => exact I1.after hq
    | next => exact hq.elim
    | brk => exact hq.elim
    | cont => exact hq.elim
/-- isinstance(e, c) in such a def -/
theorem call_isP {p : Addr × Obj} {D : Addr} (hp : p ∈ X.pn) (C : ExcC X.K D) (isa : IsA p D) : CallR X (.builtin "isinstance") (rIsE X.K D p.1) := by
  intro pins s σ H xs us Q I r h
  obtain ⟨c, cv, b, rfl, hcv, e, q⟩ := h
  obtain ⟨u1, u2, rfl, r1, r2⟩ := vals2 r
  cases (show u1 = Value.ref p.1 from r1)
  cases hcv _ r2
  obtain ⟨a, oc, od, oda, osl⟩ := p
  obtain ⟨⟨h1, h2⟩, vs, hv⟩ := isa
  dsimp only at h1 h2 hv
  subst h1 h2 hv
  exact PySem.W.kia_one (PySem.W.handS_kitx_exc C.hg C.hk C.hs C.hd C.ha C.hn C.ht C.hm) I.kIn ⟨(I.pin _ (List.mem_append_left _ hp)).1, rfl, rfl, trivial⟩ e (fun z => nomatch z) fun tk => ⟨.bl b, H, I.kept (t' := tk) fun _ _ z => z, rfl, q⟩
end
end KX

namespace K06
open PySem PySem.Spec PyProof.Rows L2 Evl KB
section
variable {P : Program} {w : World} {K : PySem.W.Frag} {mg : Str → Option Value} {base : Heap} {σ : L2.St} {H H' : Hp} {t1 t2 t3 : TE} {tA : TA} {i j : Nat} {v : V} {d : Nat} {Z : V → Hp → Prop}
/-- the refusals' classes: where they stand, what they are -/
structure Errs (K : PySem.W.Frag) (mg : Str → Option Value) (C cRow cFull cLack cTab cNoView : Addr) : Prop where
  gBadView : mg "BadView" = some (.ref C)
  gBadRow : mg "BadRow" = some (.ref cRow)
  gFull : mg "Full" = some (.ref cFull)
  gLacking : mg "Lacking" = some (.ref cLack)
  gNoTable : mg "NoTable" = some (.ref cTab)
  gNoView : mg "NoView" = some (.ref cNoView)
  gVE : mg "ValueError" = none
  exc : ExcC K C
  kBadView : PySem.W.kitOne K (.ref C) (.ref C) = some true
  kBadRow : PySem.W.kitOne K (.ref C) (.ref cRow) = some false
  kFull : PySem.W.kitOne K (.ref C) (.ref cFull) = some false
  kLacking : PySem.W.kitOne K (.ref C) (.ref cLack) = some false
  kNoTable : PySem.W.kitOne K (.ref C) (.ref cTab) = some false
  kNoView : PySem.W.kitOne K (.ref C) (.ref cNoView) = some false
  kVE : PySem.W.kitOne K (.ref C) (.type "ValueError") = some true
theorem et_no {D c a : Addr} (h0 : σ[0]? = some (some (.ref a))) (hk : PySem.W.kitOne K (.ref D) (.ref c) = some false) : EvT (tB (tCB (rIsE K D a) (tCons (tVar 0) (tCons (tC (.ref c)) tNil)))) σ H false := fun H1 _ Q q =>
  ⟨_, h0, _, _, _, rfl, fun u hu => hu, hk, _, rfl, q H1 (Ex.refl H1)⟩
def spAlone (C : Addr) : KX.SpE := fun a D vs H Q _ => vs = [.ref a] ∧ D = C ∧ ∀ H', Ex H H' → Q (.bl true) H'
theorem ok_alone {f : Addr} {fd : FuncData} {k : Nat} {C cRow cFull cLack cTab cNoView : Addr} (A : FnAt K mg "_law_alone" sL_alone PL_alone f fd) (B : Bt mg) (W : Errs K mg C cRow cFull cLack cTab cNoView) : KX.FnE P w K mg base CX0 (k + 1) f fd PL_alone (spAlone C) := by
  refine KX.fun_okE A.F scL_alone (fun a D vs H Q E h => ?_) (fun cdv A' outer s H vs Q E p D isa h => ?_)
  · rw [h.1]
    rfl
  obtain ⟨rfl, hD, q⟩ := h
  subst hD
  refine ⟨_, (pss_cons (ps_if (PW.pt (pw_or (pt_val (pe_callB (KX.call_isP (p := p) (List.mem_cons_self) W.exc isa) (by rfl) B.isinstance (by decide +kernel) (pa_cons (pv 0) (pa_cons (pe_glob (v := .ref cRow) rfl W.gBadRow rfl) pa_nil)))) (pw_or (pt_val (pe_callB (KX.call_isP (p := p) (List.mem_cons_self) W.exc isa) (by rfl) B.isinstance (by decide +kernel) (pa_cons (pv 0) (pa_cons (pe_glob (v := .ref cFull) rfl W.gFull rfl) pa_nil)))) (pw_or1 (pt_val (pe_callB (KX.call_isP (p := p) (List.mem_cons_self) W.exc isa) (by rfl) B.isinstance (by decide +kernel) (pa_cons (pv 0) (pa_cons (pe_glob (v := .ref cLack) rfl W.gLacking rfl) pa_nil)))))))) (pss_one (ps_ret pe_bl)) pss_nil)
  (pss_cons (ps_if (PW.pt (pw_or (pt_val (pe_callB (KX.call_isP (p := p) (List.mem_cons_self) W.exc isa) (by rfl) B.isinstance (by decide +kernel) (pa_cons (pv 0) (pa_cons (pe_glob (v := .ref cTab) rfl W.gNoTable rfl) pa_nil)))) (pw_or1 (pt_val (pe_callB (KX.call_isP (p := p) (List.mem_cons_self) W.exc isa) (by rfl) B.isinstance (by decide +kernel) (pa_cons (pv 0) (pa_cons (pe_glob (v := .ref cNoView) rfl W.gNoView rfl) pa_nil))))))) (pss_one (ps_ret pe_bl)) pss_nil)
  (pss_one (ps_ret (pe_and (pe_callB (KX.call_isP (p := p) (List.mem_cons_self) W.exc isa) (by rfl) B.isinstance (by decide +kernel) (pa_cons (pv 0) (pa_cons (pe_glob (v := .ref D) rfl W.gBadView rfl) pa_nil))) (pe_one (pe_callB (KX.call_isP (p := p) (List.mem_cons_self) W.exc isa) (by rfl) B.isinstance (by decide +kernel) (pa_cons (pv 0) (pa_cons (pe_bltn (v := .ty "ValueError") (u := .type "ValueError") (by rfl) W.gVE (by decide +kernel) rfl) pa_nil))))))))), ?_⟩
  refine q_when (et_or (et_no rfl W.kBadRow) fun _ => et_or (et_no rfl W.kFull) fun _ => et_no rfl W.kLacking) (fun h => absurd h (by decide)) fun _ H1 e1 => ?_
  refine q_when (et_or (et_no rfl W.kNoTable) fun _ => et_no rfl W.kNoView) (fun h => absurd h (by decide)) fun _ H2 e2 => ?_
  refine ⟨_, rfl, _, _, _, rfl, fun u hu => hu, W.kBadView, ?_⟩
  refine ⟨_, rfl, ?_⟩
  refine ite_y rfl ?_
  exact ⟨_, rfl, _, _, _, rfl, fun u hu => hu, W.kVE, q H2 (e1.trans e2)⟩
/-- what the program's own width_of promises -/
def spWidthOf (C P0 : Addr) : Sp := fun vs H Q E => ∃ (x : V) (wl : Addr) (v : View) (ws : List Int) (n : Nat), vs = [x, .ref wl] ∧ n ≤ 20 ∧ GxR.TabG H P0 ∧ VOk n v ∧ VAt H v x ∧ H wl = some (.lst (ws.map V.int)) ∧ (∀ c ∈ ws, 1 ≤ c ∧ c ≤ 6) ∧
  (∀ m, widthOf ws v = some m → ∀ H', XT H H' → Q (.int m) H') ∧ (widthOf ws v = none → ∀ H', XT H H' → E (.ref C) none H')
def sayV : Option Int → V
  | none => .str "view"
  | some n => .int n
def spSaid (P0 : Addr) : Sp := fun vs H Q _ => ∃ (x : V) (wl : Addr) (v : View) (ws : List Int) (n : Nat), vs = [x, .ref wl] ∧ n ≤ 20 ∧ GxR.TabG H P0 ∧ VOk n v ∧ VAt H v x ∧ H wl = some (.lst (ws.map V.int)) ∧ (∀ c ∈ ws, 1 ≤ c ∧ c ≤ 6) ∧ ∀ H', XT H H' → Q (sayV (widthOf ws v)) H'
theorem ok_said {f f1 f2 : Addr} {fd fd1 fd2 : FuncData} {k : Nat} {C P0 cRow cFull cLack cTab cNoView cErr : Addr} {psW : List Str} (A : FnAt K mg "_law_said" sL_said PL_said f fd) (Aalone : FnAt K mg "_law_alone" sL_alone PL_alone f1 fd1) (B : Bt mg) (W : Errs K mg C cRow cFull cLack cTab cNoView)
    (gW : mg "width_of" = some (.ref f2)) (kW : PySem.W.keepIn K (.ref f2) = true) (bW : Binds K fd2 psW []) (GW : FnOk P w K mg base (L2.CX P w) (k + 2) f2 fd2 psW (spWidthOf C P0)) (gE : mg "ChangeError" = some (.ref cErr)) (hE : PySem.W.exmOne K (.ref C) (.ref cErr) = some true) :
    FnOk P w K mg base CX0 (k + 3) f fd PL_said (spSaid P0) := by
  refine A.F.ok scL_said (fun vs H Q E h => ?_) (fun cdv A' outer s H vs Q E hr h => ?_)
  · obtain ⟨_, _, _, _, _, rfl, _⟩ := h
    rfl
  obtain ⟨x, wl, v, ws, n, rfl, hn, hT, hok, hv, hwl, hws, q⟩ := h
  have Galone : KX.FnE P w K mg base CX0 1 f1 fd1 PL_alone (spAlone C) := ok_alone Aalone B W
  have hrA : L2H.RoomH 1 _ := L2H.roomH_of (hr.mono (by omega))
  refine ⟨_, pss_one (ps_try_as (i := 2) rfl rfl scL_said.nd rfl rfl ⟨rfl, by decide, .inl gE⟩ takes0 (fun W pn xe tk _ => pss_one (ps_ret (pe_callS GW hr rfl gW kW bW (fun σ => passAt tk σ) (pa_cons (pv 0) (pa_cons (pv 1) pa_nil)))))
    (fun a oe cls d pn hz hf => pss_one (ps_ret (pe_ifExp (pt_val (KX.pe_callE List.mem_cons_self hz hf Galone ⟨hrA.dp, hrA.un⟩ rfl Aalone.g Aalone.F.kp Aalone.b (pa_cons (pv 2) pa_nil))) pe_str pe_str)))), ?_⟩
  refine ⟨x, rfl, .ref wl, rfl, x, wl, v, ws, n, rfl, hn, hT, hok, hv, hwl, hws, fun m hm H' e => ?_, fun hm H' e => ?_⟩
  · have q' := q H' e
    rwa [hm] at q'
  · refine ⟨true, hE, fun _ a ha => ?_, fun z => Bool.noConfusion z⟩
    refine ⟨_, rfl, C, rfl, rfl, rfl, rfl, fun H2 e2 => ⟨_, rfl, ?_⟩⟩
    have q' := q H2 (e.trans (XT.of_ex e2))
    rw [hm] at q'
    exact q'
end
end K06

namespace K06
open PySem PySem.Spec PyProof.Rows L2 Evl KB
section
variable {P : Program} {w : World} {K : PySem.W.Frag} {mg : Str → Option Value} {base : Heap} {σ : L2.St} {H H' : Hp} {t1 t2 t3 : TE} {tA : TA} {i j : Nat} {v : V} {d : Nat} {Z : V → Hp → Prop}
theorem est_first {te : TE} {n : Int} (h : Est te σ H (RetV d n)) : Est (tOp (rIxT K) te (tC (.int 0))) σ H (IsView d) := fun H1 e Q q =>
  h H1 e _ fun v H2 e2 ⟨p, y, m, ev, hp, hy, _⟩ => ⟨p, [y, .int m], 0, y, ev, rfl, st_of hp, rfl, q y H2 e2 hy⟩
theorem dp_ints : ∀ ws : List Int, DpAll K H (ws.map V.int) (ws.map PyData.int)
  | [] => .nil
  | c :: r => .cons (.int c) (dp_ints r)
theorem lay_ints : ∀ ws : List Int, PyData.canLayAll0 (ws.map PyData.int) = true
  | [] => rfl
  | c :: r => by
    have := lay_ints r
    simp [PyData.canLayAll0, PyData.canLay0, this]
theorem shaped_ints (ws : List Int) : SeqAt.shaped (.list (ws.map PyData.int)) = true := by
  have hd : ∀ ws : List Int, PyData.depthAll (ws.map PyData.int) = 0 := fun ws => by
    induction ws with
    | nil => rfl
    | cons c r ih =>
      show max (PyData.depth (.int c)) (PyData.depthAll (r.map PyData.int)) = 0
      rw [ih]
      rfl
  unfold SeqAt.shaped
  rw [Bool.and_eq_true]
  exact ⟨lay_ints ws, decide_eq_true (by show PyData.depthAll (ws.map PyData.int) + 1 ≤ 64; rw [hd]; omega)⟩
theorem ev_neWs {p q : Addr} {ws : List Int} (hx : σ[i]? = some (some (.ref p))) (hy : σ[j]? = some (some (.ref q))) (hp : H p = some (.lst (ws.map V.int))) (hq : H q = some (.lst (ws.map V.int))) : Ev (tOp (rNeD K) (tVar i) (tVar j)) σ H (.bl false) := fun H1 e Q q' => by
  refine ⟨_, hx, _, hy, .list (ws.map PyData.int), .list (ws.map PyData.int), .lst (sq_of (e _ _ hp)) (dp_ints ws), .lst (sq_of (e _ _ hq)) (dp_ints ws), shaped_ints ws, shaped_ints ws, ?_⟩
  have h := PySem.SeqAt.eqv_refl (.list (ws.map PyData.int)) (lay_ints ws)
  rw [h]
  exact q' _ (Ex.refl _)
theorem est_plus {k a b : Int} (h : Est t1 σ H (In a b)) : Est (tOp (rI0 fun i j => V.int (i + j)) (tC (.int k)) t1) σ H (In (k + a) (k + b)) := fun H1 e Q q =>
  h H1 e _ fun v H2 e2 ⟨c, ev, ha, hb⟩ => ⟨k, c, rfl, ev, q _ H2 e2 ⟨_, rfl, by omega, by omega⟩⟩
theorem est_odd (h1 : Est t1 σ H IsInt) (h2 : Est t2 σ H (IsView d)) : Est (tCall spOdd [] E0 (tCons t1 (tCons t2 tNil))) σ H (IsView (d + 2)) :=
  est_call (esta_2 h1 h2 IsInt.pers (IsView.pers d)) fun vs H1 e ⟨a, b, ev, ⟨c, ea⟩, hb⟩ Q q => by
    rw [List.append_nil, ev, ea]
    exact ⟨c, b, d, rfl, hb, q⟩
theorem est_wrapped (h1 : Est t1 σ H IsInt) (h2 : Est t2 σ H (IsView d)) (h3 : Est t3 σ H (IsView d)) : Est (tCall spWrapped [] E0 (tCons t1 (tCons t2 (tCons t3 tNil)))) σ H (IsView (d + 1)) :=
  est_call (esta_3 h1 h2 h3 IsInt.pers (IsView.pers d) (IsView.pers d)) fun vs H1 e ⟨a, b, f, ev, ⟨c, ea⟩, hb, hf⟩ Q q => by
    rw [List.append_nil, ev, ea]
    exact ⟨c, b, f, d, rfl, hb, hf, q⟩
theorem est_many (h1 : Est t1 σ H (IsView d)) (h2 : Est t2 σ H (In 2 7)) : Est (tCall spMany [] E0 (tCons t1 (tCons t2 tNil))) σ H (IsView (d + 6)) :=
  est_call (esta_2 h1 h2 (IsView.pers d) (In.pers 2 7)) fun vs H1 e ⟨a, b, ev, ha, c, eb, c1, c2⟩ Q q => by
    rw [List.append_nil, ev, eb]
    exact ⟨a, c, d, rfl, by omega, by omega, ha, fun v H' e' hv => q v H' e' (hv.le (by omega))⟩
def spLaw (K : PySem.W.Frag) (P0 : Addr) : Sp := fun vs H Q _ => ∃ (a : Addr) (ns : List Int), vs = [.ref a] ∧ GxR.TabG H P0 ∧ SqL K H a (ns.map V.int) ∧ ∀ H', Q (.bl true) H'
theorem ok_law {f fat fsome fthere fmany fone ftwo fview fwidths fwo fwide fodd fwrapped fwhole fsaid falone fW : Addr} {fd dat dsome dthere dmany done dtwo dview dwidths dwo dwide dodd dwrapped dwhole dsaid dalone dW : FuncData} {kW : Nat} {C P0 cRow cFull cLack cTab cNoView cErr : Addr} {psW : List Str}
    (A : FnAt K mg "law" sL PL f fd) (Aat : FnAt K mg "_law_at" sL_at PL_at fat dat) (Asome : FnAt K mg "_law_some" sL_some PL_some fsome dsome) (Athere : FnAt K mg "_law_there" sL_there PL_there fthere dthere)
    (Amany : FnAt K mg "_law_many" sL_many PL_many fmany dmany) (Aone : FnAt K mg "_law_over_one" sL_over_one PL_over_one fone done) (Atwo : FnAt K mg "_law_over_two" sL_over_two PL_over_two ftwo dtwo) (Aview : FnAt K mg "_law_view" sL_view PL_view fview dview)
    (Awidths : FnAt K mg "_law_widths" sL_widths PL_widths fwidths dwidths) (Awo : FnAt K mg "_law_wide_one" sL_wide_one PL_wide_one fwo dwo) (Awide : FnAt K mg "_law_wide" sL_wide PL_wide fwide dwide) (Aodd : FnAt K mg "_law_odd" sL_odd PL_odd fodd dodd)
    (Awrapped : FnAt K mg "_law_wrapped" sL_wrapped PL_wrapped fwrapped dwrapped) (Awhole : FnAt K mg "_law_whole" sL_whole PL_whole fwhole dwhole) (Asaid : FnAt K mg "_law_said" sL_said PL_said fsaid dsaid) (Aalone : FnAt K mg "_law_alone" sL_alone PL_alone falone dalone)
    (B : Bt mg) (W : Errs K mg C cRow cFull cLack cTab cNoView)
    (gW : mg "width_of" = some (.ref fW)) (kpW : PySem.W.keepIn K (.ref fW) = true) (bW : Binds K dW psW []) (GW : FnOk P w K mg base (L2.CX P w) (kW + 2) fW dW psW (spWidthOf C P0)) (gE : mg "ChangeError" = some (.ref cErr)) (hE : PySem.W.exmOne K (.ref C) (.ref cErr) = some true) (hkW : kW ≤ 80) :
    FnOk P w K mg base CX0 90 f fd PL (spLaw K P0) := by
  refine A.F.ok scL (fun vs H Q E h => ?_) (fun cdv A' outer s H vs Q E hr h => ?_)
  · obtain ⟨_, _, rfl, _⟩ := h
    rfl
  obtain ⟨a, ns, rfl, hT, hs, q⟩ := h
  have hr1 : Room 1 _ := hr.mono (by omega)
  have hr2 : Room 2 _ := hr.mono (by omega)
  have hrV : Room (4 + 3) _ := hr.mono (by omega)
  have hrW : Room (20 + 3) _ := hr.mono (by omega)
  have hrS : Room (kW + 3) _ := hr.mono (by omega)
  have Gat : FnOk P w K mg base CX0 1 fat dat PL_at (spAt K) := ok_at Aat B
  have Gwidths : FnOk P w K mg base CX0 2 fwidths dwidths PL_widths (spWidths K) := ok_widths (k := 0) Awidths Aat B
  have Gview : FnOk P w K mg base CX0 (4 + 3) fview dview PL_view (spView K 4) := ok_view Aview Aat Asome Aone Atwo B 4
  have Gwide : FnOk P w K mg base CX0 (20 + 3) fwide dwide PL_wide (spWide 20) := ok_wide Awide Athere Awo B 20
  have Gsaid : FnOk P w K mg base CX0 (kW + 3) fsaid dsaid PL_said (spSaid P0) := ok_said Asaid Aalone B W gW kpW bW GW gE hE
  have Godd : FnOk P w K mg base CX0 1 fodd dodd PL_odd spOdd := ok_odd Aodd B
  have Gwrapped : FnOk P w K mg base CX0 1 fwrapped dwrapped PL_wrapped spWrapped := ok_wrapped Awrapped B
  have Gmany : FnOk P w K mg base CX0 1 fmany dmany PL_many spMany := ok_many Amany B
  have Gwhole : FnOk P w K mg base CX0 1 fwhole dwhole PL_whole spWhole := ok_whole Awhole B
  refine ⟨_, (pss_cons (ps_set (i := 1) scL.nd rfl (.inl rfl) (pe_call Gwidths hr2 (by rfl) Awidths.g Awidths.F.kp Awidths.b .nil pass0 (pa_cons (pv 0) pa_nil)))
  (pss_cons (ps_set (i := 2) scL.nd rfl (.inl rfl) (pe_ix ix_tup (pe_call Gview hrV (by rfl) Aview.g Aview.F.kp Aview.b .nil pass0 (pa_cons (pv 0) (pa_cons (pv 1) (pa_cons pe_int (pa_cons pe_int (pa_cons pe_int pa_nil)))))) pe_int (fun _ _ => rfl)))
  (pss_cons (ps_set (i := 3) scL.nd rfl (.inl rfl) (pe_call Gat hr1 (by rfl) Aat.g Aat.F.kp Aat.b .nil pass0 (pa_cons (pv 0) (pa_cons pe_int pa_nil))))
  (pss_cons (ps_if (pt_cmpR op_eq (pe_op op_mod (pv 3) pe_int) pe_int (nomark _)) (pss_one (ps_set (i := 2) scL.nd rfl (.inl rfl) (pe_call Gwrapped hr1 (by rfl) Awrapped.g Awrapped.F.kp Awrapped.b .nil pass0 (pa_cons (pe_op op_fdiv (pv 3) pe_int) (pa_cons (pv 2) (pa_cons (pe_call Godd hr1 (by rfl) Aodd.g Aodd.F.kp Aodd.b .nil pass0 (pa_cons (pe_call Gat hr1 (by rfl) Aat.g Aat.F.kp Aat.b .nil pass0 (pa_cons (pv 0) (pa_cons pe_int pa_nil))) (pa_cons (pv 2) pa_nil))) pa_nil)))))) pss_nil)
  (pss_cons (ps_if (pt_cmpR op_eq (pe_op op_mod (pv 3) pe_int) pe_int (nomark _)) (pss_one (ps_set (i := 2) scL.nd rfl (.inl rfl) (pe_call Gwrapped hr1 (by rfl) Awrapped.g Awrapped.F.kp Awrapped.b .nil pass0 (pa_cons (pe_op op_fdiv (pv 3) pe_int) (pa_cons (pv 2) (pa_cons (pe_call Gmany hr1 (by rfl) Amany.g Amany.F.kp Amany.b .nil pass0 (pa_cons (pv 2) (pa_cons (pe_op op_add pe_int (pe_op op_mod (pe_call Gat hr1 (by rfl) Aat.g Aat.F.kp Aat.b .nil pass0 (pa_cons (pv 0) (pa_cons pe_int pa_nil))) pe_int)) pa_nil))) pa_nil)))))) pss_nil)
  (pss_cons (ps_set (i := 4) scL.nd rfl (.inl rfl) (pe_callTy call_list_of (by rfl) B.list (by decide +kernel) (pa_cons (pv 1) pa_nil)))
  (pss_cons (ps_set (i := 5) scL.nd rfl (.inl rfl) (pe_call Gwide hrW (by rfl) Awide.g Awide.F.kp Awide.b .nil pass0 (pa_cons (pv 2) (pa_cons (pv 1) pa_nil))))
  (pss_cons (ps_set (i := 6) scL.nd rfl (.inl rfl) (pe_call Gsaid hrS (by rfl) Asaid.g Asaid.F.kp Asaid.b .nil pass0 (pa_cons (pv 2) (pa_cons (pv 4) pa_nil))))
  (pss_cons (ps_if (pt_cmpR (op_neD hr.units) (pv 4) (pv 1) (nomark _)) (pss_one (ps_ret pe_bl)) pss_nil)
  (pss_cons (ps_if (pt_cmpR op_isN (pv 5) pe_non (nomark _)) (pss_one (ps_ret (pe_cmpR op_eq (pv 6) pe_str (nomark _)))) pss_nil)
  (pss_one (ps_ret (pe_and (pe_call Gwhole hr1 (by rfl) Awhole.g Awhole.F.kp Awhole.b .nil pass0 (pa_cons (pv 6) pa_nil)) (pe_one (pe_cmpR op_eq (pv 6) (pv 5) (nomark _)))))))))))))))), ?_⟩
  refine w_asg (P := IsWs) (fun H1 e Q1 q1 => ⟨_, rfl, a, ns, rfl, ex_l e hs, fun v H2 e2 h => q1 v H2 e2 h⟩) fun v1 H1 e1 ⟨wl, ws, h1, hwl, w1, w2, hws⟩ => ?_
  subst h1
  refine w_asg (P := IsView 13) (est_first (d := 13) (n := wb 3) (fun H2 e Q1 q1 => ⟨_, rfl, _, rfl, a, wl, ns, ws, 0, 0, 3, rfl, by omega, by omega, ex_l (e1.trans e) hs, ⟨e _ _ hwl, w1, w2, hws⟩, fun v H3 e3 h => q1 v H3 e3 h⟩)) fun x H2 e2 hx => ?_
  have e02 := e1.trans e2
  refine w_asg (P := IsInt) (est_at (k := 5) (ev_var rfl) ev_c (ex_l e02 hs) (by omega)) fun v3 H3 e3 ⟨way, h3⟩ => ?_
  subst h3
  have e03 := e02.trans e3
  have e13 := e2.trans e3
  refine w_join (fun σ' H' => ∃ x', σ' = [some (.ref a), some (.ref wl), some x', some (.int way), none, none, none] ∧ Ex H3 H' ∧ IsView 20 x' H' ∧ (way % 4 = 1 ∨ IsView 13 x' H')) (fun N hN => ?_) ?_
  · (repeat (first | (refine ⟨_, rfl, ?_⟩) | (refine ⟨_, _, rfl, rfl, ?_⟩) | (refine ⟨⟨by decide, by decide⟩, ?_⟩) | (refine ⟨(by show (0 : Int) < _; decide), ?_⟩) | (refine ⟨rfl, ?_⟩) | (refine ⟨(by show _ ≠ (0 : Int); omega), ?_⟩) | (refine ⟨.inl ⟨by decide, by decide⟩, ?_⟩) | (refine ⟨(by assumption : CDivN _ _), ?_⟩)))
    refine ite2 (fun hd => ?_) (fun hd => ?_)
    · have h4 : way % 4 = 1 := V.int.inj (of_decide_eq_true hd)
      exact w_asg1 (P := IsView 16) (est_wrapped (d := 15) (fun H1 e1 Q1 q1 => by (repeat (first | (refine ⟨_, rfl, ?_⟩) | (refine ⟨_, _, rfl, rfl, ?_⟩) | (refine ⟨⟨by decide, by decide⟩, ?_⟩) | (refine ⟨(by show (0 : Int) < _; decide), ?_⟩) | (refine ⟨rfl, ?_⟩) | (refine ⟨(by show _ ≠ (0 : Int); omega), ?_⟩) | (refine ⟨.inl ⟨by decide, by decide⟩, ?_⟩) | (refine ⟨(by assumption : CDivN _ _), ?_⟩))); exact q1 _ _ (Ex.refl _) ⟨_, rfl⟩) (est_var rfl ((IsView.pers _ _ _ _ e3 hx).le (by omega)) (IsView.pers _ _)) (est_odd (d := 13) (est_at (k := 6) (ev_var rfl) ev_c (ex_l e03 hs) (by omega)) (est_var rfl (IsView.pers _ _ _ _ e3 hx) (IsView.pers _ _)))) fun v H4 e4 h => hN _ _ ⟨v, rfl, e4, h.le (by omega), .inl h4⟩
    · exact hN _ _ ⟨x, rfl, Ex.refl _, (IsView.pers _ _ _ _ e3 hx).le (by omega), .inr (IsView.pers _ _ _ _ e3 hx)⟩
  rintro σ' H4 ⟨y, rfl, e4, hy, hy2⟩
  refine w_join (fun σ' H' => ∃ x', σ' = [some (.ref a), some (.ref wl), some x', some (.int way), none, none, none] ∧ Ex H4 H' ∧ IsView 20 x' H') (fun N hN => ?_) ?_
  · (repeat (first | (refine ⟨_, rfl, ?_⟩) | (refine ⟨_, _, rfl, rfl, ?_⟩) | (refine ⟨⟨by decide, by decide⟩, ?_⟩) | (refine ⟨(by show (0 : Int) < _; decide), ?_⟩) | (refine ⟨rfl, ?_⟩) | (refine ⟨(by show _ ≠ (0 : Int); omega), ?_⟩) | (refine ⟨.inl ⟨by decide, by decide⟩, ?_⟩) | (refine ⟨(by assumption : CDivN _ _), ?_⟩)))
    refine ite2 (fun hd => ?_) (fun hd => ?_)
    · have h4 : way % 4 = 3 := V.int.inj (of_decide_eq_true hd)
      have hy3 : IsView 13 y H4 := hy2.elim (fun h => by omega) id
      exact w_asg1 (P := IsView 20) (est_wrapped (d := 19) (fun H1 e1 Q1 q1 => by (repeat (first | (refine ⟨_, rfl, ?_⟩) | (refine ⟨_, _, rfl, rfl, ?_⟩) | (refine ⟨⟨by decide, by decide⟩, ?_⟩) | (refine ⟨(by show (0 : Int) < _; decide), ?_⟩) | (refine ⟨rfl, ?_⟩) | (refine ⟨(by show _ ≠ (0 : Int); omega), ?_⟩) | (refine ⟨.inl ⟨by decide, by decide⟩, ?_⟩) | (refine ⟨(by assumption : CDivN _ _), ?_⟩))); exact q1 _ _ (Ex.refl _) ⟨_, rfl⟩) (est_var rfl (hy3.le (by omega)) (IsView.pers _ _)) (est_many (d := 13) (est_var rfl hy3 (IsView.pers _ _)) ((est_plus (a := 0) (b := 5) (est_mod (est_at (k := 6) (ev_var rfl) ev_c (ex_l (e03.trans e4) hs) (by omega)) (by omega))).imp fun _ _ _ h => h))) fun v H5 e5 h => hN _ _ ⟨v, rfl, e5, h⟩
    · exact hN _ _ ⟨y, rfl, Ex.refl _, hy⟩
  rintro σ' H5 ⟨z, rfl, e5, v, hok, hv⟩
  have hwl := (e13.trans (e4.trans e5)) _ _ hwl
  have hT := (XT.of_ex (e03.trans (e4.trans e5))).tab _ hT
  refine ⟨.ref wl, rfl, wl, ws.map V.int, rfl, .inl (sq_of hwl), fun l hl => ?_⟩
  have e6 := Ex.new (o := .lst (ws.map V.int)) hl
  have hv := VAt.pers _ _ _ _ e6 hv
  have hwl := e6 _ _ hwl
  have hll : upd H5 l (.lst (ws.map V.int)) l = some (.lst (ws.map V.int)) := upd_same
  have hT := (XT.of_ex e6).tab _ hT
  generalize upd H5 l (.lst (ws.map V.int)) = H6 at hv hwl hll hT ⊢
  refine ⟨_, rfl, _, rfl, z, wl, v, ws, rfl, hok, hv, hwl, hws, fun H7 e7 => ?_⟩
  have hll := e7 _ _ hll
  have hwl := e7 _ _ hwl
  refine ⟨_, rfl, _, rfl, z, l, v, ws, 20, rfl, by omega, (XT.of_ex e7).tab _ hT, hok, VAt.pers _ _ _ _ e7 hv, hll, hws, fun H8 e8 => ?_⟩
  have hll := e8.lst hll
  have hwl := e8.lst hwl
  refine q_when (et_test (ev_neWs (i := 4) (j := 1) rfl rfl hll hwl)) (fun h => absurd h (by decide)) fun _ H9 e9 => ?_
  cases ho : widthOf ws v with
  | none =>
    (repeat (first | (refine ⟨_, _, _, _, rfl, rfl, st_of hp, rfl, ?_⟩) | (refine ⟨_, rfl, ?_⟩) | (refine ⟨_, _, rfl, rfl, ?_⟩) | (refine ⟨⟨by decide, by decide⟩, ?_⟩) | (refine ⟨(by show (0 : Int) < _; decide), ?_⟩) | (refine ⟨rfl, ?_⟩) | (refine ⟨(by show _ ≠ (0 : Int); omega), ?_⟩) | (refine ⟨.inl ⟨by decide, by decide⟩, ?_⟩) | (refine ⟨(by assumption : CDivN _ _), ?_⟩) | (refine ite_y (by decide) ?_) | (refine ite_n (by decide) ?_) | (refine ite_y rfl ?_) | (refine ite_n Bool.false_ne_true ?_)))
    exact q _
  | some n =>
    (repeat (first | (refine ⟨_, _, _, _, rfl, rfl, st_of hp, rfl, ?_⟩) | (refine ⟨_, rfl, ?_⟩) | (refine ⟨_, _, rfl, rfl, ?_⟩) | (refine ⟨⟨by decide, by decide⟩, ?_⟩) | (refine ⟨(by show (0 : Int) < _; decide), ?_⟩) | (refine ⟨rfl, ?_⟩) | (refine ⟨(by show _ ≠ (0 : Int); omega), ?_⟩) | (refine ⟨.inl ⟨by decide, by decide⟩, ?_⟩) | (refine ⟨(by assumption : CDivN _ _), ?_⟩) | (refine ite_y (by decide) ?_) | (refine ite_n (by decide) ?_) | (refine ite_y rfl ?_) | (refine ite_n Bool.false_ne_true ?_)))
    refine ⟨⟨n, rfl⟩, fun v H' e hv => ?_⟩
    obtain rfl : v = .bl true := hv
    refine ⟨_, rfl, ?_⟩
    refine ite_y rfl ?_
    refine ⟨_, rfl, _, rfl, rfl, ?_⟩
    have e : decide (sayV (some n) = optV (some n)) = true := decide_eq_true rfl
    rw [e]
    exact q _
end
end K06

namespace K06
open PySem PySem.Spec PyProof.Rows L2 Evl KB
section
variable {P : Program} {w : World} {K : PySem.W.Frag} {mg : Str → Option Value} {base : Heap} {σ : L2.St} {H H' : Hp} {t1 t2 t3 : TE} {tA : TA} {i j : Nat} {v : V} {d : Nat} {Z : V → Hp → Prop} {C P0 : Addr} {tk : Tok}
/-- BadView as it is raised; two names of the top -/
structure Rs (K : PySem.W.Frag) (mg : Str → Option Value) (C : Addr) (tk : Tok) : Prop where
  g : mg "BadView" = some (.ref C)
  x : PySem.W.excIn K C [.type "ValueError", .type "Exception", .type "BaseException", .type "object"] "ValueError.__new__" = true
  k : PySem.W.keepIn K (.ref C) = true
  b : PySem.W.subIn K (.ref C) (.type "BaseException") = some true
  t : PySem.W.typeIn K (.ref C) = some (.type "type")
  any : mg "any" = none
  wide : mg "WIDEST" = some (.int 40 tk)
/-- a width, or the refusal -/
abbrev Out (C : Addr) (r : Option Int) (H : Hp) (Q : VK) (E : XK) : Prop := (∀ m, r = some m → ∀ H', XT H H' → Q (.int m) H') ∧ (r = none → ∀ H', XT H H' → E (.ref C) none H')
theorem Out.yes {r : Option Int} {Q : VK} {E : XK} {m : Int} (h : Out C r H Q E) (e : XT H H') (hr : r = some m) : Q (.int m) H' := h.1 m hr H' e
theorem Out.no {r : Option Int} {Q : VK} {E : XK} (h : Out C r H Q E) (e : XT H H') (hr : r = none) : E (.ref C) none H' := h.2 hr H' e
/-! ### columns that are there -/
theorem out_in (m c : Int) : KG.out m c = !inW m c := by
  unfold KG.out inW
  by_cases h1 : c < 0 <;> by_cases h2 : m ≤ c <;> simp [h1, h2] <;> omega
theorem any_out (m : Int) : ∀ cs : List Int, cs.any (KG.out m) = !(cs.all (inW m))
  | [] => rfl
  | c :: r => by
    rw [List.any_cons, List.all_cons, any_out m r, out_in]
    cases inW m c <;> cases r.all (inW m) <;> rfl
def spCheck (K : PySem.W.Frag) (C P0 : Addr) : Sp := fun vs H Q E => ∃ (p : Addr) (cs : List Int) (m : Int), vs = [.ref p, .int m] ∧ (SqL K H p (cs.map V.int) ∨ SqT K H p (cs.map V.int)) ∧ GxR.TabG H P0 ∧ (cs.all (inW m) = true → ∀ H', XT H H' → Q .non H') ∧ (cs.all (inW m) = false → ∀ H', XT H H' → E (.ref C) none H')
theorem ok_check {f c : Addr} {oc kV doc pm ct : Value} {od an : Option Addr} {osl : Array (Option Value)} {k : Nat} (lk : K.lookup f = some ⟨oc, od, .func (PySem.W.fnOf "_check_columns" "_check_columns" (defArgs s_check_columns) (defBody s_check_columns) (defScope s_check_columns) .none kV doc pm an (.ref c) ct), osl⟩)
    (hcd : PySem.W.codeIn K (.ref c) "_check_columns" = true) (TB : GxR.TabB base mg c P0) (R : Rs K mg C tk) :
    FnOk P w K mg base (L2.CX P w) (k + 1) f (PySem.W.fnOf "_check_columns" "_check_columns" (defArgs s_check_columns) (defBody s_check_columns) (defScope s_check_columns) .none kV doc pm an (.ref c) ct) P_check_columns (spCheck K C P0) := by
  refine okXC lk hcd sc_check_columns (fun vs H Q E h => ?_) (fun A' outer s H vs Q E hr1 h => ?_)
  · obtain ⟨p, cs, m, rfl, _⟩ := h
    rfl
  obtain ⟨p, cs, m, rfl, hS, hT, q1, q2⟩ := h
  have GS : GxR.GenS (envOfC "_check_columns" (defScope s_check_columns) s.heap.objs.size f (.ref c)) ⟨.function, [(".0", .local), ("column", .local), ("width", .free)], true, false, []⟩ "column" := ⟨rfl, rfl, by decide, rfl, rfl, fun y hy hf => by
    simp only [List.mem_cons, List.not_mem_nil, or_false] at hy
    rcases hy with rfl | rfl | rfl
    · cases hf
    · cases hf
    · exact ⟨_, rfl⟩⟩
  have HYC : ∀ d, (envOfC "_check_columns" (defScope s_check_columns) s.heap.objs.size f (.ref c)).cells.lookup ("width" : Str) = some d → (cloFrom (envOfC "_check_columns" (defScope s_check_columns) s.heap.objs.size f (.ref c)).cells [(".0", NameKind.local), ("column", .local), ("width", .free)] []).lookup ("width" : Str) = some d := fun d h => by
    cases h
    rfl
  refine ⟨_, (pss_one (ps_if (pt_val (KG.pe_anyI (iy := 1) hr1 rfl R.any TB rfl GS (pv 0) rfl rfl HYC (KG.elt_out rfl rfl rfl) (fun _ => rfl))) (pss_one (ps_raise rfl (takes_of rfl rfl rfl rfl) (pmk_own PySem.F.excBase_ValueError R.x R.g R.k (raises_own R.b R.t) rfl))) pss_nil)), ?_⟩
  refine ⟨.ref p, rfl, p, cs, m, rfl, hS, rfl, hT, fun Hb hb => ⟨_, rfl, ?_⟩⟩
  have e := XT.of_tab hT hb
  rw [any_out]
  cases ha : cs.all (inW m) with
  | true => exact q1 ha Hb e
  | false => exact q2 ha Hb e
/-! ### a table's width -/
def tabW (ws : List Int) (t : Int) : Option Int := if 0 ≤ t ∧ t < ws.length then ws[t.toNat]? else none
def spTab (C : Addr) : Sp := fun vs H Q E => ∃ (t : Int) (wl : Addr) (ws : List Int), vs = [.int t, .ref wl] ∧ H wl = some (.lst (ws.map V.int)) ∧ Out C (tabW ws t) H Q E
theorem ok_tab {f : Addr} {fd : FuncData} {k : Nat} (A : FnAt K mg "_table_width" s_table_width P_table_width f fd) (B : Bt mg) (R : Rs K mg C tk) : FnOk P w K mg base (L2.CX P w) (k + 1) f fd P_table_width (spTab C) := by
  refine A.F.okX sc_table_width (fun vs H Q E h => ?_) (fun cdv A' outer s H vs Q E hr h => ?_)
  · obtain ⟨_, _, _, rfl, _⟩ := h
    rfl
  obtain ⟨t, wl, ws, rfl, hwl, q⟩ := h
  have none' : ¬ (0 ≤ t ∧ t < ws.length) → tabW ws t = none := fun h => if_neg h
  refine ⟨_, (pss_cons (ps_if (PW.pt (pw_or (pt_cmpR op_lt (pv 0) pe_int (nomark _)) (pw_or1 (pt_cmpR op_ge (pv 0) (pe_callB call_len_seq (by rfl) B.len (by decide +kernel) (pa_cons (pv 1) pa_nil)) (nomark _))))) (pss_one (ps_raise rfl (takes_of rfl rfl rfl rfl) (pmk_own PySem.F.excBase_ValueError R.x R.g R.k (raises_own R.b R.t) rfl))) pss_nil)
  (pss_one (ps_ret (pe_ix ix_list (pv 1) (pv 0) (fun _ _ => rfl))))), ?_⟩
  (repeat (first | (refine ⟨_, _, _, _, rfl, rfl, st_of hp, rfl, ?_⟩) | (refine ⟨_, rfl, ?_⟩) | (refine ⟨_, _, rfl, rfl, ?_⟩) | (refine ⟨⟨by decide, by decide⟩, ?_⟩) | (refine ⟨(by show (0 : Int) < _; decide), ?_⟩) | (refine ⟨rfl, ?_⟩) | (refine ⟨(by show _ ≠ (0 : Int); omega), ?_⟩) | (refine ⟨.inl ⟨by decide, by decide⟩, ?_⟩) | (refine ⟨(by assumption : CDivN _ _), ?_⟩) | (refine ite_y (by decide) ?_) | (refine ite_n (by decide) ?_) | (refine ite_y rfl ?_) | (refine ite_n Bool.false_ne_true ?_)))
  refine ite2 (fun hd => ?_) (fun hd0 => ?_)
  · have : t < 0 := of_decide_eq_true hd
    refine ite_y rfl ?_
    exact Out.no q (XT.refl H) (none' fun z => by omega)
  · (repeat (first | (refine ⟨_, _, _, _, rfl, rfl, st_of hp, rfl, ?_⟩) | (refine ⟨_, rfl, ?_⟩) | (refine ⟨_, _, rfl, rfl, ?_⟩) | (refine ⟨⟨by decide, by decide⟩, ?_⟩) | (refine ⟨(by show (0 : Int) < _; decide), ?_⟩) | (refine ⟨rfl, ?_⟩) | (refine ⟨(by show _ ≠ (0 : Int); omega), ?_⟩) | (refine ⟨.inl ⟨by decide, by decide⟩, ?_⟩) | (refine ⟨(by assumption : CDivN _ _), ?_⟩) | (refine ite_y (by decide) ?_) | (refine ite_n (by decide) ?_) | (refine ite_y rfl ?_) | (refine ite_n Bool.false_ne_true ?_)))
    refine ⟨wl, ws.map V.int, rfl, .inl (sq_of hwl), ?_⟩
    rw [List.length_map]
    (repeat (first | (refine ⟨_, _, _, _, rfl, rfl, st_of hp, rfl, ?_⟩) | (refine ⟨_, rfl, ?_⟩) | (refine ⟨_, _, rfl, rfl, ?_⟩) | (refine ⟨⟨by decide, by decide⟩, ?_⟩) | (refine ⟨(by show (0 : Int) < _; decide), ?_⟩) | (refine ⟨rfl, ?_⟩) | (refine ⟨(by show _ ≠ (0 : Int); omega), ?_⟩) | (refine ⟨.inl ⟨by decide, by decide⟩, ?_⟩) | (refine ⟨(by assumption : CDivN _ _), ?_⟩) | (refine ite_y (by decide) ?_) | (refine ite_n (by decide) ?_) | (refine ite_y rfl ?_) | (refine ite_n Bool.false_ne_true ?_)))
    refine ite2 (fun hd => ?_) (fun hd1 => ?_)
    · have : (ws.length : Int) ≤ t := of_decide_eq_true hd
      exact Out.no q (XT.refl H) (none' fun z => by omega)
    · have h0 : 0 ≤ t := by have : ¬ t < 0 := fun z => hd0 (decide_eq_true z); omega
      have h1 : t < ws.length := by have : ¬ (ws.length : Int) ≤ t := fun z => hd1 (decide_eq_true z); omega
      have hlt : t.toNat < ws.length := by omega
      (repeat (first | (refine ⟨_, _, _, _, rfl, rfl, st_of hp, rfl, ?_⟩) | (refine ⟨_, rfl, ?_⟩) | (refine ⟨_, _, rfl, rfl, ?_⟩) | (refine ⟨⟨by decide, by decide⟩, ?_⟩) | (refine ⟨(by show (0 : Int) < _; decide), ?_⟩) | (refine ⟨rfl, ?_⟩) | (refine ⟨(by show _ ≠ (0 : Int); omega), ?_⟩) | (refine ⟨.inl ⟨by decide, by decide⟩, ?_⟩) | (refine ⟨(by assumption : CDivN _ _), ?_⟩) | (refine ite_y (by decide) ?_) | (refine ite_n (by decide) ?_) | (refine ite_y rfl ?_) | (refine ite_n Bool.false_ne_true ?_)))
      have hat := atI_nat (xs := ws.map V.int) (j := t.toNat) (v := V.int ws[t.toNat]) (by rw [List.getElem?_map, List.getElem?_eq_getElem hlt]; rfl)
      rw [show ((t.toNat : Nat) : Int) = t by omega] at hat
      exact ⟨wl, ws.map V.int, t, _, rfl, rfl, sq_of hwl, hat, Out.yes q (XT.refl H) (by unfold tabW; rw [if_pos ⟨h0, h1⟩, List.getElem?_eq_getElem hlt])⟩
/-! ### the width, all columns being there -/
def spWof (C P0 : Addr) (N : Nat) : Sp := fun vs H Q E => ∃ (x : V) (wl : Addr) (v : View) (ws : List Int), vs = [x, .ref wl] ∧ VOk N v ∧ VAt H v x ∧ H wl = some (.lst (ws.map V.int)) ∧ (∀ c ∈ ws, 1 ≤ c ∧ c ≤ 6) ∧ GxR.TabG H P0 ∧ Out C (widthOf ws v) H Q E
def withW (ws : List Int) (v : View) (cs : List Int) : Option Int := (widthOf ws v).bind fun m => if cs.all (inW m) = true then some m else none
def spWith (K : PySem.W.Frag) (C P0 : Addr) (N : Nat) : Sp := fun vs H Q E => ∃ (x : V) (p wl : Addr) (v : View) (cs ws : List Int), vs = [x, .ref p, .ref wl] ∧ VOk N v ∧ VAt H v x ∧ (SqL K H p (cs.map V.int) ∨ SqT K H p (cs.map V.int)) ∧ H wl = some (.lst (ws.map V.int)) ∧ (∀ c ∈ ws, 1 ≤ c ∧ c ≤ 6) ∧ GxR.TabG H P0 ∧ Out C (withW ws v cs) H Q E
theorem ok_with {f f1 f2 : Addr} {fd fd1 fd2 : FuncData} {M N : Nat} (A : FnAt K mg "_width_with" s_width_with P_width_with f fd) (Awof : FnAt K mg "width_of" swidth_of Pwidth_of f1 fd1) (Acheck : FnAt K mg "_check_columns" s_check_columns P_check_columns f2 fd2) (hM : 1 ≤ M)
    (Gwof : FnOk P w K mg base (L2.CX P w) M f1 fd1 Pwidth_of (spWof C P0 N)) (Gcheck : FnOk P w K mg base (L2.CX P w) 1 f2 fd2 P_check_columns (spCheck K C P0)) (R : Rs K mg C tk) :
    FnOk P w K mg base (L2.CX P w) (M + 1) f fd P_width_with (spWith K C P0 N) := by
  refine A.F.okX sc_width_with (fun vs H Q E h => ?_) (fun cdv A' outer s H vs Q E hrF h => ?_)
  · obtain ⟨_, _, _, _, _, _, rfl, _⟩ := h
    rfl
  obtain ⟨x, p, wl, v, cs, ws, rfl, hok, hv, hp, hwl, hws, hT, q⟩ := h
  have hr1 : Room 1 _ := hrF.mono hM
  refine ⟨_, (pss_cons (ps_set (i := 3) sc_width_with.nd rfl (.inl rfl) (pe_callS Gwof hrF rfl Awof.g Awof.F.kp Awof.b (fun σ => passAt (takes_of rfl rfl rfl rfl) σ) (pa_cons (pv 0) (pa_cons (pv 2) pa_nil))))
  (pss_cons (ps_expr (pe_callS Gcheck hr1 rfl Acheck.g Acheck.F.kp Acheck.b (fun σ => passAt (takes_of rfl rfl rfl rfl) σ) (pa_cons (pv 1) (pa_cons (pv 3) pa_nil))))
  (pss_one (ps_ret (pv 3))))), ?_⟩
  (repeat (first | (refine ⟨_, _, _, _, rfl, rfl, st_of hp, rfl, ?_⟩) | (refine ⟨_, rfl, ?_⟩) | (refine ⟨_, _, rfl, rfl, ?_⟩) | (refine ⟨⟨by decide, by decide⟩, ?_⟩) | (refine ⟨(by show (0 : Int) < _; decide), ?_⟩) | (refine ⟨rfl, ?_⟩) | (refine ⟨(by show _ ≠ (0 : Int); omega), ?_⟩) | (refine ⟨.inl ⟨by decide, by decide⟩, ?_⟩) | (refine ⟨(by assumption : CDivN _ _), ?_⟩) | (refine ite_y (by decide) ?_) | (refine ite_n (by decide) ?_) | (refine ite_y rfl ?_) | (refine ite_n Bool.false_ne_true ?_)))
  refine ⟨x, wl, v, ws, rfl, hok, hv, hwl, hws, hT, fun m hm H1 e1 => ?_, fun hn H1 e1 => Out.no q e1 (by unfold withW; rw [hn]; rfl)⟩
  (repeat (first | (refine ⟨_, _, _, _, rfl, rfl, st_of hp, rfl, ?_⟩) | (refine ⟨_, rfl, ?_⟩) | (refine ⟨_, _, rfl, rfl, ?_⟩) | (refine ⟨⟨by decide, by decide⟩, ?_⟩) | (refine ⟨(by show (0 : Int) < _; decide), ?_⟩) | (refine ⟨rfl, ?_⟩) | (refine ⟨(by show _ ≠ (0 : Int); omega), ?_⟩) | (refine ⟨.inl ⟨by decide, by decide⟩, ?_⟩) | (refine ⟨(by assumption : CDivN _ _), ?_⟩) | (refine ite_y (by decide) ?_) | (refine ite_n (by decide) ?_) | (refine ite_y rfl ?_) | (refine ite_n Bool.false_ne_true ?_)))
  refine ⟨p, cs, m, rfl, e1.sq hp, e1.tab _ hT, fun ha H2 e2 => ?_, fun ha H2 e2 => Out.no q (e1.trans e2) (by unfold withW; rw [hm]; exact if_neg (by rw [ha]; exact Bool.false_ne_true))⟩
  exact ⟨_, rfl, Out.yes q (e1.trans e2) (by unfold withW; rw [hm]; exact if_pos ha)⟩
/-! ### columns -/
def colW (ws : List Int) (v : View) (cs : List Int) : Option Int := (withW ws v cs).bind fun _ => if cs = [] then none else some cs.length
def spColw (C P0 : Addr) (N : Nat) : Sp := fun vs H Q E => ∃ (x : V) (p wl : Addr) (v : View) (cs ws : List Int), vs = [x, .ref p, .ref wl] ∧ VOk N v ∧ VAt H v x ∧ H p = some (.tup (cs.map V.int)) ∧ H wl = some (.lst (ws.map V.int)) ∧ (∀ c ∈ ws, 1 ≤ c ∧ c ≤ 6) ∧ GxR.TabG H P0 ∧ Out C (colW ws v cs) H Q E
theorem ok_colw {f f1 : Addr} {fd fd1 : FuncData} {M N : Nat} (A : FnAt K mg "_columns_width" s_columns_width P_columns_width f fd) (Awith : FnAt K mg "_width_with" s_width_with P_width_with f1 fd1) (B : Bt mg)
    (Gwith : FnOk P w K mg base (L2.CX P w) M f1 fd1 P_width_with (spWith K C P0 N)) (R : Rs K mg C tk) : FnOk P w K mg base (L2.CX P w) (M + 1) f fd P_columns_width (spColw C P0 N) := by
  refine A.F.okX sc_columns_width (fun vs H Q E h => ?_) (fun cdv A' outer s H vs Q E hrW h => ?_)
  · obtain ⟨_, _, _, _, _, _, rfl, _⟩ := h
    rfl
  obtain ⟨x, p, wl, v, cs, ws, rfl, hok, hv, hp, hwl, hws, hT, q⟩ := h
  refine ⟨_, (pss_cons (ps_expr (pe_callS Gwith hrW rfl Awith.g Awith.F.kp Awith.b (fun σ => passAt (takes_of rfl rfl rfl rfl) σ) (pa_cons (pv 0) (pa_cons (pv 1) (pa_cons (pv 2) pa_nil)))))
  (pss_cons (ps_if (pt_cmpR op_eq (pe_callB call_len_seq (by rfl) B.len (by decide +kernel) (pa_cons (pv 1) pa_nil)) pe_int (nomark _)) (pss_one (ps_raise rfl (takes_of rfl rfl rfl rfl) (pmk_own PySem.F.excBase_ValueError R.x R.g R.k (raises_own R.b R.t) rfl))) pss_nil)
  (pss_one (ps_ret (pe_callB call_len_seq (by rfl) B.len (by decide +kernel) (pa_cons (pv 1) pa_nil)))))), ?_⟩
  (repeat (first | (refine ⟨_, _, _, _, rfl, rfl, st_of hp, rfl, ?_⟩) | (refine ⟨_, rfl, ?_⟩) | (refine ⟨_, _, rfl, rfl, ?_⟩) | (refine ⟨⟨by decide, by decide⟩, ?_⟩) | (refine ⟨(by show (0 : Int) < _; decide), ?_⟩) | (refine ⟨rfl, ?_⟩) | (refine ⟨(by show _ ≠ (0 : Int); omega), ?_⟩) | (refine ⟨.inl ⟨by decide, by decide⟩, ?_⟩) | (refine ⟨(by assumption : CDivN _ _), ?_⟩) | (refine ite_y (by decide) ?_) | (refine ite_n (by decide) ?_) | (refine ite_y rfl ?_) | (refine ite_n Bool.false_ne_true ?_)))
  refine ⟨x, p, wl, v, cs, ws, rfl, hok, hv, .inr (st_of hp), hwl, hws, hT, fun m hm H1 e1 => ?_, fun hn H1 e1 => Out.no q e1 (by unfold colW; rw [hn]; rfl)⟩
  (repeat (first | (refine ⟨_, _, _, _, rfl, rfl, st_of hp, rfl, ?_⟩) | (refine ⟨_, rfl, ?_⟩) | (refine ⟨_, _, rfl, rfl, ?_⟩) | (refine ⟨⟨by decide, by decide⟩, ?_⟩) | (refine ⟨(by show (0 : Int) < _; decide), ?_⟩) | (refine ⟨rfl, ?_⟩) | (refine ⟨(by show _ ≠ (0 : Int); omega), ?_⟩) | (refine ⟨.inl ⟨by decide, by decide⟩, ?_⟩) | (refine ⟨(by assumption : CDivN _ _), ?_⟩) | (refine ite_y (by decide) ?_) | (refine ite_n (by decide) ?_) | (refine ite_y rfl ?_) | (refine ite_n Bool.false_ne_true ?_)))
  refine ⟨p, cs.map V.int, rfl, .inr (st_of (e1.tup hp)), ?_⟩
  rw [List.length_map]
  (repeat (first | (refine ⟨_, _, _, _, rfl, rfl, st_of hp, rfl, ?_⟩) | (refine ⟨_, rfl, ?_⟩) | (refine ⟨_, _, rfl, rfl, ?_⟩) | (refine ⟨⟨by decide, by decide⟩, ?_⟩) | (refine ⟨(by show (0 : Int) < _; decide), ?_⟩) | (refine ⟨rfl, ?_⟩) | (refine ⟨(by show _ ≠ (0 : Int); omega), ?_⟩) | (refine ⟨.inl ⟨by decide, by decide⟩, ?_⟩) | (refine ⟨(by assumption : CDivN _ _), ?_⟩) | (refine ite_y (by decide) ?_) | (refine ite_n (by decide) ?_) | (refine ite_y rfl ?_) | (refine ite_n Bool.false_ne_true ?_)))
  refine ite2 (fun hd => ?_) (fun hd => ?_)
  · have hne : cs = [] := List.eq_nil_of_length_eq_zero (by have := V.int.inj (of_decide_eq_true hd); omega)
    exact Out.no q e1 (by unfold colW; rw [hm]; exact if_pos hne)
  · have hne : ¬ cs = [] := fun z => hd (by rw [z]; rfl)
    (repeat (first | (refine ⟨_, _, _, _, rfl, rfl, st_of hp, rfl, ?_⟩) | (refine ⟨_, rfl, ?_⟩) | (refine ⟨_, _, rfl, rfl, ?_⟩) | (refine ⟨⟨by decide, by decide⟩, ?_⟩) | (refine ⟨(by show (0 : Int) < _; decide), ?_⟩) | (refine ⟨rfl, ?_⟩) | (refine ⟨(by show _ ≠ (0 : Int); omega), ?_⟩) | (refine ⟨.inl ⟨by decide, by decide⟩, ?_⟩) | (refine ⟨(by assumption : CDivN _ _), ?_⟩) | (refine ite_y (by decide) ?_) | (refine ite_n (by decide) ?_) | (refine ite_y rfl ?_) | (refine ite_n Bool.false_ne_true ?_)))
    refine ⟨p, cs.map V.int, rfl, .inr (st_of (e1.tup hp)), ?_⟩
    rw [List.length_map]
    exact Out.yes q e1 (by unfold colW; rw [hm]; exact if_neg hne)
/-! ### two widths -/
def spTwo2 (C P0 : Addr) (N : Nat) : Sp := fun vs H Q E => ∃ (x y : V) (wl : Addr) (v u : View) (ws : List Int), vs = [x, y, .ref wl] ∧ VOk N v ∧ VOk N u ∧ VAt H v x ∧ VAt H u y ∧ H wl = some (.lst (ws.map V.int)) ∧ (∀ c ∈ ws, 1 ≤ c ∧ c ≤ 6) ∧ GxR.TabG H P0 ∧
  (∀ a b, widthOf ws v = some a → widthOf ws u = some b → ∀ p H', XT H H' → H' p = some (.tup [.int a, .int b]) → Q (.ref p) H') ∧ ((widthOf ws v).bind (fun _ => widthOf ws u) = none → ∀ H', XT H H' → E (.ref C) none H')
theorem ok_two2 {f f1 : Addr} {fd fd1 : FuncData} {M N : Nat} (A : FnAt K mg "_two_widths" s_two_widths P_two_widths f fd) (Awof : FnAt K mg "width_of" swidth_of Pwidth_of f1 fd1) (hN : N ≤ 40)
    (Gwof : FnOk P w K mg base (L2.CX P w) M f1 fd1 Pwidth_of (spWof C P0 N)) (R : Rs K mg C tk) : FnOk P w K mg base (L2.CX P w) (M + 1) f fd P_two_widths (spTwo2 C P0 N) := by
  refine A.F.okX sc_two_widths (fun vs H Q E h => ?_) (fun cdv A' outer s H vs Q E hr h => ?_)
  · obtain ⟨_, _, _, _, _, _, rfl, _⟩ := h
    rfl
  obtain ⟨x, y, wl, v, u, ws, rfl, hok, hok2, hv, hu, hwl, hws, hT, q1, q2⟩ := h
  have hrF : Room M _ := hr
  refine ⟨_, (pss_cons (ps_set (i := 3) sc_two_widths.nd rfl (.inl rfl) (pe_callS Gwof hrF rfl Awof.g Awof.F.kp Awof.b (fun σ => passAt (takes_of rfl rfl rfl rfl) σ) (pa_cons (pv 0) (pa_cons (pv 2) pa_nil))))
  (pss_cons (ps_if (pt_cmpR (op_eqD hr.units) (pv 0) (pv 1) (nomark _)) (pss_one (ps_ret (pe_tup (pa_cons (pv 3) (pa_cons (pv 3) pa_nil))))) pss_nil)
  (pss_one (ps_ret (pe_tup (pa_cons (pv 3) (pa_cons (pe_callS Gwof hrF rfl Awof.g Awof.F.kp Awof.b (fun σ => passAt (takes_of rfl rfl rfl rfl) σ) (pa_cons (pv 1) (pa_cons (pv 2) pa_nil))) pa_nil))))))), ?_⟩
  (repeat (first | (refine ⟨_, _, _, _, rfl, rfl, st_of hp, rfl, ?_⟩) | (refine ⟨_, rfl, ?_⟩) | (refine ⟨_, _, rfl, rfl, ?_⟩) | (refine ⟨⟨by decide, by decide⟩, ?_⟩) | (refine ⟨(by show (0 : Int) < _; decide), ?_⟩) | (refine ⟨rfl, ?_⟩) | (refine ⟨(by show _ ≠ (0 : Int); omega), ?_⟩) | (refine ⟨.inl ⟨by decide, by decide⟩, ?_⟩) | (refine ⟨(by assumption : CDivN _ _), ?_⟩) | (refine ite_y (by decide) ?_) | (refine ite_n (by decide) ?_) | (refine ite_y rfl ?_) | (refine ite_n Bool.false_ne_true ?_)))
  refine ⟨x, wl, v, ws, rfl, hok, hv, hwl, hws, hT, fun a ha H1 e1 => ?_, fun hn H1 e1 => q2 (by rw [hn]; rfl) H1 e1⟩
  (repeat (first | (refine ⟨_, _, _, _, rfl, rfl, st_of hp, rfl, ?_⟩) | (refine ⟨_, rfl, ?_⟩) | (refine ⟨_, _, rfl, rfl, ?_⟩) | (refine ⟨⟨by decide, by decide⟩, ?_⟩) | (refine ⟨(by show (0 : Int) < _; decide), ?_⟩) | (refine ⟨rfl, ?_⟩) | (refine ⟨(by show _ ≠ (0 : Int); omega), ?_⟩) | (refine ⟨.inl ⟨by decide, by decide⟩, ?_⟩) | (refine ⟨(by assumption : CDivN _ _), ?_⟩) | (refine ite_y (by decide) ?_) | (refine ite_n (by decide) ?_) | (refine ite_y rfl ?_) | (refine ite_n Bool.false_ne_true ?_)))
  refine ⟨dataV v, dataV u, dp_view v x (e1.view v x hv), dp_view u y (e1.view u y hu), shaped_view hok hN (fine_of v x hv), shaped_view hok2 hN (fine_of u y hu), ?_⟩
  (repeat (first | (refine ⟨_, _, _, _, rfl, rfl, st_of hp, rfl, ?_⟩) | (refine ⟨_, rfl, ?_⟩) | (refine ⟨_, _, rfl, rfl, ?_⟩) | (refine ⟨⟨by decide, by decide⟩, ?_⟩) | (refine ⟨(by show (0 : Int) < _; decide), ?_⟩) | (refine ⟨rfl, ?_⟩) | (refine ⟨(by show _ ≠ (0 : Int); omega), ?_⟩) | (refine ⟨.inl ⟨by decide, by decide⟩, ?_⟩) | (refine ⟨(by assumption : CDivN _ _), ?_⟩) | (refine ite_y (by decide) ?_) | (refine ite_n (by decide) ?_) | (refine ite_y rfl ?_) | (refine ite_n Bool.false_ne_true ?_)))
  refine ite2 (fun hd => ?_) (fun hd => ?_)
  · have hs := same_width ws v u (fine_of v x hv) (fine_of u y hu) hd
    (repeat (first | (refine ⟨_, _, _, _, rfl, rfl, st_of hp, rfl, ?_⟩) | (refine ⟨_, rfl, ?_⟩) | (refine ⟨_, _, rfl, rfl, ?_⟩) | (refine ⟨⟨by decide, by decide⟩, ?_⟩) | (refine ⟨(by show (0 : Int) < _; decide), ?_⟩) | (refine ⟨rfl, ?_⟩) | (refine ⟨(by show _ ≠ (0 : Int); omega), ?_⟩) | (refine ⟨.inl ⟨by decide, by decide⟩, ?_⟩) | (refine ⟨(by assumption : CDivN _ _), ?_⟩) | (refine ite_y (by decide) ?_) | (refine ite_n (by decide) ?_) | (refine ite_y rfl ?_) | (refine ite_n Bool.false_ne_true ?_)))
    refine ⟨by show 2 ≤ sizeLine; decide, fun l hl => ?_⟩
    exact q1 a a ha (hs ▸ ha) l _ (e1.trans (XT.of_ex (Ex.new hl))) upd_same
  · (repeat (first | (refine ⟨_, _, _, _, rfl, rfl, st_of hp, rfl, ?_⟩) | (refine ⟨_, rfl, ?_⟩) | (refine ⟨_, _, rfl, rfl, ?_⟩) | (refine ⟨⟨by decide, by decide⟩, ?_⟩) | (refine ⟨(by show (0 : Int) < _; decide), ?_⟩) | (refine ⟨rfl, ?_⟩) | (refine ⟨(by show _ ≠ (0 : Int); omega), ?_⟩) | (refine ⟨.inl ⟨by decide, by decide⟩, ?_⟩) | (refine ⟨(by assumption : CDivN _ _), ?_⟩) | (refine ite_y (by decide) ?_) | (refine ite_n (by decide) ?_) | (refine ite_y rfl ?_) | (refine ite_n Bool.false_ne_true ?_)))
    refine ⟨y, wl, u, ws, rfl, hok2, e1.view u y hu, e1.lst hwl, hws, e1.tab _ hT, fun b hb H2 e2 => ?_, fun hn H2 e2 => q2 (by rw [ha]; exact hn) H2 (e1.trans e2)⟩
    refine ⟨by show 2 ≤ sizeLine; decide, fun l hl => ?_⟩
    exact q1 a b ha hb l _ ((e1.trans e2).trans (XT.of_ex (Ex.new hl))) upd_same
def likeW (ws : List Int) (v u : View) : Option Int := (widthOf ws v).bind fun a => (widthOf ws u).bind fun b => if a = b then some a else none
def spLike (C P0 : Addr) (N : Nat) : Sp := fun vs H Q E => ∃ (x y : V) (wl : Addr) (v u : View) (ws : List Int), vs = [x, y, .ref wl] ∧ VOk N v ∧ VOk N u ∧ VAt H v x ∧ VAt H u y ∧ H wl = some (.lst (ws.map V.int)) ∧ (∀ c ∈ ws, 1 ≤ c ∧ c ≤ 6) ∧ GxR.TabG H P0 ∧ Out C (likeW ws v u) H Q E
theorem two_none {ws : List Int} {v u : View} {f : Int → Int → Option Int} (h : (widthOf ws v).bind (fun _ => widthOf ws u) = none) : ((widthOf ws v).bind fun a => (widthOf ws u).bind fun b => f a b) = none := by
  cases e : widthOf ws v with
  | none => rfl
  | some a =>
    rw [e] at h
    have h2 : widthOf ws u = none := h
    show (widthOf ws u).bind _ = none
    rw [h2]
    rfl
theorem ok_like {f f1 : Addr} {fd fd1 : FuncData} {M N : Nat} (A : FnAt K mg "_like_width" s_like_width P_like_width f fd) (Atwo2 : FnAt K mg "_two_widths" s_two_widths P_two_widths f1 fd1)
    (Gtwo2 : FnOk P w K mg base (L2.CX P w) M f1 fd1 P_two_widths (spTwo2 C P0 N)) (R : Rs K mg C tk) : FnOk P w K mg base (L2.CX P w) (M + 1) f fd P_like_width (spLike C P0 N) := by
  refine A.F.okX sc_like_width (fun vs H Q E h => ?_) (fun cdv A' outer s H vs Q E hrW h => ?_)
  · obtain ⟨_, _, _, _, _, _, rfl, _⟩ := h
    rfl
  obtain ⟨x, y, wl, v, u, ws, rfl, hok, hok2, hv, hu, hwl, hws, hT, q⟩ := h
  refine ⟨_, (pss_cons (ps_asg (pe_callS Gtwo2 hrW rfl Atwo2.g Atwo2.F.kp Atwo2.b (fun σ => passAt (takes_of rfl rfl rfl rfl) σ) (pa_cons (pv 0) (pa_cons (pv 1) (pa_cons (pv 2) pa_nil)))) (pg_tup rfl (pgs_cons (pg_name (i := 3) sc_like_width.nd rfl (.inl rfl)) (pgs_cons (pg_name (i := 4) sc_like_width.nd rfl (.inl rfl)) pgs_nil))))
  (pss_cons (ps_if (pt_cmpR op_ne (pv 3) (pv 4) (nomark _)) (pss_one (ps_raise rfl (takes_of rfl rfl rfl rfl) (pmk_own PySem.F.excBase_ValueError R.x R.g R.k (raises_own R.b R.t) rfl))) pss_nil)
  (pss_one (ps_ret (pv 3))))), ?_⟩
  (repeat (first | (refine ⟨_, _, _, _, rfl, rfl, st_of hp, rfl, ?_⟩) | (refine ⟨_, rfl, ?_⟩) | (refine ⟨_, _, rfl, rfl, ?_⟩) | (refine ⟨⟨by decide, by decide⟩, ?_⟩) | (refine ⟨(by show (0 : Int) < _; decide), ?_⟩) | (refine ⟨rfl, ?_⟩) | (refine ⟨(by show _ ≠ (0 : Int); omega), ?_⟩) | (refine ⟨.inl ⟨by decide, by decide⟩, ?_⟩) | (refine ⟨(by assumption : CDivN _ _), ?_⟩) | (refine ite_y (by decide) ?_) | (refine ite_n (by decide) ?_) | (refine ite_y rfl ?_) | (refine ite_n Bool.false_ne_true ?_)))
  refine ⟨x, y, wl, v, u, ws, rfl, hok, hok2, hv, hu, hwl, hws, hT, fun a b ha hb p H1 e1 hp => ?_, fun hn H1 e1 => Out.no q e1 (two_none hn)⟩
  refine ⟨p, _, rfl, st_of hp, rfl, _, _, rfl, _, _, rfl, rfl, ?_⟩
  (repeat (first | (refine ⟨_, _, _, _, rfl, rfl, st_of hp, rfl, ?_⟩) | (refine ⟨_, rfl, ?_⟩) | (refine ⟨_, _, rfl, rfl, ?_⟩) | (refine ⟨⟨by decide, by decide⟩, ?_⟩) | (refine ⟨(by show (0 : Int) < _; decide), ?_⟩) | (refine ⟨rfl, ?_⟩) | (refine ⟨(by show _ ≠ (0 : Int); omega), ?_⟩) | (refine ⟨.inl ⟨by decide, by decide⟩, ?_⟩) | (refine ⟨(by assumption : CDivN _ _), ?_⟩) | (refine ite_y (by decide) ?_) | (refine ite_n (by decide) ?_) | (refine ite_y rfl ?_) | (refine ite_n Bool.false_ne_true ?_)))
  by_cases h2 : a = b
  · refine ite_n (by rw [h2, decide_eq_true rfl]; decide) ?_
    exact ⟨_, rfl, Out.yes q e1 (by unfold likeW; rw [ha, hb]; exact if_pos h2)⟩
  · refine ite_y (by rw [decide_eq_false fun z => h2 (V.int.inj z)]; rfl) ?_
    exact Out.no q e1 (by unfold likeW; rw [ha, hb]; exact if_neg h2)
/-! ### meet, reach -/
theorem el_lcP {a : Addr} {rs : List Addr} {ps : List (Int × Int)} {tl : TE} {vs : List Nat} {i1 i2 ix : Nat} (f : Int × Int → Int) (h : Ev tl σ H (.ref a)) (hx : SqT K H a (rs.map V.ref)) (hr : Paired (fun (r : Addr) (p : Int × Int) => H r = some (.tup [.int p.1, .int p.2])) rs ps) (hz : ps.length ≤ 1000)
    (hw : ∀ x y, wipe (((wipe σ vs).set i1 (some x)).set i2 (some y)) vs = wipe σ vs) (he : ∀ p : Int × Int, (((wipe σ vs).set i1 (some (.int p.1))).set i2 (some (.int p.2)))[ix]? = some (some (.int (f p)))) :
    EvL (tLc (iTup K tl) (gTup K 2 (gCons (gName i1) (gCons (gName i2) gNil))) tYes (tVar ix) vs) σ H ((ps.map f).map V.int) := fun H0 e Q q => h H0 e _ fun H1 e1 => ⟨a, rfl, ⟨rs.map V.ref, ex_t (e.trans e1) hx⟩, fun Dl hD =>
  lc_tup (xs := rs.map V.ref) (fun i H' => Ex H1 H' ∧ H' Dl = some (.lst (((ps.take i).map f).map V.int))) ⟨Ex.new hD, upd_same⟩ (fun i H' _ p => ex_t ((e.trans e1).trans p.1) hx) (fun i x H' hi ⟨p1, p2⟩ => by
    obtain ⟨r, pr, rfl, hpi, hr'⟩ := pairs_at hr i x hi
    have lt : i < ps.length := (List.getElem?_eq_some_iff.mp hpi).1
    refine ⟨r, _, rfl, st_of (((e.trans e1).trans p1) _ _ hr'), rfl, _, _, rfl, _, _, rfl, rfl, hw _ _, _, he pr, _, p2, sz_lt (by rw [List.length_map, List.length_map, List.length_take]; omega), Ex.mut p1 hD, ?_⟩
    rw [upd_same, List.take_add_one, hpi, List.map_append, List.map_append]
    rfl) (fun H' ⟨p1, p2⟩ => q _ H' (fresh_back e1 hD) (e1.trans p1) (by rw [p2, List.length_map, pairs_len hr, List.take_length]))⟩
theorem drop_call {sp : Sp} {F : L2.St → XK} {te : TE} {tr : TA} {tz : TS} {D : Ends} {xs : List V} (h : EvL te σ H xs) (k : ∀ p H2, H p = none → Ex H H2 → H2 p = some (.lst xs) → tr σ H2 fun vs H3 => sp (.ref p :: vs) H3 (fun _ H4 => tz D σ H4) (F σ)) : tSeq (tDrop (tCallS sp F (tCons te tr))) tz D σ H := h H (Ex.refl H) _ fun p H2 hn e hp => k p H2 hn e hp
def meetW (ws : List Int) (v u : View) (ps : List (Int × Int)) : Option Int := (widthOf ws v).bind fun a => (widthOf ws u).bind fun b => if (ps.map (·.1)).all (inW a) = true ∧ (ps.map (·.2)).all (inW b) = true then some (a + b) else none
def spMeet (C P0 : Addr) (N : Nat) : Sp := fun vs H Q E => ∃ (x y : V) (qa wl : Addr) (v u : View) (ps : List (Int × Int)) (ws : List Int), vs = [x, y, .ref qa, .ref wl] ∧ VOk N v ∧ VOk N u ∧ ps.length ≤ 1000 ∧ VAt H v x ∧ VAt H u y ∧ PairsAt H qa ps ∧ H wl = some (.lst (ws.map V.int)) ∧ (∀ c ∈ ws, 1 ≤ c ∧ c ≤ 6) ∧ GxR.TabG H P0 ∧ Out C (meetW ws v u ps) H Q E
theorem XT.prs {rs : List Addr} {ps : List (Int × Int)} (e : XT H H') (h : Paired (fun (r : Addr) (p : Int × Int) => H r = some (.tup [.int p.1, .int p.2])) rs ps) : Paired (fun (r : Addr) (p : Int × Int) => H' r = some (.tup [.int p.1, .int p.2])) rs ps := L2.Paired.mapP h fun _ _ z => e.tup z
theorem ok_meet {f f1 f2 : Addr} {fd fd1 fd2 : FuncData} {M N : Nat} (A : FnAt K mg "_meet_width" s_meet_width P_meet_width f fd) (Atwo2 : FnAt K mg "_two_widths" s_two_widths P_two_widths f1 fd1) (Acheck : FnAt K mg "_check_columns" s_check_columns P_check_columns f2 fd2) (hM : 1 ≤ M)
    (Gtwo2 : FnOk P w K mg base (L2.CX P w) M f1 fd1 P_two_widths (spTwo2 C P0 N)) (Gcheck : FnOk P w K mg base (L2.CX P w) 1 f2 fd2 P_check_columns (spCheck K C P0)) (R : Rs K mg C tk) : FnOk P w K mg base (L2.CX P w) (M + 1) f fd P_meet_width (spMeet C P0 N) := by
  refine A.F.okX sc_meet_width (fun vs H Q E h => ?_) (fun cdv A' outer s H vs Q E hrW h => ?_)
  · obtain ⟨_, _, _, _, _, _, _, _, rfl, _⟩ := h
    rfl
  obtain ⟨x, y, qa, wl, v, u, ps, ws, rfl, hok, hok2, hl, hv, hu, ⟨rs, hq, hpr⟩, hwl, hws, hT, q⟩ := h
  have hr1 : Room 1 _ := hrW.mono hM
  refine ⟨_, (pss_cons (ps_asg (pe_callS Gtwo2 hrW rfl Atwo2.g Atwo2.F.kp Atwo2.b (fun σ => passAt (takes_of rfl rfl rfl rfl) σ) (pa_cons (pv 0) (pa_cons (pv 1) (pa_cons (pv 3) pa_nil)))) (pg_tup rfl (pgs_cons (pg_name (i := 4) sc_meet_width.nd rfl (.inl rfl)) (pgs_cons (pg_name (i := 5) sc_meet_width.nd rfl (.inl rfl)) pgs_nil))))
  (pss_cons (ps_expr (pe_callS Gcheck hr1 rfl Acheck.g Acheck.F.kp Acheck.b (fun σ => passAt (takes_of rfl rfl rfl rfl) σ) (pa_cons (pe_lc (own := [("left", 6), ("_", 7)]) (g := (gTup K 2 (gCons (gName 6) (gCons (gName 7) gNil)))) (tt := tYes) rfl sc_meet_width.nd (pi_tup (pv 2)) (blkOk_by (N := N_meet_width) (sc := defScope s_meet_width) (by decide +kernel)) (fun _ _ _ _ _ => (pg_tup rfl (pgs_cons (pg_name (i := 6) sc_meet_width.nd rfl (.inl rfl)) (pgs_cons (pg_name (i := 7) sc_meet_width.nd rfl (.inl rfl)) pgs_nil)))) (fun _ _ _ _ _ => pts_nil) (fun _ _ _ _ _ => (pv 6))) (pa_cons (pv 4) pa_nil))))
  (pss_cons (ps_expr (pe_callS Gcheck hr1 rfl Acheck.g Acheck.F.kp Acheck.b (fun σ => passAt (takes_of rfl rfl rfl rfl) σ) (pa_cons (pe_lc (own := [("_", 7), ("right", 8)]) (g := (gTup K 2 (gCons (gName 7) (gCons (gName 8) gNil)))) (tt := tYes) rfl sc_meet_width.nd (pi_tup (pv 2)) (blkOk_by (N := N_meet_width) (sc := defScope s_meet_width) (by decide +kernel)) (fun _ _ _ _ _ => (pg_tup rfl (pgs_cons (pg_name (i := 7) sc_meet_width.nd rfl (.inl rfl)) (pgs_cons (pg_name (i := 8) sc_meet_width.nd rfl (.inl rfl)) pgs_nil)))) (fun _ _ _ _ _ => pts_nil) (fun _ _ _ _ _ => (pv 8))) (pa_cons (pv 5) pa_nil))))
  (pss_one (ps_ret (pe_op op_add (pv 4) (pv 5))))))), ?_⟩
  (repeat (first | (refine ⟨_, _, _, _, rfl, rfl, st_of hp, rfl, ?_⟩) | (refine ⟨_, rfl, ?_⟩) | (refine ⟨_, _, rfl, rfl, ?_⟩) | (refine ⟨⟨by decide, by decide⟩, ?_⟩) | (refine ⟨(by show (0 : Int) < _; decide), ?_⟩) | (refine ⟨rfl, ?_⟩) | (refine ⟨(by show _ ≠ (0 : Int); omega), ?_⟩) | (refine ⟨.inl ⟨by decide, by decide⟩, ?_⟩) | (refine ⟨(by assumption : CDivN _ _), ?_⟩) | (refine ite_y (by decide) ?_) | (refine ite_n (by decide) ?_) | (refine ite_y rfl ?_) | (refine ite_n Bool.false_ne_true ?_)))
  refine ⟨x, y, wl, v, u, ws, rfl, hok, hok2, hv, hu, hwl, hws, hT, fun a b ha hb p H1 e1 hp => ?_, fun hn H1 e1 => Out.no q e1 (two_none hn)⟩
  refine ⟨p, _, rfl, st_of hp, rfl, _, _, rfl, _, _, rfl, rfl, ?_⟩
  dsimp only
  refine drop_call (el_lcP (σ := [some x, some y, some (.ref qa), some (.ref wl), some (.int a), some (.int b), none, none, none]) (i1 := 6) (i2 := 7) (f := (·.1)) (ev_var (i := 2) rfl) (st_of (e1.tup hq)) (XT.prs e1 hpr) hl (by intro _ _; rfl) (by intro _; rfl)) fun l1 H2 _ e2 hl1 => ?_
  (repeat (first | (refine ⟨_, _, _, _, rfl, rfl, st_of hp, rfl, ?_⟩) | (refine ⟨_, rfl, ?_⟩) | (refine ⟨_, _, rfl, rfl, ?_⟩) | (refine ⟨⟨by decide, by decide⟩, ?_⟩) | (refine ⟨(by show (0 : Int) < _; decide), ?_⟩) | (refine ⟨rfl, ?_⟩) | (refine ⟨(by show _ ≠ (0 : Int); omega), ?_⟩) | (refine ⟨.inl ⟨by decide, by decide⟩, ?_⟩) | (refine ⟨(by assumption : CDivN _ _), ?_⟩) | (refine ite_y (by decide) ?_) | (refine ite_n (by decide) ?_) | (refine ite_y rfl ?_) | (refine ite_n Bool.false_ne_true ?_)))
  have e02 := e1.trans (XT.of_ex e2)
  refine ⟨l1, ps.map (·.1), a, rfl, .inl (sq_of hl1), e02.tab _ hT, fun h1 H3 e3 => ?_, fun h1 H3 e3 => Out.no q (e02.trans e3) (by unfold meetW; rw [ha, hb]; exact if_neg fun z => by rw [h1] at z; exact Bool.false_ne_true z.1)⟩
  have e03 := e02.trans e3
  dsimp only
  refine drop_call (el_lcP (σ := [some x, some y, some (.ref qa), some (.ref wl), some (.int a), some (.int b), none, none, none]) (i1 := 7) (i2 := 8) (f := (·.2)) (ev_var (i := 2) rfl) (st_of (e03.tup hq)) (XT.prs e03 hpr) hl (by intro _ _; rfl) (by intro _; rfl)) fun l2 H4 _ e4 hl2 => ?_
  (repeat (first | (refine ⟨_, _, _, _, rfl, rfl, st_of hp, rfl, ?_⟩) | (refine ⟨_, rfl, ?_⟩) | (refine ⟨_, _, rfl, rfl, ?_⟩) | (refine ⟨⟨by decide, by decide⟩, ?_⟩) | (refine ⟨(by show (0 : Int) < _; decide), ?_⟩) | (refine ⟨rfl, ?_⟩) | (refine ⟨(by show _ ≠ (0 : Int); omega), ?_⟩) | (refine ⟨.inl ⟨by decide, by decide⟩, ?_⟩) | (refine ⟨(by assumption : CDivN _ _), ?_⟩) | (refine ite_y (by decide) ?_) | (refine ite_n (by decide) ?_) | (refine ite_y rfl ?_) | (refine ite_n Bool.false_ne_true ?_)))
  have e04 := e03.trans (XT.of_ex e4)
  refine ⟨l2, ps.map (·.2), b, rfl, .inl (sq_of hl2), e04.tab _ hT, fun h2 H5 e5 => ?_, fun h2 H5 e5 => Out.no q (e04.trans e5) (by unfold meetW; rw [ha, hb]; exact if_neg fun z => by rw [h2] at z; exact Bool.false_ne_true z.2)⟩
  (repeat (first | (refine ⟨_, _, _, _, rfl, rfl, st_of hp, rfl, ?_⟩) | (refine ⟨_, rfl, ?_⟩) | (refine ⟨_, _, rfl, rfl, ?_⟩) | (refine ⟨⟨by decide, by decide⟩, ?_⟩) | (refine ⟨(by show (0 : Int) < _; decide), ?_⟩) | (refine ⟨rfl, ?_⟩) | (refine ⟨(by show _ ≠ (0 : Int); omega), ?_⟩) | (refine ⟨.inl ⟨by decide, by decide⟩, ?_⟩) | (refine ⟨(by assumption : CDivN _ _), ?_⟩) | (refine ite_y (by decide) ?_) | (refine ite_n (by decide) ?_) | (refine ite_y rfl ?_) | (refine ite_n Bool.false_ne_true ?_)))
  exact Out.yes q (e04.trans e5) (by unfold meetW; rw [ha, hb]; exact if_pos ⟨h1, h2⟩)
def reachW (ws : List Int) (v : View) : Option Int := (widthOf ws v).bind fun m => if m = 2 then some 2 else none
def spReach (C P0 : Addr) (N : Nat) : Sp := fun vs H Q E => ∃ (x : V) (wl : Addr) (v : View) (ws : List Int), vs = [x, .ref wl] ∧ VOk N v ∧ VAt H v x ∧ H wl = some (.lst (ws.map V.int)) ∧ (∀ c ∈ ws, 1 ≤ c ∧ c ≤ 6) ∧ GxR.TabG H P0 ∧ Out C (reachW ws v) H Q E
theorem ok_reach {f f1 : Addr} {fd fd1 : FuncData} {M N : Nat} (A : FnAt K mg "_reach_width" s_reach_width P_reach_width f fd) (Awof : FnAt K mg "width_of" swidth_of Pwidth_of f1 fd1)
    (Gwof : FnOk P w K mg base (L2.CX P w) M f1 fd1 Pwidth_of (spWof C P0 N)) (R : Rs K mg C tk) : FnOk P w K mg base (L2.CX P w) (M + 1) f fd P_reach_width (spReach C P0 N) := by
  refine A.F.okX sc_reach_width (fun vs H Q E h => ?_) (fun cdv A' outer s H vs Q E hrF h => ?_)
  · obtain ⟨_, _, _, _, rfl, _⟩ := h
    rfl
  obtain ⟨x, wl, v, ws, rfl, hok, hv, hwl, hws, hT, q⟩ := h
  refine ⟨_, (pss_cons (ps_set (i := 2) sc_reach_width.nd rfl (.inl rfl) (pe_callS Gwof hrF rfl Awof.g Awof.F.kp Awof.b (fun σ => passAt (takes_of rfl rfl rfl rfl) σ) (pa_cons (pv 0) (pa_cons (pv 1) pa_nil))))
  (pss_cons (ps_if (pt_cmpR op_ne (pv 2) pe_int (nomark _)) (pss_one (ps_raise rfl (takes_of rfl rfl rfl rfl) (pmk_own PySem.F.excBase_ValueError R.x R.g R.k (raises_own R.b R.t) rfl))) pss_nil)
  (pss_one (ps_ret (pv 2))))), ?_⟩
  (repeat (first | (refine ⟨_, _, _, _, rfl, rfl, st_of hp, rfl, ?_⟩) | (refine ⟨_, rfl, ?_⟩) | (refine ⟨_, _, rfl, rfl, ?_⟩) | (refine ⟨⟨by decide, by decide⟩, ?_⟩) | (refine ⟨(by show (0 : Int) < _; decide), ?_⟩) | (refine ⟨rfl, ?_⟩) | (refine ⟨(by show _ ≠ (0 : Int); omega), ?_⟩) | (refine ⟨.inl ⟨by decide, by decide⟩, ?_⟩) | (refine ⟨(by assumption : CDivN _ _), ?_⟩) | (refine ite_y (by decide) ?_) | (refine ite_n (by decide) ?_) | (refine ite_y rfl ?_) | (refine ite_n Bool.false_ne_true ?_)))
  refine ⟨x, wl, v, ws, rfl, hok, hv, hwl, hws, hT, fun m hm H1 e1 => ?_, fun hn H1 e1 => Out.no q e1 (by unfold reachW; rw [hn]; rfl)⟩
  (repeat (first | (refine ⟨_, _, _, _, rfl, rfl, st_of hp, rfl, ?_⟩) | (refine ⟨_, rfl, ?_⟩) | (refine ⟨_, _, rfl, rfl, ?_⟩) | (refine ⟨⟨by decide, by decide⟩, ?_⟩) | (refine ⟨(by show (0 : Int) < _; decide), ?_⟩) | (refine ⟨rfl, ?_⟩) | (refine ⟨(by show _ ≠ (0 : Int); omega), ?_⟩) | (refine ⟨.inl ⟨by decide, by decide⟩, ?_⟩) | (refine ⟨(by assumption : CDivN _ _), ?_⟩) | (refine ite_y (by decide) ?_) | (refine ite_n (by decide) ?_) | (refine ite_y rfl ?_) | (refine ite_n Bool.false_ne_true ?_)))
  by_cases h2 : m = 2
  · refine ite_n (by rw [h2]; decide) ?_
    refine ⟨_, rfl, ?_⟩
    rw [h2]
    exact Out.yes q e1 (by unfold reachW; rw [hm, h2]; rfl)
  · refine ite_y (by rw [decide_eq_false fun z => h2 (V.int.inj z)]; rfl) ?_
    exact Out.no q e1 (by unfold reachW; rw [hm]; exact if_neg h2)
/-! ### by the word -/
def toldW (ws : List Int) : View → Option Int
  | .table t => tabW ws t
  | .within v c _ _ => withW ws v [c]
  | .columns v cs => colW ws v cs
  | .both v u => likeW ws v u
  | .less v u => likeW ws v u
  | .meet v u ps => meetW ws v u ps
  | .once v => widthOf ws v
  | .sums v ks c => (withW ws v (ks ++ [c])).bind fun _ => some (ks.length + 2)
  | .reach v => reachW ws v
  | .odd _ _ _ => none
theorem cap_same {r : Option Int} (h : ∀ n, r = some n → n ≤ 40) : r.bind cap = r := by
  cases r with
  | none => rfl
  | some n => exact if_pos (h n rfl)
theorem wide_told {ws : List Int} (hw : ∀ c ∈ ws, 1 ≤ c ∧ c ≤ 6) (v : View) : widthOf ws v = (toldW ws v).bind cap := by
  have same : toldW ws v = widthOf ws v → widthOf ws v = (toldW ws v).bind cap := fun h => by
    rw [h, cap_same (wo_le hw v)]
  cases v with
  | table t => exact same rfl
  | within v c lo hi =>
    refine same ?_
    show (widthOf ws v).bind _ = (widthOf ws v).bind _
    congr 1
    funext m
    rw [show [c].all (inW m) = inW m c by simp]
  | both v u => exact same rfl
  | less v u => exact same rfl
  | once v => exact same rfl
  | reach v => exact same rfl
  | odd o v u => rfl
  | columns v cs =>
    show (widthOf ws v).bind _ = ((((widthOf ws v).bind fun m => if cs.all (inW m) = true then some m else none).bind fun _ => if cs = [] then none else some (cs.length : Int)).bind cap)
    cases widthOf ws v with
    | none => rfl
    | some m =>
      show (if cs ≠ [] ∧ cs.all (inW m) = true then cap cs.length else none) = (((if cs.all (inW m) = true then some m else none).bind fun _ => if cs = [] then none else some (cs.length : Int)).bind cap)
      by_cases h1 : cs.all (inW m) = true
      · by_cases h2 : cs = []
        · rw [if_neg fun z => z.1 h2, if_pos h1]
          show none = (if cs = [] then none else some (cs.length : Int)).bind cap
          rw [if_pos h2]
          rfl
        · rw [if_pos ⟨h2, h1⟩, if_pos h1]
          show _ = (if cs = [] then none else some (cs.length : Int)).bind cap
          rw [if_neg h2]
          rfl
      · rw [if_neg fun z => h1 z.2, if_neg h1]
        rfl
  | meet v u ps =>
    show ((widthOf ws v).bind fun a => (widthOf ws u).bind fun b => _) = (((widthOf ws v).bind fun a => (widthOf ws u).bind fun b => _).bind cap)
    cases widthOf ws v with
    | none => rfl
    | some a =>
      show ((widthOf ws u).bind fun b => _) = (((widthOf ws u).bind fun b => _).bind cap)
      cases widthOf ws u with
      | none => rfl
      | some b =>
        show (if (ps.map (·.1)).all (inW a) = true ∧ (ps.map (·.2)).all (inW b) = true then cap (a + b) else none) = (if (ps.map (·.1)).all (inW a) = true ∧ (ps.map (·.2)).all (inW b) = true then some (a + b) else none).bind cap
        by_cases h : (ps.map (·.1)).all (inW a) = true ∧ (ps.map (·.2)).all (inW b) = true
        · rw [if_pos h, if_pos h]
          rfl
        · rw [if_neg h, if_neg h]
          rfl
  | sums v ks c =>
    show (widthOf ws v).bind _ = ((((widthOf ws v).bind fun m => if (ks ++ [c]).all (inW m) = true then some m else none).bind fun _ => some ((ks.length : Int) + 2)).bind cap)
    cases widthOf ws v with
    | none => rfl
    | some m =>
      show (if ks.all (inW m) = true ∧ inW m c = true then cap (ks.length + 2) else none) = (((if (ks ++ [c]).all (inW m) = true then some m else none).bind fun _ => some ((ks.length : Int) + 2)).bind cap)
      have e : (ks ++ [c]).all (inW m) = true ↔ ks.all (inW m) = true ∧ inW m c = true := by simp
      by_cases h : ks.all (inW m) = true ∧ inW m c = true
      · rw [if_pos h, if_pos (e.mpr h)]
        rfl
      · rw [if_neg h, if_neg fun z => h (e.mp z)]
        rfl
def spTold (C P0 : Addr) (N : Nat) : Sp := fun vs H Q E => ∃ (x : V) (wl : Addr) (v : View) (ws : List Int), vs = [x, .ref wl] ∧ VOk (N + 1) v ∧ VAt H v x ∧ H wl = some (.lst (ws.map V.int)) ∧ (∀ c ∈ ws, 1 ≤ c ∧ c ≤ 6) ∧ GxR.TabG H P0 ∧ Out C (toldW ws v) H Q E
theorem not_word {o k : Str} (h4 : o ∈ four) (hk : k ∈ nine) : ¬ decide (o = k) = true := fun h => four_nine h4 (by rw [of_decide_eq_true h]; exact hk)
theorem ok_told {f f1 f2 f3 f4 f5 f6 f7 : Addr} {fd fd1 fd2 fd3 fd4 fd5 fd6 fd7 : FuncData} {M N : Nat} (A : FnAt K mg "_told_width" s_told_width P_told_width f fd) (Awof : FnAt K mg "width_of" swidth_of Pwidth_of f1 fd1) (Atab : FnAt K mg "_table_width" s_table_width P_table_width f2 fd2) (Awith : FnAt K mg "_width_with" s_width_with P_width_with f3 fd3)
    (Acolw : FnAt K mg "_columns_width" s_columns_width P_columns_width f4 fd4) (Alike : FnAt K mg "_like_width" s_like_width P_like_width f5 fd5) (Ameet : FnAt K mg "_meet_width" s_meet_width P_meet_width f6 fd6) (Areach : FnAt K mg "_reach_width" s_reach_width P_reach_width f7 fd7) (B : Bt mg) (R : Rs K mg C tk)
    (Gwof : FnOk P w K mg base (L2.CX P w) M f1 fd1 Pwidth_of (spWof C P0 N)) (Gtab : FnOk P w K mg base (L2.CX P w) 1 f2 fd2 P_table_width (spTab C)) (Gwith : FnOk P w K mg base (L2.CX P w) (M + 1) f3 fd3 P_width_with (spWith K C P0 N)) (Gcolw : FnOk P w K mg base (L2.CX P w) (M + 2) f4 fd4 P_columns_width (spColw C P0 N))
    (Glike : FnOk P w K mg base (L2.CX P w) (M + 2) f5 fd5 P_like_width (spLike C P0 N)) (Gmeet : FnOk P w K mg base (L2.CX P w) (M + 2) f6 fd6 P_meet_width (spMeet C P0 N)) (Greach : FnOk P w K mg base (L2.CX P w) (M + 1) f7 fd7 P_reach_width (spReach C P0 N)) :
    FnOk P w K mg base (L2.CX P w) (M + 3) f fd P_told_width (spTold C P0 N) := by
  refine A.F.okX sc_told_width (fun vs H Q E h => ?_) (fun cdv A' outer s H vs Q E hrC h => ?_)
  · obtain ⟨_, _, _, _, rfl, _⟩ := h
    rfl
  obtain ⟨x, wl, v, ws, rfl, hok, hv, hwl, hws, hT, q⟩ := h
  have hr1 : Room 1 _ := hrC.mono (by omega)
  have hrW : Room (M + 1) _ := hrC.mono (by omega)
  have hrF : Room M _ := hrC.mono (by omega)
  refine ⟨_, (pss_one (KM.ps_match (pv 0) (KM.pm_seq (n := 1) rfl sc_told_width.nd KM.pp_str (KM.Caps.name (i := 2) rfl (.inl rfl) (.inl rfl) KM.Caps.nil) (pss_one (ps_ret (pe_callS Gtab hr1 rfl Atab.g Atab.F.kp Atab.b (fun σ => passAt (takes_of rfl rfl rfl rfl) σ) (pa_cons (pv 2) (pa_cons (pv 1) pa_nil)))))
    (KM.pm_seq (n := 4) rfl sc_told_width.nd KM.pp_str (KM.Caps.name (i := 3) rfl (.inl rfl) (.inl rfl) (KM.Caps.name (i := 4) rfl (.inl rfl) (.inl rfl) (KM.Caps.wild (KM.Caps.wild KM.Caps.nil)))) (pss_one (ps_ret (pe_callS Gwith hrW rfl Awith.g Awith.F.kp Awith.b (fun σ => passAt (takes_of rfl rfl rfl rfl) σ) (pa_cons (pv 3) (pa_cons (pe_lst (pa_cons (pv 4) pa_nil)) (pa_cons (pv 1) pa_nil))))))
    (KM.pm_seq (n := 2) rfl sc_told_width.nd KM.pp_str (KM.Caps.name (i := 3) rfl (.inl rfl) (.inl rfl) (KM.Caps.name (i := 5) rfl (.inl rfl) (.inl rfl) KM.Caps.nil)) (pss_one (ps_ret (pe_callS Gcolw hrC rfl Acolw.g Acolw.F.kp Acolw.b (fun σ => passAt (takes_of rfl rfl rfl rfl) σ) (pa_cons (pv 3) (pa_cons (pv 5) (pa_cons (pv 1) pa_nil))))))
    (KM.pm_seq (n := 2) rfl sc_told_width.nd (KM.pp_or2 KM.pp_str KM.pp_str) (KM.Caps.name (i := 6) rfl (.inl rfl) (.inl rfl) (KM.Caps.name (i := 7) rfl (.inl rfl) (.inl rfl) KM.Caps.nil)) (pss_one (ps_ret (pe_callS Glike hrC rfl Alike.g Alike.F.kp Alike.b (fun σ => passAt (takes_of rfl rfl rfl rfl) σ) (pa_cons (pv 6) (pa_cons (pv 7) (pa_cons (pv 1) pa_nil))))))
    (KM.pm_seq (n := 3) rfl sc_told_width.nd KM.pp_str (KM.Caps.name (i := 6) rfl (.inl rfl) (.inl rfl) (KM.Caps.name (i := 7) rfl (.inl rfl) (.inl rfl) (KM.Caps.name (i := 8) rfl (.inl rfl) (.inl rfl) KM.Caps.nil))) (pss_one (ps_ret (pe_callS Gmeet hrC rfl Ameet.g Ameet.F.kp Ameet.b (fun σ => passAt (takes_of rfl rfl rfl rfl) σ) (pa_cons (pv 6) (pa_cons (pv 7) (pa_cons (pv 8) (pa_cons (pv 1) pa_nil)))))))
    (KM.pm_seq (n := 1) rfl sc_told_width.nd KM.pp_str (KM.Caps.name (i := 3) rfl (.inl rfl) (.inl rfl) KM.Caps.nil) (pss_one (ps_ret (pe_callS Gwof hrF rfl Awof.g Awof.F.kp Awof.b (fun σ => passAt (takes_of rfl rfl rfl rfl) σ) (pa_cons (pv 3) (pa_cons (pv 1) pa_nil)))))
    (KM.pm_seq (n := 3) rfl sc_told_width.nd KM.pp_str (KM.Caps.name (i := 3) rfl (.inl rfl) (.inl rfl) (KM.Caps.name (i := 9) rfl (.inl rfl) (.inl rfl) (KM.Caps.name (i := 4) rfl (.inl rfl) (.inl rfl) KM.Caps.nil))) (pss_cons (ps_expr (pe_callS Gwith hrW rfl Awith.g Awith.F.kp Awith.b (fun σ => passAt (takes_of rfl rfl rfl rfl) σ) (pa_cons (pv 3) (pa_cons (pe_lst (StX.pa_star (pv 9) (pa_cons (pv 4) pa_nil))) (pa_cons (pv 1) pa_nil)))))
  (pss_one (ps_ret (pe_op op_add (pe_callB call_len_seq (by rfl) B.len (by decide +kernel) (pa_cons (pv 9) pa_nil)) pe_int))))
    (KM.pm_seq (n := 1) rfl sc_told_width.nd KM.pp_str (KM.Caps.name (i := 3) rfl (.inl rfl) (.inl rfl) KM.Caps.nil) (pss_one (ps_ret (pe_callS Greach hrW rfl Areach.g Areach.F.kp Areach.b (fun σ => passAt (takes_of rfl rfl rfl rfl) σ) (pa_cons (pv 3) (pa_cons (pv 1) pa_nil)))))
    (KM.pm_any (pss_one (ps_raise rfl (takes_of rfl rfl rfl rfl) (pmk_own PySem.F.excBase_ValueError R.x R.g R.k (raises_own R.b R.t) rfl)))))))))))))), ?_⟩
  refine ⟨_, rfl, ?_⟩
  cases v with
  | table t =>
    obtain ⟨p, rfl, hp⟩ := hv
    refine ⟨_, _, _, rfl, st_of hp, fun _ => ⟨_, _, rfl, rfl, ?_⟩, fun h => absurd ⟨rfl, by decide⟩ h⟩
    (repeat (first | (refine ⟨_, _, _, _, rfl, rfl, st_of hp, rfl, ?_⟩) | (refine ⟨_, rfl, ?_⟩) | (refine ⟨_, _, rfl, rfl, ?_⟩) | (refine ⟨⟨by decide, by decide⟩, ?_⟩) | (refine ⟨(by show (0 : Int) < _; decide), ?_⟩) | (refine ⟨rfl, ?_⟩) | (refine ⟨(by show _ ≠ (0 : Int); omega), ?_⟩) | (refine ⟨.inl ⟨by decide, by decide⟩, ?_⟩) | (refine ⟨(by assumption : CDivN _ _), ?_⟩) | (refine ite_y (by decide) ?_) | (refine ite_n (by decide) ?_) | (refine ite_y rfl ?_) | (refine ite_n Bool.false_ne_true ?_)))
    exact ⟨t, wl, ws, rfl, hwl, q⟩
  | within v1 c lo hi =>
    obtain ⟨p, y, rfl, hp, hy, _⟩ := hv
    refine ⟨_, _, _, rfl, st_of hp, fun h => absurd h.2 (by decide), fun _ => ?_⟩
    refine ⟨_, _, _, rfl, st_of hp, fun _ => ⟨_, _, rfl, _, _, rfl, _, _, rfl, _, _, rfl, rfl, ?_⟩, fun h => absurd ⟨rfl, by decide⟩ h⟩
    (repeat (first | (refine ⟨_, _, _, _, rfl, rfl, st_of hp, rfl, ?_⟩) | (refine ⟨_, rfl, ?_⟩) | (refine ⟨_, _, rfl, rfl, ?_⟩) | (refine ⟨⟨by decide, by decide⟩, ?_⟩) | (refine ⟨(by show (0 : Int) < _; decide), ?_⟩) | (refine ⟨rfl, ?_⟩) | (refine ⟨(by show _ ≠ (0 : Int); omega), ?_⟩) | (refine ⟨.inl ⟨by decide, by decide⟩, ?_⟩) | (refine ⟨(by assumption : CDivN _ _), ?_⟩) | (refine ite_y (by decide) ?_) | (refine ite_n (by decide) ?_) | (refine ite_y rfl ?_) | (refine ite_n Bool.false_ne_true ?_)))
    refine ⟨by show 1 ≤ sizeLine; decide, fun l hl => ?_⟩
    (repeat (first | (refine ⟨_, _, _, _, rfl, rfl, st_of hp, rfl, ?_⟩) | (refine ⟨_, rfl, ?_⟩) | (refine ⟨_, _, rfl, rfl, ?_⟩) | (refine ⟨⟨by decide, by decide⟩, ?_⟩) | (refine ⟨(by show (0 : Int) < _; decide), ?_⟩) | (refine ⟨rfl, ?_⟩) | (refine ⟨(by show _ ≠ (0 : Int); omega), ?_⟩) | (refine ⟨.inl ⟨by decide, by decide⟩, ?_⟩) | (refine ⟨(by assumption : CDivN _ _), ?_⟩) | (refine ite_y (by decide) ?_) | (refine ite_n (by decide) ?_) | (refine ite_y rfl ?_) | (refine ite_n Bool.false_ne_true ?_)))
    have e := XT.of_ex (Ex.new (o := .lst [.int c]) hl)
    exact ⟨y, l, wl, v1, [c], ws, rfl, hok, e.view v1 y hy, .inl (sq_of upd_same), e.lst hwl, hws, e.tab _ hT, fun m hm H' e' => Out.yes q (e.trans e') hm, fun hn H' e' => Out.no q (e.trans e') hn⟩
  | columns v1 cs =>
    obtain ⟨p, y, qa, rfl, hp, hy, hq⟩ := hv
    refine ⟨_, _, _, rfl, st_of hp, fun h => absurd h.2 (by decide), fun _ => ?_⟩
    refine ⟨_, _, _, rfl, st_of hp, fun h => absurd h.2 (by decide), fun _ => ?_⟩
    refine ⟨_, _, _, rfl, st_of hp, fun _ => ⟨_, _, rfl, _, _, rfl, rfl, ?_⟩, fun h => absurd ⟨rfl, by decide⟩ h⟩
    (repeat (first | (refine ⟨_, _, _, _, rfl, rfl, st_of hp, rfl, ?_⟩) | (refine ⟨_, rfl, ?_⟩) | (refine ⟨_, _, rfl, rfl, ?_⟩) | (refine ⟨⟨by decide, by decide⟩, ?_⟩) | (refine ⟨(by show (0 : Int) < _; decide), ?_⟩) | (refine ⟨rfl, ?_⟩) | (refine ⟨(by show _ ≠ (0 : Int); omega), ?_⟩) | (refine ⟨.inl ⟨by decide, by decide⟩, ?_⟩) | (refine ⟨(by assumption : CDivN _ _), ?_⟩) | (refine ite_y (by decide) ?_) | (refine ite_n (by decide) ?_) | (refine ite_y rfl ?_) | (refine ite_n Bool.false_ne_true ?_)))
    exact ⟨y, qa, wl, v1, cs, ws, rfl, hok.1, hy, hq, hwl, hws, hT, q⟩
  | both v1 v2 =>
    obtain ⟨p, y, z, rfl, hp, hy, hz⟩ := hv
    refine ⟨_, _, _, rfl, st_of hp, fun h => absurd h.2 (by decide), fun _ => ?_⟩
    refine ⟨_, _, _, rfl, st_of hp, fun h => absurd h.2 (by decide), fun _ => ?_⟩
    refine ⟨_, _, _, rfl, st_of hp, fun h => absurd h.2 (by decide), fun _ => ?_⟩
    refine ⟨_, _, _, rfl, st_of hp, fun _ => ⟨_, _, rfl, _, _, rfl, rfl, ?_⟩, fun h => absurd ⟨rfl, by decide⟩ h⟩
    (repeat (first | (refine ⟨_, _, _, _, rfl, rfl, st_of hp, rfl, ?_⟩) | (refine ⟨_, rfl, ?_⟩) | (refine ⟨_, _, rfl, rfl, ?_⟩) | (refine ⟨⟨by decide, by decide⟩, ?_⟩) | (refine ⟨(by show (0 : Int) < _; decide), ?_⟩) | (refine ⟨rfl, ?_⟩) | (refine ⟨(by show _ ≠ (0 : Int); omega), ?_⟩) | (refine ⟨.inl ⟨by decide, by decide⟩, ?_⟩) | (refine ⟨(by assumption : CDivN _ _), ?_⟩) | (refine ite_y (by decide) ?_) | (refine ite_n (by decide) ?_) | (refine ite_y rfl ?_) | (refine ite_n Bool.false_ne_true ?_)))
    exact ⟨y, z, wl, v1, v2, ws, rfl, hok.1, hok.2, hy, hz, hwl, hws, hT, q⟩
  | less v1 v2 =>
    obtain ⟨p, y, z, rfl, hp, hy, hz⟩ := hv
    refine ⟨_, _, _, rfl, st_of hp, fun h => absurd h.2 (by decide), fun _ => ?_⟩
    refine ⟨_, _, _, rfl, st_of hp, fun h => absurd h.2 (by decide), fun _ => ?_⟩
    refine ⟨_, _, _, rfl, st_of hp, fun h => absurd h.2 (by decide), fun _ => ?_⟩
    refine ⟨_, _, _, rfl, st_of hp, fun _ => ⟨_, _, rfl, _, _, rfl, rfl, ?_⟩, fun h => absurd ⟨rfl, by decide⟩ h⟩
    (repeat (first | (refine ⟨_, _, _, _, rfl, rfl, st_of hp, rfl, ?_⟩) | (refine ⟨_, rfl, ?_⟩) | (refine ⟨_, _, rfl, rfl, ?_⟩) | (refine ⟨⟨by decide, by decide⟩, ?_⟩) | (refine ⟨(by show (0 : Int) < _; decide), ?_⟩) | (refine ⟨rfl, ?_⟩) | (refine ⟨(by show _ ≠ (0 : Int); omega), ?_⟩) | (refine ⟨.inl ⟨by decide, by decide⟩, ?_⟩) | (refine ⟨(by assumption : CDivN _ _), ?_⟩) | (refine ite_y (by decide) ?_) | (refine ite_n (by decide) ?_) | (refine ite_y rfl ?_) | (refine ite_n Bool.false_ne_true ?_)))
    exact ⟨y, z, wl, v1, v2, ws, rfl, hok.1, hok.2, hy, hz, hwl, hws, hT, q⟩
  | meet v1 v2 ps =>
    obtain ⟨p, y, z, qa, rfl, hp, hy, hz, hq⟩ := hv
    refine ⟨_, _, _, rfl, st_of hp, fun h => absurd h.2 (by decide), fun _ => ?_⟩
    refine ⟨_, _, _, rfl, st_of hp, fun h => absurd h.2 (by decide), fun _ => ?_⟩
    refine ⟨_, _, _, rfl, st_of hp, fun h => absurd h.2 (by decide), fun _ => ?_⟩
    refine ⟨_, _, _, rfl, st_of hp, fun h => absurd h.2 (by decide), fun _ => ?_⟩
    refine ⟨_, _, _, rfl, st_of hp, fun _ => ⟨_, _, rfl, _, _, rfl, _, _, rfl, rfl, ?_⟩, fun h => absurd ⟨rfl, by decide⟩ h⟩
    (repeat (first | (refine ⟨_, _, _, _, rfl, rfl, st_of hp, rfl, ?_⟩) | (refine ⟨_, rfl, ?_⟩) | (refine ⟨_, _, rfl, rfl, ?_⟩) | (refine ⟨⟨by decide, by decide⟩, ?_⟩) | (refine ⟨(by show (0 : Int) < _; decide), ?_⟩) | (refine ⟨rfl, ?_⟩) | (refine ⟨(by show _ ≠ (0 : Int); omega), ?_⟩) | (refine ⟨.inl ⟨by decide, by decide⟩, ?_⟩) | (refine ⟨(by assumption : CDivN _ _), ?_⟩) | (refine ite_y (by decide) ?_) | (refine ite_n (by decide) ?_) | (refine ite_y rfl ?_) | (refine ite_n Bool.false_ne_true ?_)))
    exact ⟨y, z, qa, wl, v1, v2, ps, ws, rfl, hok.1, hok.2.1, hok.2.2, hy, hz, hq, hwl, hws, hT, q⟩
  | once v1 =>
    obtain ⟨p, y, rfl, hp, hy⟩ := hv
    refine ⟨_, _, _, rfl, st_of hp, fun h => absurd h.2 (by decide), fun _ => ?_⟩
    refine ⟨_, _, _, rfl, st_of hp, fun h => absurd h.2 (by decide), fun _ => ?_⟩
    refine ⟨_, _, _, rfl, st_of hp, fun h => absurd h.2 (by decide), fun _ => ?_⟩
    refine ⟨_, _, _, rfl, st_of hp, fun h => absurd h.2 (by decide), fun _ => ?_⟩
    refine ⟨_, _, _, rfl, st_of hp, fun h => absurd h.2 (by decide), fun _ => ?_⟩
    refine ⟨_, _, _, rfl, st_of hp, fun _ => ⟨_, _, rfl, rfl, ?_⟩, fun h => absurd ⟨rfl, by decide⟩ h⟩
    (repeat (first | (refine ⟨_, _, _, _, rfl, rfl, st_of hp, rfl, ?_⟩) | (refine ⟨_, rfl, ?_⟩) | (refine ⟨_, _, rfl, rfl, ?_⟩) | (refine ⟨⟨by decide, by decide⟩, ?_⟩) | (refine ⟨(by show (0 : Int) < _; decide), ?_⟩) | (refine ⟨rfl, ?_⟩) | (refine ⟨(by show _ ≠ (0 : Int); omega), ?_⟩) | (refine ⟨.inl ⟨by decide, by decide⟩, ?_⟩) | (refine ⟨(by assumption : CDivN _ _), ?_⟩) | (refine ite_y (by decide) ?_) | (refine ite_n (by decide) ?_) | (refine ite_y rfl ?_) | (refine ite_n Bool.false_ne_true ?_)))
    exact ⟨y, wl, v1, ws, rfl, hok, hy, hwl, hws, hT, q⟩
  | sums v1 ks c =>
    obtain ⟨p, y, qa, rfl, hp, hy, hq⟩ := hv
    refine ⟨_, _, _, rfl, st_of hp, fun h => absurd h.2 (by decide), fun _ => ?_⟩
    refine ⟨_, _, _, rfl, st_of hp, fun h => absurd h.2 (by decide), fun _ => ?_⟩
    refine ⟨_, _, _, rfl, st_of hp, fun h => absurd h.2 (by decide), fun _ => ?_⟩
    refine ⟨_, _, _, rfl, st_of hp, fun h => absurd h.2 (by decide), fun _ => ?_⟩
    refine ⟨_, _, _, rfl, st_of hp, fun h => absurd h.2 (by decide), fun _ => ?_⟩
    refine ⟨_, _, _, rfl, st_of hp, fun h => absurd h.2 (by decide), fun _ => ?_⟩
    refine ⟨_, _, _, rfl, st_of hp, fun _ => ⟨_, _, rfl, _, _, rfl, _, _, rfl, rfl, ?_⟩, fun h => absurd ⟨rfl, by decide⟩ h⟩
    (repeat (first | (refine ⟨_, _, _, _, rfl, rfl, st_of hp, rfl, ?_⟩) | (refine ⟨_, rfl, ?_⟩) | (refine ⟨_, _, rfl, rfl, ?_⟩) | (refine ⟨⟨by decide, by decide⟩, ?_⟩) | (refine ⟨(by show (0 : Int) < _; decide), ?_⟩) | (refine ⟨rfl, ?_⟩) | (refine ⟨(by show _ ≠ (0 : Int); omega), ?_⟩) | (refine ⟨.inl ⟨by decide, by decide⟩, ?_⟩) | (refine ⟨(by assumption : CDivN _ _), ?_⟩) | (refine ite_y (by decide) ?_) | (refine ite_n (by decide) ?_) | (refine ite_y rfl ?_) | (refine ite_n Bool.false_ne_true ?_)))
    refine ⟨qa, ks.map V.int, rfl, .inl (st_of hq), ?_⟩
    (repeat (first | (refine ⟨_, _, _, _, rfl, rfl, st_of hp, rfl, ?_⟩) | (refine ⟨_, rfl, ?_⟩) | (refine ⟨_, _, rfl, rfl, ?_⟩) | (refine ⟨⟨by decide, by decide⟩, ?_⟩) | (refine ⟨(by show (0 : Int) < _; decide), ?_⟩) | (refine ⟨rfl, ?_⟩) | (refine ⟨(by show _ ≠ (0 : Int); omega), ?_⟩) | (refine ⟨.inl ⟨by decide, by decide⟩, ?_⟩) | (refine ⟨(by assumption : CDivN _ _), ?_⟩) | (refine ite_y (by decide) ?_) | (refine ite_n (by decide) ?_) | (refine ite_y rfl ?_) | (refine ite_n Bool.false_ne_true ?_)))
    refine ⟨by show (ks.map V.int ++ [V.int c]).length ≤ sizeLine; rw [List.length_append, List.length_map]; exact sz_of (by have := hok.2; simp only [List.length_cons, List.length_nil]; omega), fun l hl => ?_⟩
    (repeat (first | (refine ⟨_, _, _, _, rfl, rfl, st_of hp, rfl, ?_⟩) | (refine ⟨_, rfl, ?_⟩) | (refine ⟨_, _, rfl, rfl, ?_⟩) | (refine ⟨⟨by decide, by decide⟩, ?_⟩) | (refine ⟨(by show (0 : Int) < _; decide), ?_⟩) | (refine ⟨rfl, ?_⟩) | (refine ⟨(by show _ ≠ (0 : Int); omega), ?_⟩) | (refine ⟨.inl ⟨by decide, by decide⟩, ?_⟩) | (refine ⟨(by assumption : CDivN _ _), ?_⟩) | (refine ite_y (by decide) ?_) | (refine ite_n (by decide) ?_) | (refine ite_y rfl ?_) | (refine ite_n Bool.false_ne_true ?_)))
    have e := XT.of_ex (Ex.new (o := .lst (ks.map V.int ++ [V.int c])) hl)
    refine ⟨y, l, wl, v1, ks ++ [c], ws, rfl, hok.1, e.view v1 y hy, .inl (sq_of (by rw [upd_same, List.map_append]; rfl)), e.lst hwl, hws, e.tab _ hT, fun m hm H1 e1 => ?_, fun hn H1 e1 => Out.no q (e.trans e1) (by show (withW ws v1 (ks ++ [c])).bind _ = none; rw [hn]; rfl)⟩
    (repeat (first | (refine ⟨_, _, _, _, rfl, rfl, st_of hp, rfl, ?_⟩) | (refine ⟨_, rfl, ?_⟩) | (refine ⟨_, _, rfl, rfl, ?_⟩) | (refine ⟨⟨by decide, by decide⟩, ?_⟩) | (refine ⟨(by show (0 : Int) < _; decide), ?_⟩) | (refine ⟨rfl, ?_⟩) | (refine ⟨(by show _ ≠ (0 : Int); omega), ?_⟩) | (refine ⟨.inl ⟨by decide, by decide⟩, ?_⟩) | (refine ⟨(by assumption : CDivN _ _), ?_⟩) | (refine ite_y (by decide) ?_) | (refine ite_n (by decide) ?_) | (refine ite_y rfl ?_) | (refine ite_n Bool.false_ne_true ?_)))
    refine ⟨qa, ks.map V.int, rfl, .inr (st_of ((e.trans e1).tup hq)), ?_⟩
    rw [List.length_map]
    (repeat (first | (refine ⟨_, _, _, _, rfl, rfl, st_of hp, rfl, ?_⟩) | (refine ⟨_, rfl, ?_⟩) | (refine ⟨_, _, rfl, rfl, ?_⟩) | (refine ⟨⟨by decide, by decide⟩, ?_⟩) | (refine ⟨(by show (0 : Int) < _; decide), ?_⟩) | (refine ⟨rfl, ?_⟩) | (refine ⟨(by show _ ≠ (0 : Int); omega), ?_⟩) | (refine ⟨.inl ⟨by decide, by decide⟩, ?_⟩) | (refine ⟨(by assumption : CDivN _ _), ?_⟩) | (refine ite_y (by decide) ?_) | (refine ite_n (by decide) ?_) | (refine ite_y rfl ?_) | (refine ite_n Bool.false_ne_true ?_)))
    exact Out.yes q (e.trans e1) (by show (withW ws v1 (ks ++ [c])).bind _ = _; rw [hm]; rfl)
  | reach v1 =>
    obtain ⟨p, y, rfl, hp, hy⟩ := hv
    refine ⟨_, _, _, rfl, st_of hp, fun h => absurd h.2 (by decide), fun _ => ?_⟩
    refine ⟨_, _, _, rfl, st_of hp, fun h => absurd h.2 (by decide), fun _ => ?_⟩
    refine ⟨_, _, _, rfl, st_of hp, fun h => absurd h.2 (by decide), fun _ => ?_⟩
    refine ⟨_, _, _, rfl, st_of hp, fun h => absurd h.2 (by decide), fun _ => ?_⟩
    refine ⟨_, _, _, rfl, st_of hp, fun h => absurd h.2 (by decide), fun _ => ?_⟩
    refine ⟨_, _, _, rfl, st_of hp, fun h => absurd h.2 (by decide), fun _ => ?_⟩
    refine ⟨_, _, _, rfl, st_of hp, fun h => absurd h.2 (by decide), fun _ => ?_⟩
    refine ⟨_, _, _, rfl, st_of hp, fun _ => ⟨_, _, rfl, rfl, ?_⟩, fun h => absurd ⟨rfl, by decide⟩ h⟩
    (repeat (first | (refine ⟨_, _, _, _, rfl, rfl, st_of hp, rfl, ?_⟩) | (refine ⟨_, rfl, ?_⟩) | (refine ⟨_, _, rfl, rfl, ?_⟩) | (refine ⟨⟨by decide, by decide⟩, ?_⟩) | (refine ⟨(by show (0 : Int) < _; decide), ?_⟩) | (refine ⟨rfl, ?_⟩) | (refine ⟨(by show _ ≠ (0 : Int); omega), ?_⟩) | (refine ⟨.inl ⟨by decide, by decide⟩, ?_⟩) | (refine ⟨(by assumption : CDivN _ _), ?_⟩) | (refine ite_y (by decide) ?_) | (refine ite_n (by decide) ?_) | (refine ite_y rfl ?_) | (refine ite_n Bool.false_ne_true ?_)))
    exact ⟨y, wl, v1, ws, rfl, hok, hy, hwl, hws, hT, q⟩
  | odd o v1 v2 =>
    obtain ⟨p, y, z, rfl, hp, _, _, h4⟩ := hv
    have no : ∀ {k : Str}, k ∈ nine → ¬ decide (o = k) = true := fun hk => not_word h4 hk
    refine ⟨_, _, _, rfl, st_of hp, fun h => absurd h.2 (no (by decide)), fun _ => ?_⟩
    refine ⟨_, _, _, rfl, st_of hp, fun h => absurd h.2 (no (by decide)), fun _ => ?_⟩
    refine ⟨_, _, _, rfl, st_of hp, fun h => absurd h.2 (no (by decide)), fun _ => ?_⟩
    refine ⟨_, _, _, rfl, st_of hp, fun h => absurd h.2 (fun z => (Bool.or_eq_true_iff.mp z).elim (no (by decide)) (no (by decide))), fun _ => ?_⟩
    refine ⟨_, _, _, rfl, st_of hp, fun h => absurd h.2 (no (by decide)), fun _ => ?_⟩
    refine ⟨_, _, _, rfl, st_of hp, fun h => absurd h.2 (no (by decide)), fun _ => ?_⟩
    refine ⟨_, _, _, rfl, st_of hp, fun h => absurd h.2 (no (by decide)), fun _ => ?_⟩
    refine ⟨_, _, _, rfl, st_of hp, fun h => absurd h.2 (no (by decide)), fun _ => ?_⟩
    exact Out.no q (XT.refl H) rfl
/-! ### the width -/
theorem ok_wof1 {f f1 : Addr} {fd fd1 : FuncData} {M N : Nat} (A : FnAt K mg "width_of" swidth_of Pwidth_of f fd) (Atold : FnAt K mg "_told_width" s_told_width P_told_width f1 fd1) (R : Rs K mg C tk)
    (Gtold : FnOk P w K mg base (L2.CX P w) M f1 fd1 P_told_width (spTold C P0 N)) : FnOk P w K mg base (L2.CX P w) (M + 1) f fd Pwidth_of (spWof C P0 (N + 1)) := by
  refine A.F.okX scwidth_of (fun vs H Q E h => ?_) (fun cdv A' outer s H vs Q E hrT h => ?_)
  · obtain ⟨_, _, _, _, rfl, _⟩ := h
    rfl
  obtain ⟨x, wl, v, ws, rfl, hok, hv, hwl, hws, hT, q⟩ := h
  have ew := wide_told hws v
  refine ⟨_, (pss_cons (ps_set (i := 2) scwidth_of.nd rfl (.inl rfl) (pe_callS Gtold hrT rfl Atold.g Atold.F.kp Atold.b (fun σ => passAt (takes_of rfl rfl rfl rfl) σ) (pa_cons (pv 0) (pa_cons (pv 1) pa_nil))))
  (pss_cons (ps_if (pt_cmpR op_gt (pv 2) (pe_glob (v := .int 40) rfl R.wide ⟨_, rfl⟩) (nomark _)) (pss_one (ps_raise rfl (takes_of rfl rfl rfl rfl) (pmk_own PySem.F.excBase_ValueError R.x R.g R.k (raises_own R.b R.t) rfl))) pss_nil)
  (pss_one (ps_ret (pv 2))))), ?_⟩
  (repeat (first | (refine ⟨_, _, _, _, rfl, rfl, st_of hp, rfl, ?_⟩) | (refine ⟨_, rfl, ?_⟩) | (refine ⟨_, _, rfl, rfl, ?_⟩) | (refine ⟨⟨by decide, by decide⟩, ?_⟩) | (refine ⟨(by show (0 : Int) < _; decide), ?_⟩) | (refine ⟨rfl, ?_⟩) | (refine ⟨(by show _ ≠ (0 : Int); omega), ?_⟩) | (refine ⟨.inl ⟨by decide, by decide⟩, ?_⟩) | (refine ⟨(by assumption : CDivN _ _), ?_⟩) | (refine ite_y (by decide) ?_) | (refine ite_n (by decide) ?_) | (refine ite_y rfl ?_) | (refine ite_n Bool.false_ne_true ?_)))
  refine ⟨x, wl, v, ws, rfl, hok, hv, hwl, hws, hT, fun m hm H1 e1 => ?_, fun hn H1 e1 => Out.no q e1 (by rw [ew, hn]; rfl)⟩
  (repeat (first | (refine ⟨_, _, _, _, rfl, rfl, st_of hp, rfl, ?_⟩) | (refine ⟨_, rfl, ?_⟩) | (refine ⟨_, _, rfl, rfl, ?_⟩) | (refine ⟨⟨by decide, by decide⟩, ?_⟩) | (refine ⟨(by show (0 : Int) < _; decide), ?_⟩) | (refine ⟨rfl, ?_⟩) | (refine ⟨(by show _ ≠ (0 : Int); omega), ?_⟩) | (refine ⟨.inl ⟨by decide, by decide⟩, ?_⟩) | (refine ⟨(by assumption : CDivN _ _), ?_⟩) | (refine ite_y (by decide) ?_) | (refine ite_n (by decide) ?_) | (refine ite_y rfl ?_) | (refine ite_n Bool.false_ne_true ?_)))
  refine ite2 (fun hd => ?_) (fun hd => ?_)
  · have : 40 < m := of_decide_eq_true hd
    exact Out.no q e1 (by rw [ew, hm]; exact if_neg (by omega))
  · have : ¬ 40 < m := fun z => hd (decide_eq_true z)
    exact ⟨_, rfl, Out.yes q e1 (by rw [ew, hm]; exact if_pos (by omega))⟩
theorem ok_wof {f f1 f2 f3 f4 f5 f6 f7 f8 f9 : Addr} {fd fd1 fd2 fd3 fd4 fd5 fd6 fd7 fd8 fd9 : FuncData} (A : FnAt K mg "width_of" swidth_of Pwidth_of f fd) (Atold : FnAt K mg "_told_width" s_told_width P_told_width f1 fd1) (Atab : FnAt K mg "_table_width" s_table_width P_table_width f2 fd2) (Awith : FnAt K mg "_width_with" s_width_with P_width_with f3 fd3)
    (Acolw : FnAt K mg "_columns_width" s_columns_width P_columns_width f4 fd4) (Alike : FnAt K mg "_like_width" s_like_width P_like_width f5 fd5) (Ameet : FnAt K mg "_meet_width" s_meet_width P_meet_width f6 fd6) (Areach : FnAt K mg "_reach_width" s_reach_width P_reach_width f7 fd7) (Acheck : FnAt K mg "_check_columns" s_check_columns P_check_columns f8 fd8)
    (Atwo2 : FnAt K mg "_two_widths" s_two_widths P_two_widths f9 fd9) (B : Bt mg) (R : Rs K mg C tk) (Gcheck : FnOk P w K mg base (L2.CX P w) 1 f8 fd8 P_check_columns (spCheck K C P0)) : ∀ N : Nat, N ≤ 40 → FnOk P w K mg base (L2.CX P w) (4 * N + 1) f fd Pwidth_of (spWof C P0 N)
  | 0, _ => by
    refine A.F.okX (k := 0) scwidth_of (fun vs H Q E h => ?_) (fun cdv A' outer s H vs Q E hr h => ?_)
    · obtain ⟨_, _, _, _, _, h, _⟩ := h
      exact h.elim
    · obtain ⟨_, _, _, _, _, h, _⟩ := h
      exact h.elim
  | N + 1, hN => by
    have Gw := ok_wof A Atold Atab Awith Acolw Alike Ameet Areach Acheck Atwo2 B R Gcheck N (by omega)
    have G1 := ok_with (M := 4 * N + 1) Awith A Acheck (by omega) Gw Gcheck R
    have G2 := ok_colw Acolw Awith B G1 R
    have G3 := ok_two2 Atwo2 A (by omega) Gw R
    have G4 := ok_like Alike Atwo2 G3 R
    have G5 := ok_meet Ameet Atwo2 Acheck (by omega) G3 Gcheck R
    have G6 := ok_reach Areach A Gw R
    have G7 := ok_told Atold A Atab Awith Acolw Alike Ameet Areach B R Gw (ok_tab (k := 0) Atab B R) G1 G2 G4 G5 G6
    exact ok_wof1 A Atold R G7
end
end K06

/-! KW: the end where a def of the program (by its name) holds a generator expression. -/
namespace KW
open PySem PySem.Spec PyProof.Rows L2 LamX
theorem tabIn_of {K : PySem.W.Frag} {x : Str} {f c P : Addr} {fd : FuncData} {o1 o2 : Value} {d1 d2 : Option Addr} {s1 s2 : Array (Option Value)} {vs : Array Value} (a : PySem.W.nsIn K mainGlobals x = some (some (.ref f))) (l : K.lookup f = some ⟨o1, d1, .func fd, s1⟩) (hc : fd.code = .ref c)
    (t : K.lookup c = some ⟨o2, d2, .fields vs, s2⟩) (h : vs[11]? = some (.ref P)) : PySem.W.tabIn K x = some (c, P) := by
  unfold PySem.W.tabIn
  rw [a]
  simp only [l, hc, t, h]
theorem walk_ofNm {l : PySem.W.OpenLaw} {n k : Nat} {q : Program} {loose : List Str} {XP : (Str → Option Value) → Heap → Prop} {YP : World → Heap → Prop} {d dR : DefRec} {K : Params → PySem.W.Frag} {CX : World → CXT} {x nm : Str}
    (hn : l.most = some n) (hn2 : n ≤ sizeLine) (hdf : d.params.defaults = []) (hr : Room k callerA) (hrec : (recsOf q).find? (fun e => e.name == nm) = some dR) (hY : ∀ (w : World) (h : Heap), YP w h → (K w.params).In h)
    (F : ∀ (w : World) (mg : Str → Option Value) (fa : Addr) (h : Heap), (K w.params).In h → h.Ns mainGlobals mg → mg d.name = some (.ref fa) → (∀ c P, PySem.W.tabIn (K w.params) nm = some (c, P) → PySem.W.CodeHd h c P ∧ h.get? P = some (PySem.W.tabObj #[])) → LawAtS l w (K w.params) (CX w) k n x mg fa h)
    (hCX : ∀ (w : World) (H : Hp) (s : Shared) (e : Value) (s' : Shared), CX w [] H s (fun _ _ _ => False) e s' → False) :
    PySem.W.WalkO q loose XP YP l.row.toRowW d [] (fun f vs => PySem.call f vs) := by
  refine Att.attach_callB hn hdf ?_
  intro w s0 s1 mg mb fa o pm cd doc a vs ns G Y ho hd hcd hmg hobj hints hlen hbits hg
  have KX := hY w _ Y
  have key := F w mg fa _ KX G.T.g hmg fun c P ht => PySem.W.tab_of G.T KX hrec ht
  obtain ⟨fd, cs, sp, hT, nT, C, hb, hsp, hF⟩ := key
  refine law_callTs KX G.T.g G.T.b G.T.builtins G.T.nolimit hg hT nT C G.T.bmain hobj hints (Nat.le_trans hlen hn2) hr hF hb (fun H hH hS => ?_) fun H e s' => hCX w H s1 e s'
  exact hsp H a ns hlen hbits hH hS
end KW

namespace K06
open PySem PySem.Spec PyProof.Rows L2 Evl KB
theorem kit_no {K : PySem.W.Frag} {C c : Addr} (i : PySem.W.isClsIn K c = true) (t : PySem.W.typeIn K (.ref c) = some (.type "type")) (s : PySem.W.subIn K (.ref C) (.ref c) = some false) (n : (Value.ref C == Value.ref c) = false) : PySem.W.kitOne K (.ref C) (.ref c) = some false := by
  unfold PySem.W.kitOne
  rw [n, if_neg Bool.false_ne_true]
  have i2 : (PySem.W.clsIn K c).isSome = true := i
  show (if ((PySem.W.clsIn K c).isSome && PySem.W.typeIn K (.ref c) == some (.type "type")) = true then PySem.W.subIn K (.ref C) (.ref c) else none) = some false
  rw [i2, t]
  exact s
theorem all_mk {l : PySem.W.OpenLaw} {w : World} {K : PySem.W.Frag} {h : Heap} {mg : Str → Option Value} {fa : Addr} (X : K.In h) (G : h.Ns mainGlobals mg) (hfa : mg "law" = some (.ref fa)) (TT : ∀ c P, PySem.W.tabIn K "_check_columns" = some (c, P) → PySem.W.CodeHd h c P ∧ h.get? P = some (PySem.W.tabObj #[]))
    {q0 q1 q2 q3 q4 q5 q6 q7 q8 q9 q10 q11 q12 q13 q14 q15 q16 q17 q18 q19 q20 q21 q22 q23 q24 q25 C cRow cFull cLack cTab cNoView cErr cA P0 : Addr} {tk : Tok} {odA od0 an0 od1 an1 od2 an2 od3 an3 od4 an4 od5 an5 od6 an6 od7 an7 od8 an8 od9 an9 od10 an10 od11 an11 od12 an12 od13 an13 od14 an14 od15 an15 od16 an16 od17 an17 od18 an18 od19 an19 od20 an20 od21 an21 od22 an22 od23 an23 od24 an24 od25 an25 : Option Addr} {slA sl0 sl1 sl2 sl3 sl4 sl5 sl6 sl7 sl8 sl9 sl10 sl11 sl12 sl13 sl14 sl15 sl16 sl17 sl18 sl19 sl20 sl21 sl22 sl23 sl24 sl25 : Array (Option Value)} {ocA oc0 kV0 dc0 pm0 cd0 ct0 oc1 kV1 dc1 pm1 cd1 ct1 oc2 kV2 dc2 pm2 cd2 ct2 oc3 kV3 dc3 pm3 cd3 ct3 oc4 kV4 dc4 pm4 cd4 ct4 oc5 kV5 dc5 pm5 cd5 ct5 oc6 kV6 dc6 pm6 cd6 ct6 oc7 kV7 dc7 pm7 cd7 ct7 oc8 kV8 dc8 pm8 cd8 ct8 oc9 kV9 dc9 pm9 cd9 ct9 oc10 kV10 dc10 pm10 cd10 ct10 oc11 kV11 dc11 pm11 cd11 ct11 oc12 kV12 dc12 pm12 cd12 ct12 oc13 kV13 dc13 pm13 cd13 ct13 oc14 kV14 dc14 pm14 cd14 ct14 oc15 kV15 dc15 pm15 cd15 ct15 oc16 kV16 dc16 pm16 cd16 ct16 oc17 kV17 dc17 pm17 cd17 ct17 oc18 kV18 dc18 pm18 cd18 ct18 oc19 kV19 dc19 pm19 cd19 ct19 oc20 kV20 dc20 pm20 cd20 ct20 oc21 kV21 dc21 pm21 cd21 ct21 oc22 kV22 dc22 pm22 cd22 ct22 oc23 kV23 dc23 pm23 cd23 ct23 oc24 kV24 dc24 pm24 ct24 oc25 kV25 dc25 pm25 cd25 ct25 : Value} {vsA : Array Value}
    (a0 : PySem.W.nsIn K mainGlobals "law" = some (some (.ref q0)))
    (l0 : K.lookup q0 = some ⟨oc0, od0, .func (PySem.W.fnOf "law" "law" (defArgs sL) (defBody sL) (defScope sL) .none kV0 dc0 pm0 an0 cd0 ct0), sl0⟩)
    (c0 : PySem.W.codeIn K cd0 "law" = true)
    (k0 : PySem.W.keepIn K (.ref q0) = true)
    (a1 : PySem.W.nsIn K mainGlobals "_law_at" = some (some (.ref q1)))
    (l1 : K.lookup q1 = some ⟨oc1, od1, .func (PySem.W.fnOf "_law_at" "_law_at" (defArgs sL_at) (defBody sL_at) (defScope sL_at) .none kV1 dc1 pm1 an1 cd1 ct1), sl1⟩)
    (c1 : PySem.W.codeIn K cd1 "_law_at" = true)
    (k1 : PySem.W.keepIn K (.ref q1) = true)
    (a2 : PySem.W.nsIn K mainGlobals "_law_some" = some (some (.ref q2)))
    (l2 : K.lookup q2 = some ⟨oc2, od2, .func (PySem.W.fnOf "_law_some" "_law_some" (defArgs sL_some) (defBody sL_some) (defScope sL_some) .none kV2 dc2 pm2 an2 cd2 ct2), sl2⟩)
    (c2 : PySem.W.codeIn K cd2 "_law_some" = true)
    (k2 : PySem.W.keepIn K (.ref q2) = true)
    (a3 : PySem.W.nsIn K mainGlobals "_law_there" = some (some (.ref q3)))
    (l3 : K.lookup q3 = some ⟨oc3, od3, .func (PySem.W.fnOf "_law_there" "_law_there" (defArgs sL_there) (defBody sL_there) (defScope sL_there) .none kV3 dc3 pm3 an3 cd3 ct3), sl3⟩)
    (c3 : PySem.W.codeIn K cd3 "_law_there" = true)
    (k3 : PySem.W.keepIn K (.ref q3) = true)
    (a4 : PySem.W.nsIn K mainGlobals "_law_many" = some (some (.ref q4)))
    (l4 : K.lookup q4 = some ⟨oc4, od4, .func (PySem.W.fnOf "_law_many" "_law_many" (defArgs sL_many) (defBody sL_many) (defScope sL_many) .none kV4 dc4 pm4 an4 cd4 ct4), sl4⟩)
    (c4 : PySem.W.codeIn K cd4 "_law_many" = true)
    (k4 : PySem.W.keepIn K (.ref q4) = true)
    (a5 : PySem.W.nsIn K mainGlobals "_law_over_one" = some (some (.ref q5)))
    (l5 : K.lookup q5 = some ⟨oc5, od5, .func (PySem.W.fnOf "_law_over_one" "_law_over_one" (defArgs sL_over_one) (defBody sL_over_one) (defScope sL_over_one) .none kV5 dc5 pm5 an5 cd5 ct5), sl5⟩)
    (c5 : PySem.W.codeIn K cd5 "_law_over_one" = true)
    (k5 : PySem.W.keepIn K (.ref q5) = true)
    (a6 : PySem.W.nsIn K mainGlobals "_law_over_two" = some (some (.ref q6)))
    (l6 : K.lookup q6 = some ⟨oc6, od6, .func (PySem.W.fnOf "_law_over_two" "_law_over_two" (defArgs sL_over_two) (defBody sL_over_two) (defScope sL_over_two) .none kV6 dc6 pm6 an6 cd6 ct6), sl6⟩)
    (c6 : PySem.W.codeIn K cd6 "_law_over_two" = true)
    (k6 : PySem.W.keepIn K (.ref q6) = true)
    (a7 : PySem.W.nsIn K mainGlobals "_law_view" = some (some (.ref q7)))
    (l7 : K.lookup q7 = some ⟨oc7, od7, .func (PySem.W.fnOf "_law_view" "_law_view" (defArgs sL_view) (defBody sL_view) (defScope sL_view) .none kV7 dc7 pm7 an7 cd7 ct7), sl7⟩)
    (c7 : PySem.W.codeIn K cd7 "_law_view" = true)
    (k7 : PySem.W.keepIn K (.ref q7) = true)
    (a8 : PySem.W.nsIn K mainGlobals "_law_widths" = some (some (.ref q8)))
    (l8 : K.lookup q8 = some ⟨oc8, od8, .func (PySem.W.fnOf "_law_widths" "_law_widths" (defArgs sL_widths) (defBody sL_widths) (defScope sL_widths) .none kV8 dc8 pm8 an8 cd8 ct8), sl8⟩)
    (c8 : PySem.W.codeIn K cd8 "_law_widths" = true)
    (k8 : PySem.W.keepIn K (.ref q8) = true)
    (a9 : PySem.W.nsIn K mainGlobals "_law_wide_one" = some (some (.ref q9)))
    (l9 : K.lookup q9 = some ⟨oc9, od9, .func (PySem.W.fnOf "_law_wide_one" "_law_wide_one" (defArgs sL_wide_one) (defBody sL_wide_one) (defScope sL_wide_one) .none kV9 dc9 pm9 an9 cd9 ct9), sl9⟩)
    (c9 : PySem.W.codeIn K cd9 "_law_wide_one" = true)
    (k9 : PySem.W.keepIn K (.ref q9) = true)
    (a10 : PySem.W.nsIn K mainGlobals "_law_wide" = some (some (.ref q10)))
    (l10 : K.lookup q10 = some ⟨oc10, od10, .func (PySem.W.fnOf "_law_wide" "_law_wide" (defArgs sL_wide) (defBody sL_wide) (defScope sL_wide) .none kV10 dc10 pm10 an10 cd10 ct10), sl10⟩)
    (c10 : PySem.W.codeIn K cd10 "_law_wide" = true)
    (k10 : PySem.W.keepIn K (.ref q10) = true)
    (a11 : PySem.W.nsIn K mainGlobals "_law_odd" = some (some (.ref q11)))
    (l11 : K.lookup q11 = some ⟨oc11, od11, .func (PySem.W.fnOf "_law_odd" "_law_odd" (defArgs sL_odd) (defBody sL_odd) (defScope sL_odd) .none kV11 dc11 pm11 an11 cd11 ct11), sl11⟩)
    (c11 : PySem.W.codeIn K cd11 "_law_odd" = true)
    (k11 : PySem.W.keepIn K (.ref q11) = true)
    (a12 : PySem.W.nsIn K mainGlobals "_law_wrapped" = some (some (.ref q12)))
    (l12 : K.lookup q12 = some ⟨oc12, od12, .func (PySem.W.fnOf "_law_wrapped" "_law_wrapped" (defArgs sL_wrapped) (defBody sL_wrapped) (defScope sL_wrapped) .none kV12 dc12 pm12 an12 cd12 ct12), sl12⟩)
    (c12 : PySem.W.codeIn K cd12 "_law_wrapped" = true)
    (k12 : PySem.W.keepIn K (.ref q12) = true)
    (a13 : PySem.W.nsIn K mainGlobals "_law_whole" = some (some (.ref q13)))
    (l13 : K.lookup q13 = some ⟨oc13, od13, .func (PySem.W.fnOf "_law_whole" "_law_whole" (defArgs sL_whole) (defBody sL_whole) (defScope sL_whole) .none kV13 dc13 pm13 an13 cd13 ct13), sl13⟩)
    (c13 : PySem.W.codeIn K cd13 "_law_whole" = true)
    (k13 : PySem.W.keepIn K (.ref q13) = true)
    (a14 : PySem.W.nsIn K mainGlobals "_law_said" = some (some (.ref q14)))
    (l14 : K.lookup q14 = some ⟨oc14, od14, .func (PySem.W.fnOf "_law_said" "_law_said" (defArgs sL_said) (defBody sL_said) (defScope sL_said) .none kV14 dc14 pm14 an14 cd14 ct14), sl14⟩)
    (c14 : PySem.W.codeIn K cd14 "_law_said" = true)
    (k14 : PySem.W.keepIn K (.ref q14) = true)
    (a15 : PySem.W.nsIn K mainGlobals "_law_alone" = some (some (.ref q15)))
    (l15 : K.lookup q15 = some ⟨oc15, od15, .func (PySem.W.fnOf "_law_alone" "_law_alone" (defArgs sL_alone) (defBody sL_alone) (defScope sL_alone) .none kV15 dc15 pm15 an15 cd15 ct15), sl15⟩)
    (c15 : PySem.W.codeIn K cd15 "_law_alone" = true)
    (k15 : PySem.W.keepIn K (.ref q15) = true)
    (a16 : PySem.W.nsIn K mainGlobals "width_of" = some (some (.ref q16)))
    (l16 : K.lookup q16 = some ⟨oc16, od16, .func (PySem.W.fnOf "width_of" "width_of" (defArgs swidth_of) (defBody swidth_of) (defScope swidth_of) .none kV16 dc16 pm16 an16 cd16 ct16), sl16⟩)
    (c16 : PySem.W.codeIn K cd16 "width_of" = true)
    (k16 : PySem.W.keepIn K (.ref q16) = true)
    (a17 : PySem.W.nsIn K mainGlobals "_told_width" = some (some (.ref q17)))
    (l17 : K.lookup q17 = some ⟨oc17, od17, .func (PySem.W.fnOf "_told_width" "_told_width" (defArgs s_told_width) (defBody s_told_width) (defScope s_told_width) .none kV17 dc17 pm17 an17 cd17 ct17), sl17⟩)
    (c17 : PySem.W.codeIn K cd17 "_told_width" = true)
    (k17 : PySem.W.keepIn K (.ref q17) = true)
    (a18 : PySem.W.nsIn K mainGlobals "_table_width" = some (some (.ref q18)))
    (l18 : K.lookup q18 = some ⟨oc18, od18, .func (PySem.W.fnOf "_table_width" "_table_width" (defArgs s_table_width) (defBody s_table_width) (defScope s_table_width) .none kV18 dc18 pm18 an18 cd18 ct18), sl18⟩)
    (c18 : PySem.W.codeIn K cd18 "_table_width" = true)
    (k18 : PySem.W.keepIn K (.ref q18) = true)
    (a19 : PySem.W.nsIn K mainGlobals "_width_with" = some (some (.ref q19)))
    (l19 : K.lookup q19 = some ⟨oc19, od19, .func (PySem.W.fnOf "_width_with" "_width_with" (defArgs s_width_with) (defBody s_width_with) (defScope s_width_with) .none kV19 dc19 pm19 an19 cd19 ct19), sl19⟩)
    (c19 : PySem.W.codeIn K cd19 "_width_with" = true)
    (k19 : PySem.W.keepIn K (.ref q19) = true)
    (a20 : PySem.W.nsIn K mainGlobals "_columns_width" = some (some (.ref q20)))
    (l20 : K.lookup q20 = some ⟨oc20, od20, .func (PySem.W.fnOf "_columns_width" "_columns_width" (defArgs s_columns_width) (defBody s_columns_width) (defScope s_columns_width) .none kV20 dc20 pm20 an20 cd20 ct20), sl20⟩)
    (c20 : PySem.W.codeIn K cd20 "_columns_width" = true)
    (k20 : PySem.W.keepIn K (.ref q20) = true)
    (a21 : PySem.W.nsIn K mainGlobals "_like_width" = some (some (.ref q21)))
    (l21 : K.lookup q21 = some ⟨oc21, od21, .func (PySem.W.fnOf "_like_width" "_like_width" (defArgs s_like_width) (defBody s_like_width) (defScope s_like_width) .none kV21 dc21 pm21 an21 cd21 ct21), sl21⟩)
    (c21 : PySem.W.codeIn K cd21 "_like_width" = true)
    (k21 : PySem.W.keepIn K (.ref q21) = true)
    (a22 : PySem.W.nsIn K mainGlobals "_meet_width" = some (some (.ref q22)))
    (l22 : K.lookup q22 = some ⟨oc22, od22, .func (PySem.W.fnOf "_meet_width" "_meet_width" (defArgs s_meet_width) (defBody s_meet_width) (defScope s_meet_width) .none kV22 dc22 pm22 an22 cd22 ct22), sl22⟩)
    (c22 : PySem.W.codeIn K cd22 "_meet_width" = true)
    (k22 : PySem.W.keepIn K (.ref q22) = true)
    (a23 : PySem.W.nsIn K mainGlobals "_reach_width" = some (some (.ref q23)))
    (l23 : K.lookup q23 = some ⟨oc23, od23, .func (PySem.W.fnOf "_reach_width" "_reach_width" (defArgs s_reach_width) (defBody s_reach_width) (defScope s_reach_width) .none kV23 dc23 pm23 an23 cd23 ct23), sl23⟩)
    (c23 : PySem.W.codeIn K cd23 "_reach_width" = true)
    (k23 : PySem.W.keepIn K (.ref q23) = true)
    (a24 : PySem.W.nsIn K mainGlobals "_check_columns" = some (some (.ref q24)))
    (l24 : K.lookup q24 = some ⟨oc24, od24, .func (PySem.W.fnOf "_check_columns" "_check_columns" (defArgs s_check_columns) (defBody s_check_columns) (defScope s_check_columns) .none kV24 dc24 pm24 an24 (.ref cA) ct24), sl24⟩)
    (c24 : PySem.W.codeIn K (.ref cA) "_check_columns" = true)
    (k24 : PySem.W.keepIn K (.ref q24) = true)
    (a25 : PySem.W.nsIn K mainGlobals "_two_widths" = some (some (.ref q25)))
    (l25 : K.lookup q25 = some ⟨oc25, od25, .func (PySem.W.fnOf "_two_widths" "_two_widths" (defArgs s_two_widths) (defBody s_two_widths) (defScope s_two_widths) .none kV25 dc25 pm25 an25 cd25 ct25), sl25⟩)
    (c25 : PySem.W.codeIn K cd25 "_two_widths" = true)
    (k25 : PySem.W.keepIn K (.ref q25) = true)
    (tA : K.lookup cA = some ⟨ocA, odA, .fields vsA, slA⟩)
    (tP : vsA[11]? = some (.ref P0))
    (tN : K.lookup P0 = none)
    (aWIDEST : PySem.W.nsIn K mainGlobals "WIDEST" = some (some (.int 40 tk)))
    (aC : PySem.W.nsIn K mainGlobals "BadView" = some (some (.ref C)))
    (acRow : PySem.W.nsIn K mainGlobals "BadRow" = some (some (.ref cRow)))
    (acFull : PySem.W.nsIn K mainGlobals "Full" = some (some (.ref cFull)))
    (acLack : PySem.W.nsIn K mainGlobals "Lacking" = some (some (.ref cLack)))
    (acTab : PySem.W.nsIn K mainGlobals "NoTable" = some (some (.ref cTab)))
    (acNoView : PySem.W.nsIn K mainGlobals "NoView" = some (some (.ref cNoView)))
    (acErr : PySem.W.nsIn K mainGlobals "ChangeError" = some (some (.ref cErr)))
    (zlen : PySem.W.nsIn K mainGlobals "len" = some none)
    (zrange : PySem.W.nsIn K mainGlobals "range" = some none)
    (ztuple : PySem.W.nsIn K mainGlobals "tuple" = some none)
    (zlist : PySem.W.nsIn K mainGlobals "list" = some none)
    (zint : PySem.W.nsIn K mainGlobals "int" = some none)
    (zbool : PySem.W.nsIn K mainGlobals "bool" = some none)
    (zisinstance : PySem.W.nsIn K mainGlobals "isinstance" = some none)
    (zmin : PySem.W.nsIn K mainGlobals "min" = some none)
    (zreversed : PySem.W.nsIn K mainGlobals "reversed" = some none)
    (zValueError : PySem.W.nsIn K mainGlobals "ValueError" = some none)
    (zany : PySem.W.nsIn K mainGlobals "any" = some none)
    (hg : PySem.W.findIn K (.ref C) "__getattribute__" = some (some (.builtin "BaseException.__getattribute__")))
    (hk : PySem.W.findIn K (.ref C) "__getattr__" = some none)
    (hs : PySem.W.subIn K (.ref C) (.type "BaseException") = some true)
    (hd : PySem.W.hasDictIn K C = true)
    (ha : PySem.W.findIn K (.ref C) "__class__" = some (some (.builtin "object.__class__")))
    (hn : PySem.W.specialIn K (.builtin "object.__class__") "__get__" = some (some (.builtin "getset_descriptor.__get__")))
    (ht : PySem.W.takesIn K (.builtin "object.__class__") = some true)
    (hm : PySem.W.mroIn K C (.type "object") = some true)
    (icRow : PySem.W.isClsIn K cRow = true)
    (tcRow : PySem.W.typeIn K (.ref cRow) = some (.type "type"))
    (scRow : PySem.W.subIn K (.ref C) (.ref cRow) = some false)
    (ncRow : (Value.ref C == Value.ref cRow) = false)
    (icFull : PySem.W.isClsIn K cFull = true)
    (tcFull : PySem.W.typeIn K (.ref cFull) = some (.type "type"))
    (scFull : PySem.W.subIn K (.ref C) (.ref cFull) = some false)
    (ncFull : (Value.ref C == Value.ref cFull) = false)
    (icLack : PySem.W.isClsIn K cLack = true)
    (tcLack : PySem.W.typeIn K (.ref cLack) = some (.type "type"))
    (scLack : PySem.W.subIn K (.ref C) (.ref cLack) = some false)
    (ncLack : (Value.ref C == Value.ref cLack) = false)
    (icTab : PySem.W.isClsIn K cTab = true)
    (tcTab : PySem.W.typeIn K (.ref cTab) = some (.type "type"))
    (scTab : PySem.W.subIn K (.ref C) (.ref cTab) = some false)
    (ncTab : (Value.ref C == Value.ref cTab) = false)
    (icNoView : PySem.W.isClsIn K cNoView = true)
    (tcNoView : PySem.W.typeIn K (.ref cNoView) = some (.type "type"))
    (scNoView : PySem.W.subIn K (.ref C) (.ref cNoView) = some false)
    (ncNoView : (Value.ref C == Value.ref cNoView) = false)
    (sVE : PySem.W.subIn K (.ref C) (.type "ValueError") = some true)
    (eE : PySem.W.subIn K (.ref cErr) (.type "BaseException") = some true)
    (dE : PySem.W.hasDictIn K cErr = true)
    (tE : PySem.W.typeIn K (.ref cErr) = some (.type "type"))
    (sE : PySem.W.subIn K (.ref C) (.ref cErr) = some true)
    (xC : PySem.W.excIn K C [.type "ValueError", .type "Exception", .type "BaseException", .type "object"] "ValueError.__new__" = true)
    (kC : PySem.W.keepIn K (.ref C) = true)
    (tC : PySem.W.typeIn K (.ref C) = some (.type "type")) :
    LamX.LawAtS l w K CX0 90 63 "_law_script" mg fa h := by
  have e := hfa.symm.trans (PySem.W.mg_of X G a0)
  cases e
  have F0 := fun_mk (st := sL) l0 c0 k0
  have b0 := F0.binds (ps := PL) fun _ _ _ _ _ _ us hl => match us, hl with | [_], _ => rfl
  have A0 : FnAt K mg "law" sL PL fa _ := ⟨PySem.W.mg_of X G a0, F0, b0⟩
  have F1 := fun_mk (st := sL_at) l1 c1 k1
  have b1 := F1.binds (ps := PL_at) fun _ _ _ _ _ _ us hl => match us, hl with | [_, _], _ => rfl
  have A1 : FnAt K mg "_law_at" sL_at PL_at q1 _ := ⟨PySem.W.mg_of X G a1, F1, b1⟩
  have F2 := fun_mk (st := sL_some) l2 c2 k2
  have b2 := F2.binds (ps := PL_some) fun _ _ _ _ _ _ us hl => match us, hl with | [_, _, _], _ => rfl
  have A2 : FnAt K mg "_law_some" sL_some PL_some q2 _ := ⟨PySem.W.mg_of X G a2, F2, b2⟩
  have F3 := fun_mk (st := sL_there) l3 c3 k3
  have b3 := F3.binds (ps := PL_there) fun _ _ _ _ _ _ us hl => match us, hl with | [_, _], _ => rfl
  have A3 : FnAt K mg "_law_there" sL_there PL_there q3 _ := ⟨PySem.W.mg_of X G a3, F3, b3⟩
  have F4 := fun_mk (st := sL_many) l4 c4 k4
  have b4 := F4.binds (ps := PL_many) fun _ _ _ _ _ _ us hl => match us, hl with | [_, _], _ => rfl
  have A4 : FnAt K mg "_law_many" sL_many PL_many q4 _ := ⟨PySem.W.mg_of X G a4, F4, b4⟩
  have F5 := fun_mk (st := sL_over_one) l5 c5 k5
  have b5 := F5.binds (ps := PL_over_one) fun _ _ _ _ _ _ us hl => match us, hl with | [_, _, _, _], _ => rfl
  have A5 : FnAt K mg "_law_over_one" sL_over_one PL_over_one q5 _ := ⟨PySem.W.mg_of X G a5, F5, b5⟩
  have F6 := fun_mk (st := sL_over_two) l6 c6 k6
  have b6 := F6.binds (ps := PL_over_two) fun _ _ _ _ _ _ us hl => match us, hl with | [_, _, _, _, _, _], _ => rfl
  have A6 : FnAt K mg "_law_over_two" sL_over_two PL_over_two q6 _ := ⟨PySem.W.mg_of X G a6, F6, b6⟩
  have F7 := fun_mk (st := sL_view) l7 c7 k7
  have b7 := F7.binds (ps := PL_view) fun _ _ _ _ _ _ us hl => match us, hl with | [_, _, _, _, _], _ => rfl
  have A7 : FnAt K mg "_law_view" sL_view PL_view q7 _ := ⟨PySem.W.mg_of X G a7, F7, b7⟩
  have F8 := fun_mk (st := sL_widths) l8 c8 k8
  have b8 := F8.binds (ps := PL_widths) fun _ _ _ _ _ _ us hl => match us, hl with | [_], _ => rfl
  have A8 : FnAt K mg "_law_widths" sL_widths PL_widths q8 _ := ⟨PySem.W.mg_of X G a8, F8, b8⟩
  have F9 := fun_mk (st := sL_wide_one) l9 c9 k9
  have b9 := F9.binds (ps := PL_wide_one) fun _ _ _ _ _ _ us hl => match us, hl with | [_, _], _ => rfl
  have A9 : FnAt K mg "_law_wide_one" sL_wide_one PL_wide_one q9 _ := ⟨PySem.W.mg_of X G a9, F9, b9⟩
  have F10 := fun_mk (st := sL_wide) l10 c10 k10
  have b10 := F10.binds (ps := PL_wide) fun _ _ _ _ _ _ us hl => match us, hl with | [_, _], _ => rfl
  have A10 : FnAt K mg "_law_wide" sL_wide PL_wide q10 _ := ⟨PySem.W.mg_of X G a10, F10, b10⟩
  have F11 := fun_mk (st := sL_odd) l11 c11 k11
  have b11 := F11.binds (ps := PL_odd) fun _ _ _ _ _ _ us hl => match us, hl with | [_, _], _ => rfl
  have A11 : FnAt K mg "_law_odd" sL_odd PL_odd q11 _ := ⟨PySem.W.mg_of X G a11, F11, b11⟩
  have F12 := fun_mk (st := sL_wrapped) l12 c12 k12
  have b12 := F12.binds (ps := PL_wrapped) fun _ _ _ _ _ _ us hl => match us, hl with | [_, _, _], _ => rfl
  have A12 : FnAt K mg "_law_wrapped" sL_wrapped PL_wrapped q12 _ := ⟨PySem.W.mg_of X G a12, F12, b12⟩
  have F13 := fun_mk (st := sL_whole) l13 c13 k13
  have b13 := F13.binds (ps := PL_whole) fun _ _ _ _ _ _ us hl => match us, hl with | [_], _ => rfl
  have A13 : FnAt K mg "_law_whole" sL_whole PL_whole q13 _ := ⟨PySem.W.mg_of X G a13, F13, b13⟩
  have F14 := fun_mk (st := sL_said) l14 c14 k14
  have b14 := F14.binds (ps := PL_said) fun _ _ _ _ _ _ us hl => match us, hl with | [_, _], _ => rfl
  have A14 : FnAt K mg "_law_said" sL_said PL_said q14 _ := ⟨PySem.W.mg_of X G a14, F14, b14⟩
  have F15 := fun_mk (st := sL_alone) l15 c15 k15
  have b15 := F15.binds (ps := PL_alone) fun _ _ _ _ _ _ us hl => match us, hl with | [_], _ => rfl
  have A15 : FnAt K mg "_law_alone" sL_alone PL_alone q15 _ := ⟨PySem.W.mg_of X G a15, F15, b15⟩
  have F16 := fun_mk (st := swidth_of) l16 c16 k16
  have b16 := F16.binds (ps := Pwidth_of) fun _ _ _ _ _ _ us hl => match us, hl with | [_, _], _ => rfl
  have A16 : FnAt K mg "width_of" swidth_of Pwidth_of q16 _ := ⟨PySem.W.mg_of X G a16, F16, b16⟩
  have F17 := fun_mk (st := s_told_width) l17 c17 k17
  have b17 := F17.binds (ps := P_told_width) fun _ _ _ _ _ _ us hl => match us, hl with | [_, _], _ => rfl
  have A17 : FnAt K mg "_told_width" s_told_width P_told_width q17 _ := ⟨PySem.W.mg_of X G a17, F17, b17⟩
  have F18 := fun_mk (st := s_table_width) l18 c18 k18
  have b18 := F18.binds (ps := P_table_width) fun _ _ _ _ _ _ us hl => match us, hl with | [_, _], _ => rfl
  have A18 : FnAt K mg "_table_width" s_table_width P_table_width q18 _ := ⟨PySem.W.mg_of X G a18, F18, b18⟩
  have F19 := fun_mk (st := s_width_with) l19 c19 k19
  have b19 := F19.binds (ps := P_width_with) fun _ _ _ _ _ _ us hl => match us, hl with | [_, _, _], _ => rfl
  have A19 : FnAt K mg "_width_with" s_width_with P_width_with q19 _ := ⟨PySem.W.mg_of X G a19, F19, b19⟩
  have F20 := fun_mk (st := s_columns_width) l20 c20 k20
  have b20 := F20.binds (ps := P_columns_width) fun _ _ _ _ _ _ us hl => match us, hl with | [_, _, _], _ => rfl
  have A20 : FnAt K mg "_columns_width" s_columns_width P_columns_width q20 _ := ⟨PySem.W.mg_of X G a20, F20, b20⟩
  have F21 := fun_mk (st := s_like_width) l21 c21 k21
  have b21 := F21.binds (ps := P_like_width) fun _ _ _ _ _ _ us hl => match us, hl with | [_, _, _], _ => rfl
  have A21 : FnAt K mg "_like_width" s_like_width P_like_width q21 _ := ⟨PySem.W.mg_of X G a21, F21, b21⟩
  have F22 := fun_mk (st := s_meet_width) l22 c22 k22
  have b22 := F22.binds (ps := P_meet_width) fun _ _ _ _ _ _ us hl => match us, hl with | [_, _, _, _], _ => rfl
  have A22 : FnAt K mg "_meet_width" s_meet_width P_meet_width q22 _ := ⟨PySem.W.mg_of X G a22, F22, b22⟩
  have F23 := fun_mk (st := s_reach_width) l23 c23 k23
  have b23 := F23.binds (ps := P_reach_width) fun _ _ _ _ _ _ us hl => match us, hl with | [_, _], _ => rfl
  have A23 : FnAt K mg "_reach_width" s_reach_width P_reach_width q23 _ := ⟨PySem.W.mg_of X G a23, F23, b23⟩
  have F24 := fun_mk (st := s_check_columns) l24 c24 k24
  have b24 := F24.binds (ps := P_check_columns) fun _ _ _ _ _ _ us hl => match us, hl with | [_, _], _ => rfl
  have A24 : FnAt K mg "_check_columns" s_check_columns P_check_columns q24 _ := ⟨PySem.W.mg_of X G a24, F24, b24⟩
  have F25 := fun_mk (st := s_two_widths) l25 c25 k25
  have b25 := F25.binds (ps := P_two_widths) fun _ _ _ _ _ _ us hl => match us, hl with | [_, _, _], _ => rfl
  have A25 : FnAt K mg "_two_widths" s_two_widths P_two_widths q25 _ := ⟨PySem.W.mg_of X G a25, F25, b25⟩
  have B : Bt mg := ⟨PySem.W.mg_none_of X G zlen, PySem.W.mg_none_of X G zrange, PySem.W.mg_none_of X G ztuple, PySem.W.mg_none_of X G zlist, PySem.W.mg_none_of X G zint, PySem.W.mg_none_of X G zbool, PySem.W.mg_none_of X G zisinstance, PySem.W.mg_none_of X G zmin, PySem.W.mg_none_of X G zreversed⟩
  obtain ⟨hCd, hPt⟩ := TT cA P0 (KW.tabIn_of a24 l24 rfl tA tP)
  have hE : ExcC K C := ⟨hg, hk, hs, hd, ha, hn, ht, hm⟩
  have W : Errs K mg C cRow cFull cLack cTab cNoView := ⟨PySem.W.mg_of X G aC, PySem.W.mg_of X G acRow, PySem.W.mg_of X G acFull, PySem.W.mg_of X G acLack, PySem.W.mg_of X G acTab, PySem.W.mg_of X G acNoView, PySem.W.mg_none_of X G zValueError, hE, if_pos (beq_self_eq_true _), kit_no icRow tcRow scRow ncRow, kit_no icFull tcFull scFull ncFull, kit_no icLack tcLack scLack ncLack, kit_no icTab tcTab scTab ncTab, kit_no icNoView tcNoView scNoView ncNoView, sVE⟩
  have R : Rs K mg C tk := ⟨PySem.W.mg_of X G aC, xC, kC, hs, tC, PySem.W.mg_none_of X G zany, PySem.W.mg_of X G aWIDEST⟩
  have GW := fun (base : Heap) (TB : LamX.TabB base mg cA P0) => (ok_wof (P := l.prog) (w := w) (base := base) A16 A17 A18 A19 A20 A21 A22 A23 A24 A25 B R (ok_check (k := 0) l24 c24 ⟨TB.code, TB.bm, TB.gP⟩ R) 20 (by omega)).imp (sp' := spWidthOf C P0) fun vs H Q E ⟨x, wl, v, ws, n, e, hn, hT, hok, hv, hwl, hws, q1, q2⟩ => ⟨x, wl, v, ws, e, hok.le hn, hv, hwl, hws, hT, q1, q2⟩
  refine ⟨_, [(cA, P0)], spLaw K P0, fun p hp => ?_, fun p hp => ?_, fun p hp => ?_, fun s v => .of_eq rfl, fun H a ns _ _ hH hS => ⟨a, ns, rfl, ⟨#[], hH _ List.mem_cons_self, trivial⟩, hS, fun _ => rfl⟩, fun base _ _ hTB => ok_law (kW := 79) A0 A1 A2 A3 A4 A5 A6 A7 A8 A9 A10 A11 A12 A13 A14 A15 B W A16.g A16.F.kp A16.b (GW base (hTB _ List.mem_cons_self)) (PySem.W.mg_of X G acErr) (PySem.W.exm_ref eE dE tE sE) (by omega)⟩
  · rw [List.mem_singleton.mp hp]; exact hPt
  · rw [List.mem_singleton.mp hp]; exact tN
  · rw [List.mem_singleton.mp hp]; exact hCd
end K06
open PySem PySem.W PyProof.Rows
set_option maxHeartbeats 0 in
theorem PySem.Challenge.cw_changeview_k06_widths_told_holds : PySem.Challenge.rw_changeview_k06_widths_told.Holds := by
  w_on; o_law; k_head; (case hw => w_witness2)
  k_fill
  refine KW.walk_ofNm (l := PySem.Challenge.rw_changeview_k06_widths_told) (n := 63) (k := 90) (x := "_law_script") (nm := "_check_columns") (CX := fun _ => L2.CX0) rfl (by decide) rfl ⟨rfl, by decide, by decide⟩ rfl (fun w h Y => PySem.W.kIn_of Y) ?F (fun _ _ _ _ _ h => h)
  case F =>
    intro w mg fa h KX G hmg TT
    refine' K06.all_mk KX G hmg TT ?a0 ?l0 ?c0 ?k0 ?a1 ?l1 ?c1 ?k1 ?a2 ?l2 ?c2 ?k2 ?a3 ?l3 ?c3 ?k3 ?a4 ?l4 ?c4 ?k4 ?a5 ?l5 ?c5 ?k5 ?a6 ?l6 ?c6 ?k6 ?a7 ?l7 ?c7 ?k7 ?a8 ?l8 ?c8 ?k8 ?a9 ?l9 ?c9 ?k9 ?a10 ?l10 ?c10 ?k10 ?a11 ?l11 ?c11 ?k11 ?a12 ?l12 ?c12 ?k12 ?a13 ?l13 ?c13 ?k13 ?a14 ?l14 ?c14 ?k14 ?a15 ?l15 ?c15 ?k15 ?a16 ?l16 ?c16 ?k16 ?a17 ?l17 ?c17 ?k17 ?a18 ?l18 ?c18 ?k18 ?a19 ?l19 ?c19 ?k19 ?a20 ?l20 ?c20 ?k20 ?a21 ?l21 ?c21 ?k21 ?a22 ?l22 ?c22 ?k22 ?a23 ?l23 ?c23 ?k23 ?a24 ?l24 ?c24 ?k24 ?a25 ?l25 ?c25 ?k25 ?tA ?tP ?tN ?aWIDEST ?aC ?acRow ?acFull ?acLack ?acTab ?acNoView ?acErr ?zlen ?zrange ?ztuple ?zlist ?zint ?zbool ?zisinstance ?zmin ?zreversed ?zValueError ?zany ?hg ?hk ?hs ?hd ?ha ?hn ?ht ?hm ?icRow ?tcRow ?scRow ?ncRow ?icFull ?tcFull ?scFull ?ncFull ?icLack ?tcLack ?scLack ?ncLack ?icTab ?tcTab ?scTab ?ncTab ?icNoView ?tcNoView ?scNoView ?ncNoView ?sVE ?eE ?dE ?tE ?sE ?xC ?kC ?tC
    (case a0 => k_is); (case l0 => k_is); (case c0 => k_is); (case k0 => k_is); (case a1 => k_is); (case l1 => k_is); (case c1 => k_is); (case k1 => k_is); (case a2 => k_is); (case l2 => k_is); (case c2 => k_is); (case k2 => k_is); (case a3 => k_is); (case l3 => k_is); (case c3 => k_is); (case k3 => k_is); (case a4 => k_is); (case l4 => k_is); (case c4 => k_is); (case k4 => k_is); (case a5 => k_is); (case l5 => k_is); (case c5 => k_is); (case k5 => k_is); (case a6 => k_is); (case l6 => k_is); (case c6 => k_is); (case k6 => k_is); (case a7 => k_is); (case l7 => k_is); (case c7 => k_is); (case k7 => k_is); (case a8 => k_is); (case l8 => k_is); (case c8 => k_is); (case k8 => k_is); (case a9 => k_is); (case l9 => k_is); (case c9 => k_is); (case k9 => k_is); (case a10 => k_is); (case l10 => k_is); (case c10 => k_is); (case k10 => k_is); (case a11 => k_is); (case l11 => k_is); (case c11 => k_is); (case k11 => k_is); (case a12 => k_is); (case l12 => k_is); (case c12 => k_is); (case k12 => k_is); (case a13 => k_is); (case l13 => k_is); (case c13 => k_is); (case k13 => k_is); (case a14 => k_is); (case l14 => k_is); (case c14 => k_is); (case k14 => k_is); (case a15 => k_is); (case l15 => k_is); (case c15 => k_is); (case k15 => k_is); (case a16 => k_is); (case l16 => k_is); (case c16 => k_is); (case k16 => k_is); (case a17 => k_is); (case l17 => k_is); (case c17 => k_is); (case k17 => k_is); (case a18 => k_is); (case l18 => k_is); (case c18 => k_is); (case k18 => k_is); (case a19 => k_is); (case l19 => k_is); (case c19 => k_is); (case k19 => k_is); (case a20 => k_is); (case l20 => k_is); (case c20 => k_is); (case k20 => k_is); (case a21 => k_is); (case l21 => k_is); (case c21 => k_is); (case k21 => k_is); (case a22 => k_is); (case l22 => k_is); (case c22 => k_is); (case k22 => k_is); (case a23 => k_is); (case l23 => k_is); (case c23 => k_is); (case k23 => k_is); (case a24 => k_is); (case l24 => k_is); (case c24 => k_is); (case k24 => k_is); (case a25 => k_is); (case l25 => k_is); (case c25 => k_is); (case k25 => k_is); (case tA => k_is); (case aWIDEST => k_is); (case aC => k_is); (case acRow => k_is); (case acFull => k_is); (case acLack => k_is); (case acTab => k_is); (case acNoView => k_is); (case acErr => k_is); (case zlen => k_is); (case zrange => k_is); (case ztuple => k_is); (case zlist => k_is); (case zint => k_is); (case zbool => k_is); (case zisinstance => k_is); (case zmin => k_is); (case zreversed => k_is); (case zValueError => k_is); (case zany => k_is); (case hg => k_is); (case hk => k_is); (case hs => k_is); (case hd => k_is); (case ha => k_is); (case hn => k_is); (case ht => k_is); (case hm => k_is); (case icRow => k_is); (case tcRow => k_is); (case scRow => k_is); (case icFull => k_is); (case tcFull => k_is); (case scFull => k_is); (case icLack => k_is); (case tcLack => k_is); (case scLack => k_is); (case icTab => k_is); (case tcTab => k_is); (case scTab => k_is); (case icNoView => k_is); (case tcNoView => k_is); (case scNoView => k_is); (case sVE => k_is); (case eE => k_is); (case dE => k_is); (case tE => k_is); (case sE => k_is); (case kC => k_is); (case tC => k_is)
    (case ncRow => decide +kernel); (case ncFull => decide +kernel); (case ncLack => decide +kernel); (case ncTab => decide +kernel); (case ncNoView => decide +kernel)
    (case tP => rfl)
    (case tN => kernel_rfl)
    (case xC => k_exc)

