import PyProof.Rows.All
import Wide.All
import OpenK.AllK
import Wide.FinOn
import HandS.ForMost
import HandS.ForExc
import HandS.Evl
import HandS.Conv
import HandS.Wide
import HandS.IsInst
import HandS.RevRange
import PyProof.CollectIter
import PyProof.FactsAll.range_iterator_1
import HandS.Base
import HandS.Call
import HandS.AnyAll
import HandS.DictComp
import HandS.DictTup
import PyProof.WalksPairs
import PyProof.GenCompT
import KE.KDictWalk
import HandS.ExcCtx
import HandS.HotCalls
import HandS.ExcIs
import HandS.TupMul
import HandS.Star
import PySem.Challenge.RW_changeview_k08_views_put
import HandS.Walk
import HandS.EndTab
import HandS.HeadWalk
import KE.KNestM
set_option Elab.async false
set_option linter.all false
set_option maxRecDepth 100000
set_option maxHeartbeats 4000000
/-! KB: what a reading establishes (Est), promises as functions of what stands ahead; defs of the text by name. -/
namespace KB
open PySem PySem.Spec PyProof.Rows L2 Evl

/-! ### what stands when objects are only added -/
def Pers (P : Hp → Prop) : Prop := ∀ H H', Ex H H' → P H → P H'
theorem Pers.c (p : Prop) : Pers (fun _ => p) := fun _ _ _ h => h
theorem Pers.and {P R : Hp → Prop} (p : Pers P) (r : Pers R) : Pers (fun H => P H ∧ R H) := fun H H' e h => ⟨p H H' e h.1, r H H' e h.2⟩
theorem Pers.or {P R : Hp → Prop} (p : Pers P) (r : Pers R) : Pers (fun H => P H ∨ R H) := fun H H' e h => h.imp (p H H' e) (r H H' e)
theorem Pers.ex {α : Type} {P : α → Hp → Prop} (p : ∀ a, Pers (P a)) : Pers (fun H => ∃ a, P a H) := fun H H' e ⟨a, h⟩ => ⟨a, p a H H' e h⟩
theorem Pers.all {α : Type} {P : α → Hp → Prop} (p : ∀ a, Pers (P a)) : Pers (fun H => ∀ a, P a H) := fun H H' e h a => p a H H' e (h a)
theorem Pers.at {p : Addr} {o : HO} : Pers (fun H => H p = some o) := fun _ _ e h => e _ _ h
theorem Pers.sl {K : PySem.W.Frag} {p : Addr} {xs : List V} : Pers (fun H => SqL K H p xs) := fun _ _ e h => ex_l e h
theorem Pers.st {K : PySem.W.Frag} {p : Addr} {xs : List V} : Pers (fun H => SqT K H p xs) := fun _ _ e h => ex_t e h

/-! ### readings -/
def Est (te : TE) (σ : L2.St) (H : Hp) (P : V → Hp → Prop) : Prop := ∀ H1, Ex H H1 → ∀ Q : VK, (∀ v H2, Ex H1 H2 → P v H2 → Q v H2) → te σ H1 Q
def EstA (ta : TA) (σ : L2.St) (H : Hp) (P : List V → Hp → Prop) : Prop := ∀ H1, Ex H H1 → ∀ Q : List V → Hp → Prop, (∀ vs H2, Ex H1 H2 → P vs H2 → Q vs H2) → ta σ H1 Q
def EstT (tt : TT) (σ : L2.St) (H : Hp) (P : Bool → Prop) : Prop := ∀ H1, Ex H H1 → ∀ Q : Bool → Hp → Prop, (∀ b H2, Ex H1 H2 → P b → Q b H2) → tt σ H1 Q
section
variable {K : PySem.W.Frag} {σ : L2.St} {H H' : Hp} {ta tb te tx : TE} {t u : TT} {x y z v : V} {r : R2} {P R : V → Hp → Prop} {D : Ends} {tz tu tw : TS}
theorem Est.mono (e : Ex H H') (h : Est te σ H P) : Est te σ H' P := fun H1 a Q q => h H1 (e.trans a) Q q
theorem EstA.mono {ta : TA} {P : List V → Hp → Prop} (e : Ex H H') (h : EstA ta σ H P) : EstA ta σ H' P := fun H1 a Q q => h H1 (e.trans a) Q q
theorem Est.imp (h : Est te σ H P) (f : ∀ v H', Ex H H' → P v H' → R v H') : Est te σ H R := fun H1 e Q q => h H1 e Q fun v H2 e2 p => q v H2 e2 (f v H2 (e.trans e2) p)
theorem EstA.imp {ta : TA} {P R : List V → Hp → Prop} (h : EstA ta σ H P) (f : ∀ v H', Ex H H' → P v H' → R v H') : EstA ta σ H R := fun H1 e Q q => h H1 e Q fun v H2 e2 p => q v H2 e2 (f v H2 (e.trans e2) p)
theorem est_ev (h : Ev te σ H v) : Est te σ H (fun w _ => w = v) := fun H1 e Q q => h H1 e Q fun H2 e2 => q v H2 e2 rfl
theorem ev_est (h : Est te σ H (fun w _ => w = v)) : Ev te σ H v := fun H1 e Q q => h H1 e Q fun w H2 e2 p => by rw [p]; exact q H2 e2
theorem est_var (h : σ[i]? = some (some v)) (p : P v H) (pp : Pers (P v)) : Est (tVar i) σ H P := fun H1 e Q q => ⟨v, h, q v H1 (Ex.refl H1) (pp _ _ e p)⟩
/-- a part first, what it gives a letter of the rest -/
theorem est_tup {ta : TA} {P : List V → Hp → Prop} (h : EstA ta σ H P) (hl : ∀ vs H', P vs H' → vs.length ≤ 100000) (pp : ∀ vs, Pers (P vs)) : Est (tTup ta) σ H (fun v H' => ∃ p vs, v = .ref p ∧ H p = none ∧ H' p = some (.tup vs) ∧ P vs H') := fun H1 e Q q =>
  h H1 e _ fun vs H2 e2 hp => ⟨sz_of (hl vs H2 hp), fun p hn => q _ _ (e2.trans (Ex.new hn)) ⟨p, vs, rfl, fresh_back (e.trans e2) hn, upd_same, pp vs _ _ (Ex.new hn) hp⟩⟩
theorem est_lst {ta : TA} {P : List V → Hp → Prop} (h : EstA ta σ H P) (hl : ∀ vs H', P vs H' → vs.length ≤ 100000) (pp : ∀ vs, Pers (P vs)) : Est (tLst ta) σ H (fun v H' => ∃ p vs, v = .ref p ∧ H p = none ∧ H' p = some (.lst vs) ∧ P vs H') := fun H1 e Q q =>
  h H1 e _ fun vs H2 e2 hp => ⟨sz_of (hl vs H2 hp), fun p hn => q _ _ (e2.trans (Ex.new hn)) ⟨p, vs, rfl, fresh_back (e.trans e2) hn, upd_same, pp vs _ _ (Ex.new hn) hp⟩⟩
theorem esta_nil {P : List V → Hp → Prop} (p : ∀ H', Ex H H' → P [] H') : EstA tNil σ H P := fun H1 e _ q => q [] H1 (Ex.refl H1) (p H1 e)
theorem esta_cons {tr : TA} {S : List V → Hp → Prop} (h : Est ta σ H P) (hr : EstA tr σ H S) (pp : ∀ v, Pers (P v)) : EstA (tCons ta tr) σ H (fun vs H' => ∃ v r, vs = v :: r ∧ P v H' ∧ S r H') := fun H1 e _ q =>
  h H1 e _ fun v H2 e2 hv => hr H2 (e.trans e2) _ fun r H3 e3 hs => q _ H3 (e2.trans e3) ⟨v, r, rfl, pp v _ _ e3 hv, hs⟩
/-- items all of one kind -/
def AllZ (Z : V → Hp → Prop) (n : Nat) (vs : List V) (H : Hp) : Prop := vs.length = n ∧ ∀ v ∈ vs, Z v H
theorem AllZ.pers {Z : V → Hp → Prop} (pz : ∀ v, Pers (Z v)) {n : Nat} (vs : List V) : Pers (AllZ Z n vs) := fun H H' e h => ⟨h.1, fun v hv => pz v H H' e (h.2 v hv)⟩
theorem allz_nil {Z : V → Hp → Prop} : EstA tNil σ H (AllZ Z 0) := esta_nil fun _ _ => ⟨rfl, fun v hv => absurd hv (by simp)⟩
theorem allz_cons {tr : TA} {Z : V → Hp → Prop} {n : Nat} (h : Est ta σ H Z) (hr : EstA tr σ H (AllZ Z n)) (pz : ∀ v, Pers (Z v)) : EstA (tCons ta tr) σ H (AllZ Z (n + 1)) :=
  (esta_cons h hr pz).imp fun vs H' _ ⟨v, r, e, hv, hr⟩ => ⟨by rw [e, List.length_cons, hr.1], fun w hw => by
    rw [e] at hw
    rcases List.mem_cons.mp hw with q | q
    · rw [q]; exact hv
    · exact hr.2 w q⟩
theorem est_call {sp : Sp} {dvs : List V} {E : XK} {ta : TA} {PA : List V → Hp → Prop} (h : EstA ta σ H PA) (hs : ∀ vs H1, Ex H H1 → PA vs H1 → ∀ Q : VK, (∀ v H2, Ex H1 H2 → P v H2 → Q v H2) → sp (vs ++ dvs) H1 Q E) : Est (tCall sp dvs E ta) σ H P := fun H1 e Q q =>
  h H1 e _ fun vs H2 e2 hp => hs vs H2 (e.trans e2) hp Q fun v H3 e3 p => q v H3 (e2.trans e3) p
theorem est_op (ha : Est ta σ H P) (hb : Est tb σ H R) (pp : ∀ v, Pers (P v)) {S : V → Hp → Prop} (hr : ∀ x y H1, Ex H H1 → P x H1 → R y H1 → ∀ Q : VK, (∀ v H2, Ex H1 H2 → S v H2 → Q v H2) → r x y H1 Q) : Est (tOp r ta tb) σ H S := fun H1 e Q q =>
  ha H1 e _ fun x H2 e2 px => hb H2 (e.trans e2) _ fun y H3 e3 py => hr x y H3 ((e.trans e2).trans e3) (pp x _ _ e3 px) py Q fun v H4 e4 s => q v H4 ((e2.trans e3).trans e4) s
theorem est_cb {rc : List V → Hp → VK → Prop} {ta : TA} {PA : List V → Hp → Prop} (h : EstA ta σ H PA) (hr : ∀ vs H1, Ex H H1 → PA vs H1 → ∀ Q : VK, (∀ v H2, Ex H1 H2 → P v H2 → Q v H2) → rc vs H1 Q) : Est (tCB rc ta) σ H P := fun H1 e Q q =>
  h H1 e _ fun vs H2 e2 hp => hr vs H2 (e.trans e2) hp Q fun v H3 e3 p => q v H3 (e2.trans e3) p
theorem est_if {b : Bool} (h : EvT t σ H b) (h1 : b = true → Est ta σ H P) (h2 : b = false → Est tb σ H P) : Est (tIf t ta tb) σ H P := fun H1 e Q q => h H1 e _ fun H2 e2 => by
  cases b with
  | true => exact h1 rfl H2 (e.trans e2) Q fun v H3 e3 => q v H3 (e2.trans e3)
  | false => exact h2 rfl H2 (e.trans e2) Q fun v H3 e3 => q v H3 (e2.trans e3)
/-! statements -/
theorem w_asg {i : Nat} (h : Est te σ H P) (k : ∀ v H1, Ex H H1 → P v H1 → tz D (σ.set i (some v)) H1) : tSeq (tAsg te (gName i)) tz D σ H := h H (Ex.refl H) _ fun v H1 e p => k v H1 e p
theorem w_ret (h : Est te σ H P) (k : ∀ v H1, Ex H H1 → P v H1 → D.rt v H1) : tRet te D σ H := h H (Ex.refl H) _ k
theorem w_unp {K : PySem.W.Frag} {n : Nat} {g : TGs} (h : Est te σ H (fun v H' => ∃ p vs, v = .ref p ∧ SqT K H' p vs ∧ vs.length = n ∧ R (.ref p) H' ∧ P (.ref p) H')) (k : ∀ p vs H1, Ex H H1 → SqT K H1 p vs → vs.length = n → R (.ref p) H1 → P (.ref p) H1 → g vs σ H1 fun σ' H' => tz D σ' H') : tSeq (tAsg te (gTup K n g)) tz D σ H :=
  h H (Ex.refl H) _ fun v H1 e ⟨p, vs, ev, hs, hn, hr, hp⟩ => ⟨p, vs, ev, hs, hn, k p vs H1 e hs hn hr hp⟩
theorem w_ifE (h : EvT t σ H b) (h1 : b = true → ∀ H1, Ex H H1 → tu { D with nx := tz D } σ H1) (h2 : b = false → ∀ H1, Ex H H1 → tw { D with nx := tz D } σ H1) : tSeq (tIfS t tu tw) tz D σ H := q_if h h1 h2
end
/-! ### a def by its name -/
structure FnAt (K : PySem.W.Frag) (mg : Str → Option Value) (x : Str) (st : Stmt) (ps : List Str) (f : Addr) (fd : FuncData) : Prop where
  g : mg x = some (.ref f)
  F : Fun K x x st f fd
  b : Binds K fd ps []
/-- built-in names that the top leaves alone -/
structure Bt (mg : Str → Option Value) : Prop where
  len : mg "len" = none
  range : mg "range" = none
  tuple : mg "tuple" = none
  list : mg "list" = none
  int : mg "int" = none
  bool : mg "bool" = none
  isinstance : mg "isinstance" = none
  min : mg "min" = none
  reversed : mg "reversed" = none
/-- a promise: what it asks of the values and the heap, what it says of the answer -/
def SpF (n : Nat) (Pre : List V → Hp → Prop) (Post : List V → V → Hp → Prop) : Sp := fun vs H Q _ => vs.length = n ∧ Pre vs H ∧ ∀ v H', Ex H H' → Post vs v H' → Q v H'
end KB

/-! KV: views as they stand in the heap, their widths. -/
namespace KB
open PySem PySem.Spec PyProof.Rows L2 Evl
inductive View where
  | table (t : Int) | within (v : View) (c : Int) (lo hi : V) | columns (v : View) (cs : List Int) | both (v w : View) | less (v w : View)
  | meet (v w : View) (ps : List (Int × Int)) | once (v : View) | sums (v : View) (ks : List Int) (c : Int) | reach (v : View) | odd (x : Str) (v w : View)
def EndV (x : V) : Prop := x = .non ∨ ∃ i, x = .int i
def nine : List Str := ["table", "within", "columns", "both", "less", "meet", "once", "sums", "reach"]
/-- words that are none of the nine -/
def four : List Str := ["Table", "", "join", "meets"]
theorem four_nine {o : Str} (h : o ∈ four) : o ∉ nine := by
  have all : ∀ o ∈ four, o ∉ nine := by decide
  exact all o h
/-- pairs of columns: tuples of two -/
def PairsAt (H : Hp) (q : Addr) (ps : List (Int × Int)) : Prop := ∃ rs : List Addr, H q = some (.tup (rs.map V.ref)) ∧ Paired (fun (r : Addr) (p : Int × Int) => H r = some (.tup [.int p.1, .int p.2])) rs ps
def VAt (H : Hp) : View → V → Prop
  | .table t, x => ∃ p, x = .ref p ∧ H p = some (.tup [.str "table", .int t])
  | .within v c lo hi, x => ∃ p y, x = .ref p ∧ H p = some (.tup [.str "within", y, .int c, lo, hi]) ∧ VAt H v y ∧ EndV lo ∧ EndV hi
  | .columns v cs, x => ∃ p y q, x = .ref p ∧ H p = some (.tup [.str "columns", y, .ref q]) ∧ VAt H v y ∧ H q = some (.tup (cs.map V.int))
  | .both v w, x => ∃ p y z, x = .ref p ∧ H p = some (.tup [.str "both", y, z]) ∧ VAt H v y ∧ VAt H w z
  | .less v w, x => ∃ p y z, x = .ref p ∧ H p = some (.tup [.str "less", y, z]) ∧ VAt H v y ∧ VAt H w z
  | .meet v w ps, x => ∃ p y z q, x = .ref p ∧ H p = some (.tup [.str "meet", y, z, .ref q]) ∧ VAt H v y ∧ VAt H w z ∧ PairsAt H q ps
  | .once v, x => ∃ p y, x = .ref p ∧ H p = some (.tup [.str "once", y]) ∧ VAt H v y
  | .sums v ks c, x => ∃ p y q, x = .ref p ∧ H p = some (.tup [.str "sums", y, .ref q, .int c]) ∧ VAt H v y ∧ H q = some (.tup (ks.map V.int))
  | .reach v, x => ∃ p y, x = .ref p ∧ H p = some (.tup [.str "reach", y]) ∧ VAt H v y
  | .odd o v w, x => ∃ p y z, x = .ref p ∧ H p = some (.tup [.str o, y, z]) ∧ VAt H v y ∧ VAt H w z ∧ o ∈ four
theorem Paired.imp' {α β : Type} {F G : α → β → Prop} : ∀ {l : List α} {m : List β}, Paired F l m → (∀ a b, F a b → G a b) → Paired G l m := fun h f => L2.Paired.mapP h f
theorem PairsAt.pers {q : Addr} {ps : List (Int × Int)} : Pers (fun H => PairsAt H q ps) := fun H H' e ⟨rs, h, p⟩ => ⟨rs, e _ _ h, L2.Paired.mapP p fun _ _ z => e _ _ z⟩
theorem VAt.pers : ∀ (v : View) (x : V), Pers (fun H => VAt H v x)
  | .table t, x => fun H H' e ⟨p, a, b⟩ => ⟨p, a, e _ _ b⟩
  | .within v c lo hi, x => fun H H' e ⟨p, y, a, b, c, d⟩ => ⟨p, y, a, e _ _ b, VAt.pers v y H H' e c, d⟩
  | .columns v cs, x => fun H H' e ⟨p, y, q, a, b, c, d⟩ => ⟨p, y, q, a, e _ _ b, VAt.pers v y H H' e c, e _ _ d⟩
  | .both v w, x => fun H H' e ⟨p, y, z, a, b, c, d⟩ => ⟨p, y, z, a, e _ _ b, VAt.pers v y H H' e c, VAt.pers w z H H' e d⟩
  | .less v w, x => fun H H' e ⟨p, y, z, a, b, c, d⟩ => ⟨p, y, z, a, e _ _ b, VAt.pers v y H H' e c, VAt.pers w z H H' e d⟩
  | .meet v w ps, x => fun H H' e ⟨p, y, z, q, a, b, c, d, f⟩ => ⟨p, y, z, q, a, e _ _ b, VAt.pers v y H H' e c, VAt.pers w z H H' e d, PairsAt.pers H H' e f⟩
  | .once v, x => fun H H' e ⟨p, y, a, b, c⟩ => ⟨p, y, a, e _ _ b, VAt.pers v y H H' e c⟩
  | .sums v ks c, x => fun H H' e ⟨p, y, q, a, b, c, d⟩ => ⟨p, y, q, a, e _ _ b, VAt.pers v y H H' e c, e _ _ d⟩
  | .reach v, x => fun H H' e ⟨p, y, a, b, c⟩ => ⟨p, y, a, e _ _ b, VAt.pers v y H H' e c⟩
  | .odd o v w, x => fun H H' e ⟨p, y, z, a, b, c, d, f⟩ => ⟨p, y, z, a, e _ _ b, VAt.pers v y H H' e c, VAt.pers w z H H' e d, f⟩
/-- nested below n, its lists short -/
def VOk : Nat → View → Prop
  | 0, _ => False
  | _ + 1, .table _ => True
  | n + 1, .within v _ _ _ => VOk n v
  | n + 1, .columns v cs => VOk n v ∧ cs.length ≤ 1000
  | n + 1, .both v w => VOk n v ∧ VOk n w
  | n + 1, .less v w => VOk n v ∧ VOk n w
  | n + 1, .meet v w ps => VOk n v ∧ VOk n w ∧ ps.length ≤ 1000
  | n + 1, .once v => VOk n v
  | n + 1, .sums v ks _ => VOk n v ∧ ks.length ≤ 1000
  | n + 1, .reach v => VOk n v
  | n + 1, .odd _ v w => VOk n v ∧ VOk n w
theorem VOk.up : ∀ {n : Nat} {v : View}, VOk n v → VOk (n + 1) v
  | 0, _, h => h.elim
  | n + 1, .table _, h => True.intro
  | n + 1, .within v _ _ _, h => VOk.up (n := n) (v := v) h
  | n + 1, .columns v cs, h => ⟨VOk.up (n := n) h.1, h.2⟩
  | n + 1, .both v w, h => ⟨VOk.up (n := n) h.1, VOk.up (n := n) h.2⟩
  | n + 1, .less v w, h => ⟨VOk.up (n := n) h.1, VOk.up (n := n) h.2⟩
  | n + 1, .meet v w ps, h => ⟨VOk.up (n := n) h.1, VOk.up (n := n) h.2.1, h.2.2⟩
  | n + 1, .once v, h => VOk.up (n := n) (v := v) h
  | n + 1, .sums v ks _, h => ⟨VOk.up (n := n) h.1, h.2⟩
  | n + 1, .reach v, h => VOk.up (n := n) (v := v) h
  | n + 1, .odd _ v w, h => ⟨VOk.up (n := n) h.1, VOk.up (n := n) h.2⟩
theorem VOk.le {n m : Nat} {v : View} (h : VOk n v) (l : n ≤ m) : VOk m v := by
  induction l with
  | refl => exact h
  | step _ ih => exact ih.up
/-- a view, nested below n -/
def IsView (n : Nat) (x : V) (H : Hp) : Prop := ∃ v, VOk n v ∧ VAt H v x
theorem IsView.pers (n : Nat) (x : V) : Pers (IsView n x) := fun H H' e ⟨v, a, b⟩ => ⟨v, a, VAt.pers v x H H' e b⟩
theorem IsView.le {n m : Nat} {x : V} {H : Hp} (h : IsView n x H) (l : n ≤ m) : IsView m x H := let ⟨v, a, b⟩ := h; ⟨v, a.le l, b⟩
/-- columns that are there -/
def inW (w : Int) (c : Int) : Bool := decide (0 ≤ c) && decide (c < w)
def cap (n : Int) : Option Int := if n ≤ 40 then some n else none
def widthOf (ws : List Int) : View → Option Int
  | .table t => if 0 ≤ t ∧ t < ws.length then ws[t.toNat]? else none
  | .within v c _ _ => (widthOf ws v).bind fun w => if inW w c = true then some w else none
  | .columns v cs => (widthOf ws v).bind fun w => if cs ≠ [] ∧ cs.all (inW w) = true then cap cs.length else none
  | .both v w => (widthOf ws v).bind fun a => (widthOf ws w).bind fun b => if a = b then some a else none
  | .less v w => (widthOf ws v).bind fun a => (widthOf ws w).bind fun b => if a = b then some a else none
  | .meet v w ps => (widthOf ws v).bind fun a => (widthOf ws w).bind fun b => if (ps.map (·.1)).all (inW a) = true ∧ (ps.map (·.2)).all (inW b) = true then cap (a + b) else none
  | .once v => widthOf ws v
  | .sums v ks c => (widthOf ws v).bind fun w => if ks.all (inW w) = true ∧ inW w c = true then cap (ks.length + 2) else none
  | .reach v => (widthOf ws v).bind fun w => if w = 2 then some 2 else none
  | .odd _ _ _ => none
end KB

/-! KV2: readings that make views. -/
namespace KB
open PySem PySem.Spec PyProof.Rows L2 Evl
theorem le5 (n : Nat) {l : List V} (h : l.length = n) (h2 : n ≤ 100000) : l.length ≤ 100000 := by omega
def IsInt (v : V) (_ : Hp) : Prop := ∃ c : Int, v = .int c
def IsEnd (v : V) (_ : Hp) : Prop := EndV v
def IsCols (v : V) (H : Hp) : Prop := ∃ (p : Addr) (xs : List Int), v = .ref p ∧ H p = some (.tup (xs.map V.int)) ∧ xs.length ≤ 1000
def IsPair (v : V) (H : Hp) : Prop := ∃ (p : Addr) (a b : Int), v = .ref p ∧ H p = some (.tup [.int a, .int b])
def IsPairs (v : V) (H : Hp) : Prop := ∃ (q : Addr) (ps : List (Int × Int)), v = .ref q ∧ PairsAt H q ps ∧ ps.length ≤ 1000
def IsEnds (v : V) (H : Hp) : Prop := ∃ (p : Addr) (a b : V), v = .ref p ∧ H p = some (.tup [a, b]) ∧ EndV a ∧ EndV b
theorem IsInt.pers (v : V) : Pers (IsInt v) := fun _ _ _ h => h
theorem IsEnd.pers (v : V) : Pers (IsEnd v) := fun _ _ _ h => h
theorem IsCols.pers (v : V) : Pers (IsCols v) := fun H H' e ⟨p, xs, a, b, c⟩ => ⟨p, xs, a, e _ _ b, c⟩
theorem IsPair.pers (v : V) : Pers (IsPair v) := fun H H' e ⟨p, x, y, a, b⟩ => ⟨p, x, y, a, e _ _ b⟩
theorem IsPairs.pers (v : V) : Pers (IsPairs v) := fun H H' e ⟨p, x, a, b, c⟩ => ⟨p, x, a, PairsAt.pers H H' e b, c⟩
theorem IsEnds.pers (v : V) : Pers (IsEnds v) := fun H H' e ⟨p, x, y, a, b, c⟩ => ⟨p, x, y, a, e _ _ b, c⟩
theorem ints_of {vs : List V} {H : Hp} (h : ∀ v ∈ vs, IsInt v H) : ∃ xs : List Int, vs = xs.map V.int := by
  induction vs with
  | nil => exact ⟨[], rfl⟩
  | cons v r ih =>
    obtain ⟨xs, e⟩ := ih fun w hw => h w (List.mem_cons_of_mem _ hw)
    obtain ⟨c, ec⟩ := h v List.mem_cons_self
    exact ⟨c :: xs, by rw [e, ec, List.map_cons]⟩
theorem pairs_of_all {vs : List V} {H : Hp} (h : ∀ v ∈ vs, IsPair v H) : ∃ (rs : List Addr) (ps : List (Int × Int)), vs = rs.map V.ref ∧ Paired (fun (r : Addr) (p : Int × Int) => H r = some (.tup [.int p.1, .int p.2])) rs ps ∧ ps.length = vs.length := by
  induction vs with
  | nil => exact ⟨[], [], rfl, .nil, rfl⟩
  | cons v r ih =>
    obtain ⟨rs, ps, e, pr, l⟩ := ih fun w hw => h w (List.mem_cons_of_mem _ hw)
    obtain ⟨p, a, b, ev, hp⟩ := h v List.mem_cons_self
    exact ⟨p :: rs, (a, b) :: ps, by rw [e, ev, List.map_cons], .cons hp pr, by rw [List.length_cons, List.length_cons, l]⟩
section
variable {K : PySem.W.Frag} {σ : L2.St} {H H' : Hp} {ta tb t1 t2 t3 t4 t5 te : TE} {P1 P2 P3 P4 P5 : V → Hp → Prop} {tA : TA} {Z : V → Hp → Prop} {n d : Nat}
theorem est_t1 (h1 : Est t1 σ H P1) (p1 : ∀ v, Pers (P1 v)) : Est (tTup (tCons t1 tNil)) σ H (fun v H' => ∃ p a, v = .ref p ∧ H' p = some (.tup [a]) ∧ P1 a H') :=
  (est_tup (esta_cons h1 (P := P1) (esta_nil (P := fun vs _ => vs = []) fun _ _ => rfl) p1) (fun vs H' ⟨v, r, e, _, e2⟩ => by rw [e, e2]; exact le5 _ rfl (by simp only [List.length_cons, List.length_nil]; omega)) (fun vs => Pers.ex fun v => Pers.ex fun r => (Pers.c _).and ((p1 v).and (Pers.c _)))).imp
    fun v H' _ ⟨p, vs, e, _, hp, a, r, e1, h1, e2⟩ => ⟨p, a, e, by rw [hp, e1, e2], h1⟩
theorem esta_1 (h1 : Est t1 σ H P1) (p1 : ∀ v, Pers (P1 v)) : EstA (tCons t1 tNil) σ H (fun vs H' => ∃ a, vs = [a] ∧ P1 a H') :=
  (esta_cons h1 (esta_nil (P := fun vs _ => vs = []) fun _ _ => rfl) p1).imp fun vs H' _ ⟨v, r, e, h, e2⟩ => ⟨v, by rw [e, e2], h⟩
theorem esta_2 (h1 : Est t1 σ H P1) (h2 : Est t2 σ H P2) (p1 : ∀ v, Pers (P1 v)) (p2 : ∀ v, Pers (P2 v)) : EstA (tCons t1 (tCons t2 tNil)) σ H (fun vs H' => ∃ a b, vs = [a, b] ∧ P1 a H' ∧ P2 b H') :=
  (esta_cons h1 (esta_1 h2 p2) p1).imp fun vs H' _ ⟨v, r, e, h, b, e2, h'⟩ => ⟨v, b, by rw [e, e2], h, h'⟩
theorem esta_3 (h1 : Est t1 σ H P1) (h2 : Est t2 σ H P2) (h3 : Est t3 σ H P3) (p1 : ∀ v, Pers (P1 v)) (p2 : ∀ v, Pers (P2 v)) (p3 : ∀ v, Pers (P3 v)) : EstA (tCons t1 (tCons t2 (tCons t3 tNil))) σ H (fun vs H' => ∃ a b c, vs = [a, b, c] ∧ P1 a H' ∧ P2 b H' ∧ P3 c H') :=
  (esta_cons h1 (esta_2 h2 h3 p2 p3) p1).imp fun vs H' _ ⟨v, r, e, h, b, c, e2, h'⟩ => ⟨v, b, c, by rw [e, e2], h, h'⟩
theorem esta_4 (h1 : Est t1 σ H P1) (h2 : Est t2 σ H P2) (h3 : Est t3 σ H P3) (h4 : Est t4 σ H P4) (p1 : ∀ v, Pers (P1 v)) (p2 : ∀ v, Pers (P2 v)) (p3 : ∀ v, Pers (P3 v)) (p4 : ∀ v, Pers (P4 v)) :
    EstA (tCons t1 (tCons t2 (tCons t3 (tCons t4 tNil)))) σ H (fun vs H' => ∃ a b c f, vs = [a, b, c, f] ∧ P1 a H' ∧ P2 b H' ∧ P3 c H' ∧ P4 f H') :=
  (esta_cons h1 (esta_3 h2 h3 h4 p2 p3 p4) p1).imp fun vs H' _ ⟨v, r, e, h, b, c, f, e2, h'⟩ => ⟨v, b, c, f, by rw [e, e2], h, h'⟩
theorem esta_5 (h1 : Est t1 σ H P1) (h2 : Est t2 σ H P2) (h3 : Est t3 σ H P3) (h4 : Est t4 σ H P4) (h5 : Est t5 σ H P5) (p1 : ∀ v, Pers (P1 v)) (p2 : ∀ v, Pers (P2 v)) (p3 : ∀ v, Pers (P3 v)) (p4 : ∀ v, Pers (P4 v)) (p5 : ∀ v, Pers (P5 v)) :
    EstA (tCons t1 (tCons t2 (tCons t3 (tCons t4 (tCons t5 tNil))))) σ H (fun vs H' => ∃ a b c f g, vs = [a, b, c, f, g] ∧ P1 a H' ∧ P2 b H' ∧ P3 c H' ∧ P4 f H' ∧ P5 g H') :=
  (esta_cons h1 (esta_4 h2 h3 h4 h5 p2 p3 p4 p5) p1).imp fun vs H' _ ⟨v, r, e, h, b, c, f, g, e2, h'⟩ => ⟨v, b, c, f, g, by rw [e, e2], h, h'⟩
theorem est_tupE {PA : List V → Hp → Prop} {R : V → Hp → Prop} (h : EstA tA σ H PA) (pp : ∀ vs, Pers (PA vs)) (hl : ∀ vs H', PA vs H' → vs.length ≤ 100000) (k : ∀ p vs H', H' p = some (.tup vs) → PA vs H' → R (.ref p) H') : Est (tTup tA) σ H R :=
  (est_tup h hl pp).imp fun v H' _ ⟨p, vs, e, _, hp, hr⟩ => by rw [e]; exact k p vs H' hp hr
theorem est_lstE {PA : List V → Hp → Prop} {R : V → Hp → Prop} (h : EstA tA σ H PA) (pp : ∀ vs, Pers (PA vs)) (hl : ∀ vs H', PA vs H' → vs.length ≤ 100000) (k : ∀ p vs H', H p = none → H' p = some (.lst vs) → PA vs H' → R (.ref p) H') : Est (tLst tA) σ H R :=
  (est_lst h hl pp).imp fun v H' _ ⟨p, vs, e, hn, hp, hr⟩ => by rw [e]; exact k p vs H' hn hp hr
/-- a written text -/
def Is (x : V) (v : V) (_ : Hp) : Prop := v = x
theorem est_is (x : V) : Est (tC x) σ H (Is x) := est_ev ev_c
theorem Is.pers (x v : V) : Pers (Is x v) := fun _ _ _ h => h
/-! views made -/
theorem vc_table (h : Est t1 σ H IsInt) : Est (tTup (tCons (tC (.str "table")) (tCons t1 tNil))) σ H (IsView (d + 1)) :=
  est_tupE (esta_2 (est_is _) h (Is.pers _) IsInt.pers) (fun vs => Pers.ex fun a => Pers.ex fun b => (Pers.c _).and ((Is.pers _ a).and (IsInt.pers b))) (fun vs H' ⟨a, b, e, _⟩ => by rw [e]; exact le5 _ rfl (by simp only [List.length_cons, List.length_nil]; omega)) fun p vs H' hp ⟨a, b, e, ea, c, eb⟩ =>
    ⟨.table c, True.intro, p, rfl, by rw [hp, e, show a = _ from ea, eb]⟩
theorem vc_within (h1 : Est t1 σ H (IsView d)) (h2 : Est t2 σ H IsInt) (h3 : Est t3 σ H IsEnd) (h4 : Est t4 σ H IsEnd) : Est (tTup (tCons (tC (.str "within")) (tCons t1 (tCons t2 (tCons t3 (tCons t4 tNil)))))) σ H (IsView (d + 1)) :=
  est_tupE (esta_5 (est_is _) h1 h2 h3 h4 (Is.pers _) (IsView.pers d) IsInt.pers IsEnd.pers IsEnd.pers) (fun vs => Pers.ex fun a => Pers.ex fun b => Pers.ex fun c => Pers.ex fun f => Pers.ex fun g => (Pers.c _).and ((Is.pers _ a).and ((IsView.pers d b).and ((IsInt.pers c).and ((IsEnd.pers f).and (IsEnd.pers g)))))) (fun vs H' ⟨a, b, c, f, g, e, _⟩ => by rw [e]; exact le5 _ rfl (by simp only [List.length_cons, List.length_nil]; omega))
    fun p vs H' hp ⟨a, b, c, f, g, e, ea, ⟨v, ok, at'⟩, ⟨i, ei⟩, hf, hg⟩ => ⟨.within v i f g, ok, p, b, rfl, by rw [hp, e, show a = _ from ea, ei], at', hf, hg⟩
theorem vc_columns (h1 : Est t1 σ H (IsView d)) (h2 : Est t2 σ H IsCols) : Est (tTup (tCons (tC (.str "columns")) (tCons t1 (tCons t2 tNil)))) σ H (IsView (d + 1)) :=
  est_tupE (esta_3 (est_is _) h1 h2 (Is.pers _) (IsView.pers d) IsCols.pers) (fun vs => Pers.ex fun a => Pers.ex fun b => Pers.ex fun c => (Pers.c _).and ((Is.pers _ a).and ((IsView.pers d b).and (IsCols.pers c)))) (fun vs H' ⟨a, b, c, e, _⟩ => by rw [e]; exact le5 _ rfl (by simp only [List.length_cons, List.length_nil]; omega))
    fun p vs H' hp ⟨a, b, c, e, ea, ⟨v, ok, at'⟩, q, xs, eq, hq, hl⟩ => ⟨.columns v xs, ⟨ok, hl⟩, p, b, q, rfl, by rw [hp, e, show a = _ from ea, eq], at', hq⟩
theorem vc_two {x : Str} {f : View → View → View} (h1 : Est t1 σ H (IsView d)) (h2 : Est t2 σ H (IsView d)) (hf : ∀ v w H' p y z, VOk d v → VOk d w → H' p = some (.tup [.str x, y, z]) → VAt H' v y → VAt H' w z → VOk (d + 1) (f v w) ∧ VAt H' (f v w) (.ref p)) :
    Est (tTup (tCons (tC (.str x)) (tCons t1 (tCons t2 tNil)))) σ H (IsView (d + 1)) :=
  est_tupE (esta_3 (est_is _) h1 h2 (Is.pers _) (IsView.pers d) (IsView.pers d)) (fun vs => Pers.ex fun a => Pers.ex fun b => Pers.ex fun c => (Pers.c _).and ((Is.pers _ a).and ((IsView.pers d b).and (IsView.pers d c)))) (fun vs H' ⟨a, b, c, e, _⟩ => by rw [e]; exact le5 _ rfl (by simp only [List.length_cons, List.length_nil]; omega))
    fun p vs H' hp ⟨a, b, c, e, ea, ⟨v, ok, at'⟩, w, ok2, at2⟩ => ⟨f v w, hf v w H' p b c ok ok2 (by rw [hp, e, show a = _ from ea]) at' at2⟩
theorem two_both {d : Nat} (v w : View) (H' : Hp) (p : Addr) (y z : V) (o1 : VOk d v) (o2 : VOk d w) (h : H' p = some (.tup [.str "both", y, z])) (a1 : VAt H' v y) (a2 : VAt H' w z) : VOk (d + 1) (.both v w) ∧ VAt H' (.both v w) (.ref p) := ⟨⟨o1, o2⟩, p, y, z, rfl, h, a1, a2⟩
theorem two_less {d : Nat} (v w : View) (H' : Hp) (p : Addr) (y z : V) (o1 : VOk d v) (o2 : VOk d w) (h : H' p = some (.tup [.str "less", y, z])) (a1 : VAt H' v y) (a2 : VAt H' w z) : VOk (d + 1) (.less v w) ∧ VAt H' (.less v w) (.ref p) := ⟨⟨o1, o2⟩, p, y, z, rfl, h, a1, a2⟩
theorem two_odd {d : Nat} {x : Str} (hx : x ∈ four) (v w : View) (H' : Hp) (p : Addr) (y z : V) (o1 : VOk d v) (o2 : VOk d w) (h : H' p = some (.tup [.str x, y, z])) (a1 : VAt H' v y) (a2 : VAt H' w z) : VOk (d + 1) (.odd x v w) ∧ VAt H' (.odd x v w) (.ref p) := ⟨⟨o1, o2⟩, p, y, z, rfl, h, a1, a2, hx⟩
theorem vc_both (h1 : Est t1 σ H (IsView d)) (h2 : Est t2 σ H (IsView d)) : Est (tTup (tCons (tC (.str "both")) (tCons t1 (tCons t2 tNil)))) σ H (IsView (d + 1)) := vc_two h1 h2 two_both
theorem vc_less (h1 : Est t1 σ H (IsView d)) (h2 : Est t2 σ H (IsView d)) : Est (tTup (tCons (tC (.str "less")) (tCons t1 (tCons t2 tNil)))) σ H (IsView (d + 1)) := vc_two h1 h2 two_less
theorem vc_meet (h1 : Est t1 σ H (IsView d)) (h2 : Est t2 σ H (IsView d)) (h3 : Est t3 σ H IsPairs) : Est (tTup (tCons (tC (.str "meet")) (tCons t1 (tCons t2 (tCons t3 tNil))))) σ H (IsView (d + 1)) :=
  est_tupE (esta_4 (est_is _) h1 h2 h3 (Is.pers _) (IsView.pers d) (IsView.pers d) IsPairs.pers) (fun vs => Pers.ex fun a => Pers.ex fun b => Pers.ex fun c => Pers.ex fun f => (Pers.c _).and ((Is.pers _ a).and ((IsView.pers d b).and ((IsView.pers d c).and (IsPairs.pers f))))) (fun vs H' ⟨a, b, c, f, e, _⟩ => by rw [e]; exact le5 _ rfl (by simp only [List.length_cons, List.length_nil]; omega))
    fun p vs H' hp ⟨a, b, c, f, e, ea, ⟨v, ok, at'⟩, ⟨w, ok2, at2⟩, q, ps, eq, hq, hl⟩ => ⟨.meet v w ps, ⟨ok, ok2, hl⟩, p, b, c, q, rfl, by rw [hp, e, show a = _ from ea, eq], at', at2, hq⟩
theorem vc_once (h1 : Est t1 σ H (IsView d)) : Est (tTup (tCons (tC (.str "once")) (tCons t1 tNil))) σ H (IsView (d + 1)) :=
  est_tupE (esta_2 (est_is _) h1 (Is.pers _) (IsView.pers d)) (fun vs => Pers.ex fun a => Pers.ex fun b => (Pers.c _).and ((Is.pers _ a).and (IsView.pers d b))) (fun vs H' ⟨a, b, e, _⟩ => by rw [e]; exact le5 _ rfl (by simp only [List.length_cons, List.length_nil]; omega))
    fun p vs H' hp ⟨a, b, e, ea, v, ok, at'⟩ => ⟨.once v, ok, p, b, rfl, by rw [hp, e, show a = _ from ea], at'⟩
theorem vc_reach (h1 : Est t1 σ H (IsView d)) : Est (tTup (tCons (tC (.str "reach")) (tCons t1 tNil))) σ H (IsView (d + 1)) :=
  est_tupE (esta_2 (est_is _) h1 (Is.pers _) (IsView.pers d)) (fun vs => Pers.ex fun a => Pers.ex fun b => (Pers.c _).and ((Is.pers _ a).and (IsView.pers d b))) (fun vs H' ⟨a, b, e, _⟩ => by rw [e]; exact le5 _ rfl (by simp only [List.length_cons, List.length_nil]; omega))
    fun p vs H' hp ⟨a, b, e, ea, v, ok, at'⟩ => ⟨.reach v, ok, p, b, rfl, by rw [hp, e, show a = _ from ea], at'⟩
theorem vc_sums (h1 : Est t1 σ H (IsView d)) (h2 : Est t2 σ H IsCols) (h3 : Est t3 σ H IsInt) : Est (tTup (tCons (tC (.str "sums")) (tCons t1 (tCons t2 (tCons t3 tNil))))) σ H (IsView (d + 1)) :=
  est_tupE (esta_4 (est_is _) h1 h2 h3 (Is.pers _) (IsView.pers d) IsCols.pers IsInt.pers) (fun vs => Pers.ex fun a => Pers.ex fun b => Pers.ex fun c => Pers.ex fun f => (Pers.c _).and ((Is.pers _ a).and ((IsView.pers d b).and ((IsCols.pers c).and (IsInt.pers f))))) (fun vs H' ⟨a, b, c, f, e, _⟩ => by rw [e]; exact le5 _ rfl (by simp only [List.length_cons, List.length_nil]; omega))
    fun p vs H' hp ⟨a, b, c, f, e, ea, ⟨v, ok, at'⟩, ⟨q, xs, eq, hq, hl⟩, i, ei⟩ => ⟨.sums v xs i, ⟨ok, hl⟩, p, b, q, rfl, by rw [hp, e, show a = _ from ea, eq, ei], at', hq⟩
/-- a first word that the reading chooses -/
def IsWord (ok : Str → Prop) (v : V) (_ : Hp) : Prop := ∃ x, v = .str x ∧ ok x
theorem IsWord.pers {ok : Str → Prop} (v : V) : Pers (IsWord ok v) := fun _ _ _ h => h
theorem vc_word {ok : Str → Prop} (h0 : Est t3 σ H (IsWord ok)) (h1 : Est t1 σ H (IsView d)) (h2 : Est t2 σ H (IsView d)) (hx : ∀ x, ok x → x = "both" ∨ x = "less" ∨ x ∈ four) :
    Est (tTup (tCons t3 (tCons t1 (tCons t2 tNil)))) σ H (IsView (d + 1)) :=
  est_tupE (esta_3 h0 h1 h2 IsWord.pers (IsView.pers d) (IsView.pers d)) (fun vs => Pers.ex fun a => Pers.ex fun b => Pers.ex fun c => (Pers.c _).and ((IsWord.pers a).and ((IsView.pers d b).and (IsView.pers d c)))) (fun vs H' ⟨a, b, c, e, _⟩ => by rw [e]; exact le5 _ rfl (by simp only [List.length_cons, List.length_nil]; omega))
    fun p vs H' hp ⟨a, b, c, e, ⟨x, ea, hox⟩, ⟨v, ok, at'⟩, w, ok2, at2⟩ => by
      have hp' : H' p = some (.tup [.str x, b, c]) := by rw [hp, e, ea]
      rcases hx x hox with rfl | rfl | hn
      · exact ⟨_, two_both v w H' p b c ok ok2 hp' at' at2⟩
      · exact ⟨_, two_less v w H' p b c ok ok2 hp' at' at2⟩
      · exact ⟨_, two_odd hn v w H' p b c ok ok2 hp' at' at2⟩
/-! tuples of ints, of pairs -/
theorem est_cols (h : EstA tA σ H (AllZ IsInt n)) (hn : n ≤ 1000) : Est (tTup tA) σ H IsCols :=
  est_tupE h (AllZ.pers IsInt.pers) (fun vs H' ⟨l, _⟩ => by omega) fun p vs H' hp ⟨l, ha⟩ => by
    obtain ⟨xs, e⟩ := ints_of ha
    exact ⟨p, xs, rfl, by rw [hp, e], by rw [e, List.length_map] at l; omega⟩
theorem est_pair (h1 : Est t1 σ H IsInt) (h2 : Est t2 σ H IsInt) : Est (tTup (tCons t1 (tCons t2 tNil))) σ H IsPair :=
  est_tupE (esta_2 h1 h2 IsInt.pers IsInt.pers) (fun vs => Pers.ex fun a => Pers.ex fun b => (Pers.c _).and ((IsInt.pers a).and (IsInt.pers b))) (fun vs H' ⟨a, b, e, _⟩ => by rw [e]; exact le5 _ rfl (by simp only [List.length_cons, List.length_nil]; omega))
    fun p vs H' hp ⟨a, b, e, ⟨i, ei⟩, j, ej⟩ => ⟨p, i, j, rfl, by rw [hp, e, ei, ej]⟩
theorem est_pairs (h : EstA tA σ H (AllZ IsPair n)) (hn : n ≤ 1000) : Est (tTup tA) σ H IsPairs :=
  est_tupE h (AllZ.pers IsPair.pers) (fun vs H' ⟨l, _⟩ => by omega) fun p vs H' hp ⟨l, ha⟩ => by
    obtain ⟨rs, ps, e, pr, lp⟩ := pairs_of_all ha
    exact ⟨p, ps, rfl, ⟨rs, by rw [hp, e], pr⟩, by omega⟩
theorem est_ends (h1 : Est t1 σ H IsEnd) (h2 : Est t2 σ H IsEnd) : Est (tTup (tCons t1 (tCons t2 tNil))) σ H IsEnds :=
  est_tupE (esta_2 h1 h2 IsEnd.pers IsEnd.pers) (fun vs => Pers.ex fun a => Pers.ex fun b => (Pers.c _).and ((IsEnd.pers a).and (IsEnd.pers b))) (fun vs H' ⟨a, b, e, _⟩ => by rw [e]; exact le5 _ rfl (by simp only [List.length_cons, List.length_nil]; omega))
    fun p vs H' hp ⟨a, b, e, ha, hb⟩ => ⟨p, a, b, rfl, by rw [hp, e], ha, hb⟩
theorem Est.int {v : V} (h : Ev te σ H v) {c : Int} (e : v = .int c) : Est te σ H IsInt := (est_ev h).imp fun w _ _ hw => ⟨c, by rw [hw, e]⟩
theorem est_int {i : Int} (h : Ev te σ H (.int i)) : Est te σ H IsInt := (est_ev h).imp fun w _ _ hw => ⟨i, hw⟩
theorem est_end {i : Int} (h : Ev te σ H (.int i)) : Est te σ H IsEnd := (est_ev h).imp fun w _ _ hw => .inr ⟨i, hw⟩
theorem est_endN : Est (tC .non) σ H IsEnd := (est_ev ev_c).imp fun w _ _ hw => .inl hw
theorem est_endI (h : Est te σ H IsInt) : Est te σ H IsEnd := h.imp fun w _ _ ⟨i, e⟩ => .inr ⟨i, e⟩
/-- [a, b, ..][i] -/
theorem est_menu {ti : TE} {i : Int} (h : EstA tA σ H (AllZ Z n)) (pz : ∀ v, Pers (Z v)) (hi : Ev ti σ H (.int i)) (h0 : 0 ≤ i) (h1 : i < n) (hn : n ≤ 1000) : Est (tOp (rIxL K) (tLst tA) ti) σ H Z := fun H1 e Q q =>
  h H1 e _ fun vs H2 e2 ha => ⟨sz_of (by have := ha.1; omega), fun p hp => hi _ ((e.trans e2).trans (Ex.new hp)) _ fun H3 e3 => by
    have hlt : i.toNat < vs.length := by rw [ha.1]; omega
    refine ⟨p, vs, i, vs[i.toNat], rfl, rfl, sq_of (e3 p _ upd_same), ?_, q _ H3 ((e2.trans (Ex.new hp)).trans e3) (pz _ _ _ ((Ex.new hp).trans e3) (ha.2 _ (List.getElem_mem hlt)))⟩
    have z := atI_nat (xs := vs) (j := i.toNat) (List.getElem?_eq_getElem hlt)
    rwa [show ((i.toNat : Nat) : Int) = i by omega] at z⟩
end
end KB

/-! KR: rules of my own over the layer: tuple(reversed(range(n))). -/
namespace KR0
open PySem PySem.Spec PyProof.Rows
section
variable {prog : Program} {w : World} {A : Around} {E : Value → Shared → Prop} {s : Shared} {it : Addr} {lo c : Int} {n : Nat}
theorem hint_meets (it : Addr) (x left step : Int) :
    Meets (Builtin.«range_iterator.__length_hint__» ⟨[.ref it], []⟩) (fun _ R s => IsRangeIter s.heap it x left step ∧ R (.ok (.ret (.int left s.toks))) { s with toks := s.toks + 1 }) :=
  .of_wp fun prog w A R s h => by
    obtain ⟨hp, g, d, tk, os⟩ := s
    obtain ⟨hl, h⟩ := h
    wp_walk
    exact ⟨_, rfl, h⟩
theorem call_hint {x left step : Int} {Q : Value → Shared → Prop} (hit : IsRangeIter s.heap it x left step) (h : Q (.int left s.toks) { s with toks := s.toks + 1 }) : wpAny (model prog w) A (call (.builtin "range_iterator.__length_hint__") [.ref it]) Q E s :=
  call_meets F.slot_range_iterator_length_hint ⟨_, hit, rfl⟩ F.entry_range_iterator_length_hint (F.args_range_iterator_length_hint_1 _) (hint_meets it x left step) ⟨hit, h⟩
theorem collect_rit {Q : List Value → Shared → Prop} (hh : A.handled = none) (hit : IsRangeIter s.heap it lo (n : Int) c) (hn : n ≤ 100000)
    (hQ : ∀ (h' : Heap) (tk : Nat) (acc : Array Value), (∀ b o, b ≠ it → s.heap.get? b = some o → h'.get? b = some o) → ItemsOf (fun i v => ∃ t, v = .int (lo + i * c) t) acc n → Q acc.toList { s with heap := h', toks := tk }) :
    wpAny (model prog w) A (collect (.ref it)) Q E s := by
  have W := (Walks.range (prog := prog) (w := w) (A := A.in1) hh it lo c n).toS
  have hz : n ≤ sizeLine := by rw [sizeLine_eq]; omega
  refine wpAny_collect_iter_range W (fun i s' st => ⟨_, st, rfl⟩) (show IsRangeIter s.heap it (lo + ((0 : Nat) : Int) * c) ((n : Int) - ((0 : Nat) : Int)) c from ?_) (fun b hb => ?_) (by simp) (fun s1 Q' E' st hq => ?_) (fun s' acc hm ha => ?_) hz
  · rw [show lo + ((0 : Nat) : Int) * c = lo by simp, show (n : Int) - ((0 : Nat) : Int) = (n : Int) by simp]
    exact hit
  · have e : b = it := by simpa using hb
    rw [e]
    exact Heap.lt_size hit
  · refine call_hint st (hq _ _ _ (Nat.le_succ _) ?_)
    unfold Builtin.List.listTooLong
    rw [sizeLine_eq]
    exact decide_eq_false (by omega)
  · rw [Moved.eq_with hm]
    exact hQ s'.heap s'.toks acc (fun b o hb e => hm.heap b o (fun z => hb (by simpa using z)) e) ha
theorem code_tuple_rit {Q₁ : Value → Shared → Prop} (hh : A.handled = none) (hit : IsRangeIter s.heap it lo (n : Int) c) (hn : n ≤ 100000)
    (h : ∀ (h' : Heap) (tk : Nat) (acc : Array Value), (∀ b o, b ≠ it → s.heap.get? b = some o → h'.get? b = some o) → ItemsOf (fun i v => ∃ t, v = .int (lo + i * c) t) acc n →
      Q₁ (.ref h'.objs.size) { s with heap := h'.push { cls := .type "tuple", data := .seq acc }, toks := tk }) :
    codeAny (model prog w) A (.call (.builtin "tuple.__new__") ⟨[.type "tuple", .ref it], []⟩) (wants Q₁ E) s := by
  refine codeAny_of_tree ?_
  show wpAny _ A.in1 (do checkBuiltinCall "tuple.__new__" ⟨[.type "tuple", .ref it], []⟩; again (.builtin "tuple.__new__" ⟨[.type "tuple", .ref it], []⟩)) _ _ s
  refine wpAny_bind (wpAny_of_eq (F.newCall_tuple_1 _) (wpAny_pure ⟨plainId_quiet F.plain_tuple_new _, codeAny_builtin F.entry_tuple_new ?_⟩))
  rw [Around.under_plainId F.plain_tuple_new _]
  have hsub := sub_tuple_self
  have hinit := init_tuple_lookup
  have hmh := madeHere_tuple
  have hTI : s.TypeIs (.ref it) "range_iterator" := ⟨_, hit, rfl⟩
  have hh1 : A.in1.handled = none := hh
  wp_walk using wpAny_typeOf hTI, collect_rit (A := A.in1) hh1 hit hn
  intro h' tk acc hk hacc
  show wpAny _ _ (Builtin.Tuple.tupleExact acc.toList.toArray >>= fun v => ret v) _ _ _
  unfold Builtin.Tuple.tupleExact
  refine wpAny_bind (wpAny_newObj_type ?_ (by show acc.toList.toArray.size ≤ sizeLine; simp only [Array.toArray_toList]; rw [hacc.1, sizeLine_eq]; omega))
  refine wpAny_pure ?_
  have e : acc.toList.toArray = acc := by simp
  rw [e]
  exact h h' tk acc hk hacc
theorem call_tuple_rit {Q : Value → Shared → Prop} (hh : A.handled = none) (hit : IsRangeIter s.heap it lo (n : Int) c) (hn : n ≤ 100000)
    (hQ : ∀ (h' : Heap) (tk : Nat) (acc : Array Value), (∀ b o, b ≠ it → s.heap.get? b = some o → h'.get? b = some o) → ItemsOf (fun i v => ∃ t, v = .int (lo + i * c) t) acc n →
      Q (.ref h'.objs.size) { s with heap := h'.push { cls := .type "tuple", data := .seq acc }, toks := tk }) :
    wpAny (model prog w) A (call (.type "tuple") [.ref it]) Q E s := by
  refine callType_codes (Q₁ := fun obj s₁ => s₁.TypeIs obj "tuple" ∧ Q obj s₁) F.called_tuple (F.typeCall_tuple_1 _) F.entry_object_init
    (code_tuple_rit (A := A.in1) hh hit hn fun h' tk acc hk hacc => ⟨⟨_, Heap.get?_push_size _ rfl, rfl⟩, hQ h' tk acc hk hacc⟩) fun obj s₁ h₁ => ?_
  exact ⟨h₁.1, F.args_object_init_2 obj _, object_init_meets F.called_tuple.init.lookup F.called_tuple.made (by decide) prog w A.in1 _ s₁ ⟨h₁.1, rfl, h₁.2⟩⟩
end
end KR0
namespace KB
open PySem PySem.Spec PyProof.Rows L2 Evl
/-- b - 1 .. a -/
def rgDown (a b : Int) : List Int := (List.range (b - a).toNat).map fun i => b - 1 - (i : Nat)
def tTupRev (te : L2.St → Hp → (Int → Int → Hp → Prop) → Prop) : TE := fun σ H Q => te σ H fun a b H1 => a ≤ b ∧ -1000 ≤ a ∧ b ≤ 1000 ∧ ∀ q, H1 q = none → Q (.ref q) (upd H1 q (.tup ((rgDown a b).map V.int)))
theorem pe_tupRev {X : Cx} {e : Expr} {te : L2.St → Hp → (Int → Int → Hp → Prop) → Prop} {p p2 pos pos2 : Pos} (hc : X.calm = true) (hg : Gl X "tuple") (hm : X.mg "tuple" = none) (hg2 : Gl X "reversed") (hm2 : X.mg "reversed" = none) (he : PRg X e te)
    (na : starEach [e] X.env = (false, eval e X.env) :: starEach [] X.env := by rfl)
    (nb : starEach [.Call (.Name "reversed" p2) [e] [] pos2] X.env = (false, eval (.Call (.Name "reversed" p2) [e] [] pos2) X.env) :: starEach [] X.env := by rfl) :
    PE X (.Call (.Name "tuple" p) [.Call (.Name "reversed" p2) [e] [] pos2] [] pos) (tTupRev te) := by
  refine ⟨fun pins s σ H Q I h => ?_⟩
  refine Call_ (ld_blt I hg hm boot_tuple (PyProof.Rows.callWith_type1 (args_cons ?_ nb) nb))
  refine Call_ (ld_blt I hg2 hm2 PyProof.Rows.boot_reversed (PyProof.Rows.callWith_type1 (args_cons (thn (he pins s σ H _ I h) fun u s1 hx => args_nil ?_) na) na rfl))
  obtain ⟨r, a, b, t, w1, v, H1, eu, hr, I1, hab, b1, b2, q⟩ := hx
  subst eu
  have hn : Builtin.Range.rangeSize a b 1 = (((b - a).toNat : Nat) : Int) := rangeSize_nat a b
  refine call_reversed_range hr (smallRev_one (by omega) (by omega) (by omega) (by omega)) ?_
  refine args_nil ?_
  have I2 : Inv X pins σ H1 { s1 with heap := s1.heap.push (rngRevObj a b 1) } := I1.kept (t' := s1.toks) fun b o e => Heap.get?_push_of_some _ e
  have hit : IsRangeIter (s1.heap.push (rngRevObj a b 1)) s1.heap.objs.size (b - 1) (((b - a).toNat : Nat) : Int) (-1) := by
    have e0 := Heap.get?_push_size s1.heap (o := rngRevObj a b 1) rfl
    have e1 : rngRevObj a b 1 = { cls := .type "range_iterator", dict := none, data := .fields #[rawInt (b - 1), rawInt (((b - a).toNat : Nat) : Int), rawInt (-1)], slots := #[] } := by
      unfold rngRevObj
      rw [hn, show a + ((((b - a).toNat : Nat) : Int) - 1) * 1 = b - 1 by omega]
    rw [e1] at e0
    rw [e1]
    exact e0
  refine KR0.call_tuple_rit (n := (b - a).toNat) (I.ok.hd hc) hit (by omega) fun h' tk acc hk hacc => ?_
  have hn1 : H1 s1.heap.objs.size = none := I1.hok.fresh (Nat.le_refl _)
  obtain ⟨g0, g1, g2, g3, g4, g5⟩ := I1.fpOk (Nat.le_refl _) hn1
  have I3 : Inv X pins σ H1 { s1 with heap := h', toks := tk } := I2.turned (t' := tk) hk g0 g1 g3 g4 g5
  have hv : Vals ((rgDown a b).map V.int) acc.toList := by
    unfold rgDown
    rw [List.map_map]
    have e : acc.toList.length = (b - a).toNat := by rw [Array.length_toList]; exact hacc.1
    rw [← e]
    refine vals_of_get acc.toList _ fun j u hj => ?_
    obtain ⟨t, rfl⟩ := hacc.2 j u (by rw [← hj, Array.getElem?_toList])
    exact ⟨t, by show Value.int (b - 1 + (j : Int) * (-1)) t = Value.int (b - 1 - (j : Int)) t; rw [show b - 1 + (j : Int) * (-1) = b - 1 - (j : Int) by omega]⟩
  refine ⟨.ref h'.objs.size, upd H1 h'.objs.size (.tup ((rgDown a b).map V.int)), I3.laid (t' := tk) (fun c o e => Heap.get?_push_of_some _ e) (Nat.le_refl _) (show ObjOk X.prog X.w _ _ _ (.tup ((rgDown a b).map V.int)) from ⟨?_, acc.toList, hv, ?_⟩), rfl, q _ (I3.hok.fresh (Nat.le_refl _))⟩
  · rw [hv.length, Array.length_toList, hacc.1, sizeLine_eq]; omega
  · rw [Array.toArray_toList]; exact IsTup.new _ _
end KB

/-! KV3: list comprehensions whose items are all of one kind; statements in several ways. -/
namespace KB
open PySem PySem.Spec PyProof.Rows L2 Evl
/-- a kind that a list which changes doesn't touch -/
def StL (Z : V → Hp → Prop) : Prop := ∀ v H D a b, H D = some (.lst a) → Z v H → Z v (upd H D (.lst b))
theorem StL.int : StL IsInt := fun _ _ _ _ _ _ h => h
theorem StL.pair : StL IsPair := fun v H D a b hd ⟨p, x, y, e, hp⟩ => ⟨p, x, y, e, by
  rw [upd_ne]
  · exact hp
  · rintro rfl
    rw [hd] at hp
    cases hp⟩
theorem AllZ.stl {Z : V → Hp → Prop} (s : StL Z) {n : Nat} {vs : List V} {H : Hp} {D : Addr} {a b : List V} (hd : H D = some (.lst a)) (h : AllZ Z n vs H) : AllZ Z n vs (upd H D (.lst b)) := ⟨h.1, fun v hv => s v H D a b hd (h.2 v hv)⟩
theorem AllZ.snoc {Z : V → Hp → Prop} {n : Nat} {vs : List V} {v : V} {H : Hp} (h : AllZ Z n vs H) (hv : Z v H) : AllZ Z (n + 1) (vs ++ [v]) H := ⟨by rw [List.length_append, h.1]; rfl, fun w hw => by
  rcases List.mem_append.mp hw with q | q
  · exact h.2 w q
  · rw [List.mem_singleton.mp q]; exact hv⟩
section
variable {K : PySem.W.Frag} {σ : L2.St} {H H' : Hp} {te tl : TE} {ta : TA} {Z : V → Hp → Prop} {j : Nat} {vs : List Nat}
theorem est_lcR {n : Int} (h : EvA ta σ H [.int n]) (hn : 0 ≤ n ∧ n ≤ 1000) (hw : ∀ x, wipe ((wipe σ vs).set j (some x)) vs = wipe σ vs)
    (he : ∀ (i : Nat) H1, Ex H H1 → (i : Int) < n → Est te ((wipe σ vs).set j (some (.int (i : Int)))) H1 Z) (pz : ∀ v, Pers (Z v)) (sz : StL Z) :
    Est (tLc (iRng1 ta) (gName j) tYes te vs) σ H (fun v H' => ∃ p xs, v = .ref p ∧ H' p = some (.lst xs) ∧ AllZ Z n.toNat xs H') := fun H0 e Q q => h H0 e _ fun H1 e1 => ⟨n, rfl, by omega, by omega, fun Dl hD =>
  lc_range (lo := 0) (n := n.toNat) (fun i H' => Ex H1 H' ∧ ∃ acc, H' Dl = some (.lst acc) ∧ AllZ Z i acc H') ⟨Ex.new hD, [], upd_same, rfl, fun v hv => absurd hv (by simp)⟩ (fun i H' hi ⟨p1, acc, p2, p3⟩ => by
    have e0 : (0 : Int) + (i : Int) = (i : Int) := Int.zero_add _
    show wipe ((wipe σ vs).set j (some (.int ((0 : Int) + (i : Int))))) vs = wipe σ vs ∧ te ((wipe σ vs).set j (some (.int ((0 : Int) + (i : Int))))) H' fun y H4 => ∃ acc, H4 Dl = some (.lst acc) ∧ acc.length < sizeLine ∧ _
    rw [e0]
    refine ⟨hw _, he i H' ((e.trans e1).trans p1) (by omega) H' (Ex.refl H') _ fun y H4 e4 hy => ⟨acc, e4 _ _ p2, sz_lt (by rw [p3.1]; omega), Ex.mut (p1.trans e4) hD, acc ++ [y], upd_same, ?_⟩⟩
    exact AllZ.stl sz (e4 _ _ p2) ((AllZ.pers pz _ _ _ e4 p3).snoc hy)) (fun H' ⟨p1, acc, p2, p3⟩ => q _ H' (e1.trans p1) ⟨Dl, acc, rfl, p2, p3⟩)⟩
/-- over a tuple -/
theorem est_lcT {a : Addr} {xs : List V} (h : Ev tl σ H (.ref a)) (hx : SqT K H a xs) (hz : xs.length ≤ 1000) (hw : ∀ x, wipe ((wipe σ vs).set j (some x)) vs = wipe σ vs)
    (he : ∀ (i : Nat) (x : V) H1, Ex H H1 → xs[i]? = some x → Est te ((wipe σ vs).set j (some x)) H1 Z) (pz : ∀ v, Pers (Z v)) (sz : StL Z) :
    Est (tLc (iTup K tl) (gName j) tYes te vs) σ H (fun v H' => ∃ p ys, v = .ref p ∧ H' p = some (.lst ys) ∧ AllZ Z xs.length ys H') := fun H0 e Q q => h H0 e _ fun H1 e1 => ⟨a, rfl, ⟨xs, ex_t (e.trans e1) hx⟩, fun Dl hD =>
  lc_tup (xs := xs) (fun i H' => Ex H1 H' ∧ ∃ acc, H' Dl = some (.lst acc) ∧ AllZ Z i acc H') ⟨Ex.new hD, [], upd_same, rfl, fun v hv => absurd hv (by simp)⟩ (fun i H' _ p => ex_t ((e.trans e1).trans p.1) hx) (fun i x H' hi ⟨p1, acc, p2, p3⟩ => by
    refine ⟨hw _, he i x H' ((e.trans e1).trans p1) hi H' (Ex.refl H') _ fun y H4 e4 hy => ⟨acc, e4 _ _ p2, sz_lt (by have := (List.getElem?_eq_some_iff.mp hi).1; rw [p3.1]; omega), Ex.mut (p1.trans e4) hD, acc ++ [y], upd_same, ?_⟩⟩
    exact AllZ.stl sz (e4 _ _ p2) ((AllZ.pers pz _ _ _ e4 p3).snoc hy)) (fun H' ⟨p1, acc, p2, p3⟩ => q _ H' (e1.trans p1) ⟨Dl, acc, rfl, p2, p3⟩)⟩
/-- tuple(..) of a new list -/
def rTup (K : PySem.W.Frag) : List V → Hp → VK → Prop := fun xs H Q => ∃ p ys, xs = [.ref p] ∧ ((SqL K H p ys ∧ ∀ l, H l = none → Q (.ref l) (upd H l (.tup ys))) ∨ (SqT K H p ys ∧ Q (.ref p) H))
theorem est_tupOf {R : V → Hp → Prop} {S : List V → Hp → Prop} (h : Est te σ H (fun v H' => ∃ p xs, v = .ref p ∧ H' p = some (.lst xs) ∧ S xs H')) (pp : ∀ xs, Pers (S xs)) (k : ∀ p xs H', H' p = some (.tup xs) → S xs H' → R (.ref p) H') : Est (tCB (rTup K) (tCons te tNil)) σ H R := fun H1 e Q q =>
  h H1 e _ fun v H2 e2 ⟨p, xs, ev, hp, hs⟩ => ⟨p, xs, by rw [ev], .inl ⟨sq_of hp, fun l hl => q _ _ (e2.trans (Ex.new hl)) (k l xs _ upd_same (pp xs _ _ (Ex.new hl) hs))⟩⟩
/-! statements -/
theorem at_next {f : L2.St → Hp → Prop} {r : V → Hp → Prop} (h : f σ H) : tNext { nx := f, rt := r } σ H := h
theorem w_asg1 {i : Nat} {te : TE} {P : V → Hp → Prop} {D : Ends} (h : Est te σ H P) (k : ∀ v H1, Ex H H1 → P v H1 → D.nx (σ.set i (some v)) H1) : tAsg te (gName i) D σ H := h H (Ex.refl H) _ fun v H1 e p => k v H1 e p
/-- behind a statement that ends in several ways, what stands in each -/
theorem w_join {ts tz : TS} {D : Ends} (J : L2.St → Hp → Prop) (h : ∀ N : L2.St → Hp → Prop, (∀ σ' H', J σ' H' → N σ' H') → ts { D with nx := N } σ H) (k : ∀ σ' H', J σ' H' → tz D σ' H') : tSeq ts tz D σ H := h _ k
theorem est_rev {i : Nat} {n : Int} (hv : σ[i]? = some (some (.int n))) (h0 : 0 ≤ n) (h1 : n ≤ 1000) (l : (rgDown 0 n).length ≤ 1000 := by (unfold rgDown; rw [List.length_map, List.length_range]; omega)) : Est (tTupRev (tRg1 (tVar i))) σ H IsCols := fun H1 e Q q =>
  ⟨.int n, hv, n, rfl, h0, by omega, h1, fun p hp => q _ _ (Ex.new hp) ⟨p, rgDown 0 n, rfl, upd_same, l⟩⟩
theorem est_rg {t : TE} {n : Int} (hv : Ev t σ H (.int n)) (h0 : 0 ≤ n) (h1 : n ≤ 1000) : Est (tTupRg (tRg1 t)) σ H IsCols := fun H1 e Q q =>
  hv H1 e _ fun H2 e2 => ⟨n, rfl, RgOk.of_le (by omega) (by omega) (by omega) h0, fun p hp => q _ _ (e2.trans (Ex.new hp)) ⟨p, (List.range (n - 0).toNat).map (fun (i : Nat) => (0 : Int) + (i : Int)), rfl, by
    rw [upd_same, List.map_map]
    rfl, by rw [List.length_map, List.length_range]; omega⟩⟩
theorem ev_min2 {ta tb : TE} {i j : Int} (ha : Ev ta σ H (.int i)) (hb : Ev tb σ H (.int j)) : Ev (tCB (fun xs H Q => ∃ i j, xs = [.int i, .int j] ∧ Q (.int (if j < i then j else i)) H) (tCons ta (tCons tb tNil))) σ H (.int (if j < i then j else i)) := fun H1 e Q q =>
  ha H1 e _ fun H2 e2 => hb H2 (e.trans e2) _ fun H3 e3 => ⟨i, j, rfl, q H3 (e2.trans e3)⟩
end
end KB

/-! KQ: views as data: == of two views tells that their widths are the same. -/
namespace KB
open PySem PySem.Spec PyProof.Rows L2 Evl
def endD : V → PyData
  | .int i => .int i
  | _ => .none
def colsD (cs : List Int) : PyData := .tuple (cs.map PyData.int)
def pairsD (ps : List (Int × Int)) : PyData := .tuple (ps.map fun p => .tuple [.int p.1, .int p.2])
def dataV : View → PyData
  | .table t => .tuple [.str "table", .int t]
  | .within v c lo hi => .tuple [.str "within", dataV v, .int c, endD lo, endD hi]
  | .columns v cs => .tuple [.str "columns", dataV v, colsD cs]
  | .both v w => .tuple [.str "both", dataV v, dataV w]
  | .less v w => .tuple [.str "less", dataV v, dataV w]
  | .meet v w ps => .tuple [.str "meet", dataV v, dataV w, pairsD ps]
  | .once v => .tuple [.str "once", dataV v]
  | .sums v ks c => .tuple [.str "sums", dataV v, colsD ks, .int c]
  | .reach v => .tuple [.str "reach", dataV v]
  | .odd o v w => .tuple [.str o, dataV v, dataV w]
section
variable {K : PySem.W.Frag} {H : Hp}
theorem dp_end {x : V} (h : EndV x) : Dp K H x (endD x) := by
  rcases h with rfl | ⟨i, rfl⟩
  · exact .non
  · exact .int i
theorem dp_is : ∀ cs : List Int, DpAll K H (cs.map V.int) (cs.map PyData.int)
  | [] => .nil
  | c :: r => .cons (.int c) (dp_is r)
theorem dp_cols {q : Addr} {cs : List Int} (h : H q = some (.tup (cs.map V.int))) : Dp K H (.ref q) (colsD cs) := .tup (st_of h) (dp_is cs)
theorem dp_prs : ∀ {rs : List Addr} {ps : List (Int × Int)}, Paired (fun (r : Addr) (p : Int × Int) => H r = some (.tup [.int p.1, .int p.2])) rs ps → DpAll K H (rs.map V.ref) (ps.map fun p => .tuple [.int p.1, .int p.2])
  | _, _, .nil => .nil
  | _, _, .cons h t => .cons (.tup (st_of h) (.cons (.int _) (.cons (.int _) .nil))) (dp_prs t)
theorem dp_view : ∀ (v : View) (x : V), VAt H v x → Dp K H x (dataV v)
  | .table t, x, ⟨p, a, b⟩ => a ▸ .tup (st_of b) (.cons (.str _) (.cons (.int t) .nil))
  | .within v c lo hi, x, ⟨p, y, a, b, hv, e1, e2⟩ => a ▸ .tup (st_of b) (.cons (.str _) (.cons (dp_view v y hv) (.cons (.int c) (.cons (dp_end e1) (.cons (dp_end e2) .nil)))))
  | .columns v cs, x, ⟨p, y, q, a, b, hv, hq⟩ => a ▸ .tup (st_of b) (.cons (.str _) (.cons (dp_view v y hv) (.cons (dp_cols hq) .nil)))
  | .both v w, x, ⟨p, y, z, a, b, hv, hw⟩ => a ▸ .tup (st_of b) (.cons (.str _) (.cons (dp_view v y hv) (.cons (dp_view w z hw) .nil)))
  | .less v w, x, ⟨p, y, z, a, b, hv, hw⟩ => a ▸ .tup (st_of b) (.cons (.str _) (.cons (dp_view v y hv) (.cons (dp_view w z hw) .nil)))
  | .meet v w ps, x, ⟨p, y, z, q, a, b, hv, hw, rs, hq, hr⟩ => a ▸ .tup (st_of b) (.cons (.str _) (.cons (dp_view v y hv) (.cons (dp_view w z hw) (.cons (.tup (st_of hq) (dp_prs hr)) .nil))))
  | .once v, x, ⟨p, y, a, b, hv⟩ => a ▸ .tup (st_of b) (.cons (.str _) (.cons (dp_view v y hv) .nil))
  | .sums v ks c, x, ⟨p, y, q, a, b, hv, hq⟩ => a ▸ .tup (st_of b) (.cons (.str _) (.cons (dp_view v y hv) (.cons (dp_cols hq) (.cons (.int c) .nil))))
  | .reach v, x, ⟨p, y, a, b, hv⟩ => a ▸ .tup (st_of b) (.cons (.str _) (.cons (dp_view v y hv) .nil))
  | .odd o v w, x, ⟨p, y, z, a, b, hv, hw, _⟩ => a ▸ .tup (st_of b) (.cons (.str _) (.cons (dp_view v y hv) (.cons (dp_view w z hw) .nil)))
end
/-- its odd words are of the four -/
def Fine : View → Prop
  | .table _ => True
  | .within v _ _ _ | .columns v _ | .once v | .sums v _ _ | .reach v => Fine v
  | .both v w | .less v w | .meet v w _ => Fine v ∧ Fine w
  | .odd o v w => o ∈ four ∧ Fine v ∧ Fine w
theorem fine_of {H : Hp} : ∀ (v : View) (x : V), VAt H v x → Fine v
  | .table t, x, _ => trivial
  | .within v c lo hi, x, ⟨p, y, a, b, hv, e1, e2⟩ => fine_of v y hv
  | .columns v cs, x, ⟨p, y, q, a, b, hv, hq⟩ => fine_of v y hv
  | .both v w, x, ⟨p, y, z, a, b, hv, hw⟩ => ⟨fine_of v y hv, fine_of w z hw⟩
  | .less v w, x, ⟨p, y, z, a, b, hv, hw⟩ => ⟨fine_of v y hv, fine_of w z hw⟩
  | .meet v w ps, x, ⟨p, y, z, q, a, b, hv, hw, _⟩ => ⟨fine_of v y hv, fine_of w z hw⟩
  | .once v, x, ⟨p, y, a, b, hv⟩ => fine_of v y hv
  | .sums v ks c, x, ⟨p, y, q, a, b, hv, hq⟩ => fine_of v y hv
  | .reach v, x, ⟨p, y, a, b, hv⟩ => fine_of v y hv
  | .odd o v w, x, ⟨p, y, z, a, b, hv, hw, h⟩ => ⟨h, fine_of v y hv, fine_of w z hw⟩
theorem words_ok : ∀ o ∈ nine ++ four, PyData.strOk o = true := by decide +kernel
theorem lay_is : ∀ cs : List Int, PyData.canLayAll0 (cs.map PyData.int) = true
  | [] => rfl
  | c :: r => by
    show (true && PyData.canLayAll0 (r.map PyData.int)) = true
    rw [lay_is r]
    rfl
theorem lay_prs : ∀ ps : List (Int × Int), PyData.canLayAll0 (ps.map fun p => PyData.tuple [.int p.1, .int p.2]) = true
  | [] => rfl
  | c :: r => by
    show (true && PyData.canLayAll0 (r.map fun p => PyData.tuple [.int p.1, .int p.2])) = true
    rw [lay_prs r]
    rfl
theorem lay_end (x : V) : PyData.canLay0 (endD x) = true := by cases x <;> rfl
theorem lay_view : ∀ v : View, Fine v → PyData.canLay0 (dataV v) = true
  | .table t, _ => by simp [dataV, PyData.canLay0, PyData.canLayAll0, words_ok "table" (by decide)]
  | .within v c lo hi, h => by simp [dataV, PyData.canLay0, PyData.canLayAll0, words_ok "within" (by decide), lay_view v h, lay_end]
  | .columns v cs, h => by simp [dataV, colsD, PyData.canLay0, PyData.canLayAll0, words_ok "columns" (by decide), lay_view v h, lay_is]
  | .both v w, h => by simp [dataV, PyData.canLay0, PyData.canLayAll0, words_ok "both" (by decide), lay_view v h.1, lay_view w h.2]
  | .less v w, h => by simp [dataV, PyData.canLay0, PyData.canLayAll0, words_ok "less" (by decide), lay_view v h.1, lay_view w h.2]
  | .meet v w ps, h => by simp [dataV, pairsD, PyData.canLay0, PyData.canLayAll0, words_ok "meet" (by decide), lay_view v h.1, lay_view w h.2, lay_prs]
  | .once v, h => by simp [dataV, PyData.canLay0, PyData.canLayAll0, words_ok "once" (by decide), lay_view v h]
  | .sums v ks c, h => by simp [dataV, colsD, PyData.canLay0, PyData.canLayAll0, words_ok "sums" (by decide), lay_view v h, lay_is]
  | .reach v, h => by simp [dataV, PyData.canLay0, PyData.canLayAll0, words_ok "reach" (by decide), lay_view v h]
  | .odd o v w, h => by simp [dataV, PyData.canLay0, PyData.canLayAll0, words_ok o (List.mem_append_right _ h.1), lay_view v h.2.1, lay_view w h.2.2]
theorem dep_is : ∀ cs : List Int, PyData.depthAll (cs.map PyData.int) = 0
  | [] => rfl
  | c :: r => by
    show max 0 (PyData.depthAll (r.map PyData.int)) = 0
    rw [dep_is r]
    rfl
theorem dep_prs : ∀ ps : List (Int × Int), PyData.depthAll (ps.map fun p => PyData.tuple [.int p.1, .int p.2]) ≤ 1
  | [] => Nat.zero_le _
  | c :: r => by
    show max 1 (PyData.depthAll (r.map fun p => PyData.tuple [.int p.1, .int p.2])) ≤ 1
    have := dep_prs r
    omega
theorem dep_end (x : V) : PyData.depth (endD x) = 0 := by cases x <;> rfl
theorem dep_view : ∀ (n : Nat) (v : View), VOk n v → PyData.depth (dataV v) ≤ n + 2
  | 0, _, h => h.elim
  | n + 1, .table t, _ => by simp [dataV, PyData.depth, PyData.depthAll]
  | n + 1, .within v c lo hi, h => by have := dep_view n v h; simp [dataV, PyData.depth, PyData.depthAll, dep_end]; omega
  | n + 1, .columns v cs, h => by have := dep_view n v h.1; simp [dataV, colsD, PyData.depth, PyData.depthAll, dep_is]; omega
  | n + 1, .both v w, h => by have := dep_view n v h.1; have := dep_view n w h.2; simp [dataV, PyData.depth, PyData.depthAll]; omega
  | n + 1, .less v w, h => by have := dep_view n v h.1; have := dep_view n w h.2; simp [dataV, PyData.depth, PyData.depthAll]; omega
  | n + 1, .meet v w ps, h => by have := dep_view n v h.1; have := dep_view n w h.2.1; have := dep_prs ps; simp [dataV, pairsD, PyData.depth, PyData.depthAll]; omega
  | n + 1, .once v, h => by have := dep_view n v h; simp [dataV, PyData.depth, PyData.depthAll]; omega
  | n + 1, .sums v ks c, h => by have := dep_view n v h.1; simp [dataV, colsD, PyData.depth, PyData.depthAll, dep_is]; omega
  | n + 1, .reach v, h => by have := dep_view n v h; simp [dataV, PyData.depth, PyData.depthAll]; omega
  | n + 1, .odd o v w, h => by have := dep_view n v h.1; have := dep_view n w h.2; simp [dataV, PyData.depth, PyData.depthAll]; omega
theorem shaped_view {n : Nat} {v : View} (h : VOk n v) (hn : n ≤ 40) (f : Fine v) : SeqAt.shaped (dataV v) = true := by
  unfold SeqAt.shaped
  rw [lay_view v f, Bool.true_and]
  exact decide_eq_true (by have := dep_view n v h; omega)
def word : View → Str
  | .table _ => "table" | .within .. => "within" | .columns .. => "columns" | .both .. => "both" | .less .. => "less" | .meet .. => "meet" | .once _ => "once" | .sums .. => "sums" | .reach _ => "reach" | .odd o _ _ => o
def isNine : View → Bool
  | .odd .. => false
  | _ => true
theorem word_nine (v : View) (h : isNine v = true) : word v ∈ nine := by
  cases v <;> first | (simp only [word]; decide) | cases h
theorem eqv_head {a b : Str} {r q : List PyData} (h : PyData.eqv (.tuple (.str a :: r)) (.tuple (.str b :: q)) = true) : a = b ∧ PyData.eqvAll r q = true := by
  simp only [PyData.eqv, PyData.eqvAll, Bool.and_eq_true, beq_iff_eq] at h
  exact h
theorem eqv_is : ∀ ns ms : List Int, PyData.eqvAll (ns.map PyData.int) (ms.map PyData.int) = true → ns = ms
  | [], [], _ => rfl
  | [], _ :: _, h => by simp [PyData.eqvAll] at h
  | _ :: _, [], h => by simp [PyData.eqvAll] at h
  | n :: r, m :: q, h => by
    simp only [List.map_cons, PyData.eqvAll, PyData.eqv, Bool.and_eq_true, beq_iff_eq] at h
    rw [h.1, eqv_is r q h.2]
theorem eqv_prs : ∀ ns ms : List (Int × Int), PyData.eqvAll (ns.map fun p => PyData.tuple [.int p.1, .int p.2]) (ms.map fun p => PyData.tuple [.int p.1, .int p.2]) = true → ns = ms
  | [], [], _ => rfl
  | [], _ :: _, h => by simp [PyData.eqvAll] at h
  | _ :: _, [], h => by simp [PyData.eqvAll] at h
  | n :: r, m :: q, h => by
    simp only [List.map_cons, PyData.eqvAll, PyData.eqv, Bool.and_eq_true, beq_iff_eq, and_true] at h
    rw [eqv_prs r q h.2, show n = m from Prod.ext h.1.1 h.1.2]
theorem head_view (v : View) : ∃ r, dataV v = .tuple (.str (word v) :: r) := by cases v <;> exact ⟨_, rfl⟩
theorem eqv_word {v v' : View} (h : PyData.eqv (dataV v) (dataV v') = true) : word v = word v' := by
  obtain ⟨r, e⟩ := head_view v
  obtain ⟨q, e'⟩ := head_view v'
  rw [e, e'] at h
  exact (eqv_head h).1
theorem no_four {v v' : View} (h : word v = word v') (h1 : word v ∈ nine) (h2 : word v' ∈ four) : False := four_nine h2 (h ▸ h1)
/-- equal views are of the same width -/
theorem same_width (ws : List Int) : ∀ (v v' : View), Fine v → Fine v' → PyData.eqv (dataV v) (dataV v') = true → widthOf ws v = widthOf ws v' := by
  intro v
  induction v with
  | table t =>
    intro v' f f' h
    have hw := eqv_word h
    cases v' <;> first | exact absurd hw (by simp only [word]; decide) | skip
    · simp [dataV, PyData.eqv, PyData.eqvAll] at h
      rw [h]
    · exact (no_four hw (word_nine _ rfl) f'.1).elim
  | within v c lo hi ih =>
    intro v' f f' h
    have hw := eqv_word h
    cases v' <;> first | exact absurd hw (by simp only [word]; decide) | skip
    · simp only [dataV, PyData.eqv, PyData.eqvAll, Bool.and_eq_true, beq_iff_eq] at h
      simp only [widthOf, ih _ f (by exact f') h.2.1, h.2.2.1]
    · exact (no_four hw (word_nine _ rfl) f'.1).elim
  | columns v cs ih =>
    intro v' f f' h
    have hw := eqv_word h
    cases v' <;> first | exact absurd hw (by simp only [word]; decide) | skip
    · simp only [dataV, colsD, PyData.eqv, PyData.eqvAll, Bool.and_eq_true, beq_iff_eq] at h
      simp only [widthOf, ih _ f (by exact f') h.2.1, eqv_is _ _ h.2.2.1]
    · exact (no_four hw (word_nine _ rfl) f'.1).elim
  | both v w i1 i2 =>
    intro v' f f' h
    have hw := eqv_word h
    cases v' <;> first | exact absurd hw (by simp only [word]; decide) | skip
    · simp only [dataV, PyData.eqv, PyData.eqvAll, Bool.and_eq_true, beq_iff_eq] at h
      simp only [widthOf, i1 _ f.1 f'.1 h.2.1, i2 _ f.2 f'.2 h.2.2.1]
    · exact (no_four hw (word_nine _ rfl) f'.1).elim
  | less v w i1 i2 =>
    intro v' f f' h
    have hw := eqv_word h
    cases v' <;> first | exact absurd hw (by simp only [word]; decide) | skip
    · simp only [dataV, PyData.eqv, PyData.eqvAll, Bool.and_eq_true, beq_iff_eq] at h
      simp only [widthOf, i1 _ f.1 f'.1 h.2.1, i2 _ f.2 f'.2 h.2.2.1]
    · exact (no_four hw (word_nine _ rfl) f'.1).elim
  | meet v w ps i1 i2 =>
    intro v' f f' h
    have hw := eqv_word h
    cases v' <;> first | exact absurd hw (by simp only [word]; decide) | skip
    · simp only [dataV, pairsD, PyData.eqv, PyData.eqvAll, Bool.and_eq_true, beq_iff_eq] at h
      simp only [widthOf, i1 _ f.1 f'.1 h.2.1, i2 _ f.2 f'.2 h.2.2.1, eqv_prs _ _ h.2.2.2.1]
    · exact (no_four hw (word_nine _ rfl) f'.1).elim
  | once v ih =>
    intro v' f f' h
    have hw := eqv_word h
    cases v' <;> first | exact absurd hw (by simp only [word]; decide) | skip
    · simp only [dataV, PyData.eqv, PyData.eqvAll, Bool.and_eq_true, beq_iff_eq] at h
      simp only [widthOf, ih _ f (by exact f') h.2.1]
    · exact (no_four hw (word_nine _ rfl) f'.1).elim
  | sums v ks c ih =>
    intro v' f f' h
    have hw := eqv_word h
    cases v' <;> first | exact absurd hw (by simp only [word]; decide) | skip
    · simp only [dataV, colsD, PyData.eqv, PyData.eqvAll, Bool.and_eq_true, beq_iff_eq] at h
      simp only [widthOf, ih _ f (by exact f') h.2.1, eqv_is _ _ h.2.2.1, h.2.2.2.1]
    · exact (no_four hw (word_nine _ rfl) f'.1).elim
  | reach v ih =>
    intro v' f f' h
    have hw := eqv_word h
    cases v' <;> first | exact absurd hw (by simp only [word]; decide) | skip
    · simp only [dataV, PyData.eqv, PyData.eqvAll, Bool.and_eq_true, beq_iff_eq] at h
      simp only [widthOf, ih _ f (by exact f') h.2.1]
    · exact (no_four hw (word_nine _ rfl) f'.1).elim
  | odd o v w _ _ =>
    intro v' f f' h
    have hw := eqv_word h
    cases v' <;> first | rfl | exact (no_four hw.symm (word_nine _ rfl) f.1).elim
end KB

/-! KM: match over tuples that begin with a text. -/
namespace KM
open PySem PySem.Spec PyProof.Rows L2
section
variable {X : Cx} {pins : List (Addr × Obj)} {σ : L2.St} {H : Hp} {s : Shared}
/-- a pattern over a text: whether it fits -/
def PPat (X : Cx) (p : Pattern) (q : Str → Bool) : Prop := ∀ (s : Shared) (z : Str) (t : Tok) (Q : Option (List (Str × Value)) → Shared → Prop),
  (∀ k, Q (if q z = true then some [] else none) { s with toks := k }) → wpAny (model X.prog X.w) X.A (matchPattern p X.env (.str z t)) Q X.xe s
theorem str_eq {a b : Str} : (a.cps.toList == b.cps.toList) = decide (a = b) := by
  by_cases h : a = b
  · subst h; simp
  · have : ¬ a.cps.toList = b.cps.toList := fun e => h (by
      cases a; cases b
      simp only [Str.mk.injEq]
      exact Array.toList_inj.mp e)
    rw [decide_eq_false h]
    simpa using this
theorem pp_str {k : Str} {j : Nat} {p1 p2 : Pos} : PPat X (.MatchValue (.Constant (.str k) j p1) p2) (fun z => decide (z = k)) := by
  intro s z t Q h
  refine wpAny_matchPattern_Value ?_
  refine Calls.Constant_str ?_
  refine PySem.P.eq_str ?_
  refine wpAny_truthy_bool ?_
  rw [str_eq]
  by_cases e : z = k
  · have h2 := h (s.toks + 1)
    simp only [e, decide_true, if_true] at h2 ⊢
    exact h2
  · have h2 := h (s.toks + 1)
    simp only [e, decide_false, Bool.false_eq_true, if_false] at h2 ⊢
    exact h2
theorem pp_or2 {p1 p2 : Pattern} {q1 q2 : Str → Bool} {pos : Pos} (h1 : PPat X p1 q1) (h2 : PPat X p2 q2) (hn : p1.names = [] := by rfl) : PPat X (.MatchOr [p1, p2] pos) (fun z => q1 z || q2 z) := by
  intro s z t Q h
  refine wpAny_matchPattern_Or ?_
  refine wpAny_matchFirst_cons (h1 s z t _ fun k => ?_)
  have en : namesOfAll ([p1, p2].take 1) = [] := by
    show namesOfAll [p1] = []
    simp [namesOfAll, hn]
  by_cases e1 : q1 z = true
  · rw [if_pos e1]
    have := h k
    simp only [e1, Bool.true_or, if_true] at this
    simp only [en, List.filterMap_nil]
    exact this
  · rw [if_neg e1]
    refine wpAny_matchFirst_cons (h2 _ z t _ fun k2 => ?_)
    have := h k2
    by_cases e2 : q2 z = true
    · rw [if_pos e2]
      simp only [e2, Bool.or_true, if_true] at this
      simp only [en, List.filterMap_nil]
      exact this
    · rw [if_neg e2]
      simp only [e1, e2, Bool.or_self, Bool.false_eq_true, if_false] at this
      exact wpAny_matchFirst_nil this
/-- the rest: names that catch, and places that don't -/
inductive Caps (X : Cx) : List Pattern → TGs → Prop
  | nil : Caps X [] gNil
  | name {x : Str} {i : Nat} {pos : Pos} {ps : List Pattern} {u : TGs} (hi : X.N[i]? = some x) (hx : Loc X.env.scope x) (hf : X.fn x = true ∨ X.env.scope.names.lookup x = some .local) (r : Caps X ps u) : Caps X (.MatchAs none (some x) pos :: ps) (gCons (gName i) u)
  | wild {pos : Pos} {ps : List Pattern} {u : TGs} (r : Caps X ps u) : Caps X (.MatchAs none none pos :: ps) (gCons (fun _ σ H Q => Q σ H) u)
theorem caps_run {ps : List Pattern} {u : TGs} (hN : X.N.Nodup) (c : Caps X ps u) : ∀ (vs : List V) (us : List Value), Vals vs us → vs.length = ps.length →
    ∃ bs : List (Str × Value), (∀ (s : Shared) (Q : Option (List (Str × Value)) → Shared → Prop), Q (some bs) s → wpAny (model X.prog X.w) X.A (matchEach ps X.env us) Q X.xe s) ∧
      ∀ (σ : L2.St) (H : Hp) (s : Shared) (R : L2.St → Hp → Prop) (Q : Unit → Shared → Prop), Inv X pins σ H s → u vs σ H R → (∀ σ' H' s', Inv X pins σ' H' s' → R σ' H' → Q () s') →
        wpAny (model X.prog X.w) X.A (assignInOrder (bs.map fun (n, _) => bindName X.env n) (bs.map (·.2))) Q X.xe s := by
  induction c with
  | nil =>
    intro vs us r hl
    cases r with
    | cons => cases hl
    | nil =>
      exact ⟨[], fun s Q h => wpAny_matchEach_nil h, fun σ H s R Q I h k => wpAny_assignInOrder_none (k σ H s I h.2)⟩
  | @name x i pos ps u hi hx hf c ih =>
    intro vs us r hl
    cases r with
    | nil => cases hl
    | @cons v w vr ur r rr =>
      obtain ⟨bs, h1, h2⟩ := ih vr ur rr (by simpa using hl)
      refine ⟨(x, w) :: bs, fun s Q h => ?_, fun σ H s R Q I h k => ?_⟩
      · refine wpAny_matchEach_cons (wpAny_matchPattern_Capture ?_)
        exact h1 s _ h
      · obtain ⟨_, _, e, h⟩ := h
        cases e
        refine wpAny_assignInOrder_more ?_
        refine wpAny_bindName ?_
        refine store_ok I hN hi hx r ?_ hf
        intro s' I'
        exact h2 _ H s' R Q I' h k
  | @wild pos ps u c ih =>
    intro vs us r hl
    cases r with
    | nil => cases hl
    | @cons v w vr ur r rr =>
      obtain ⟨bs, h1, h2⟩ := ih vr ur rr (by simpa using hl)
      refine ⟨bs, fun s Q h => ?_, fun σ H s R Q I h k => ?_⟩
      · refine wpAny_matchEach_cons (wpAny_matchPattern_Capture ?_)
        exact h1 s _ h
      · obtain ⟨_, _, e, h⟩ := h
        cases e
        exact h2 σ H s R Q I h k
/-- cases of a match, for the thing that is looked at -/
structure PM (X : Cx) (cs : List MatchCase) (t : V → TS) : Prop where
  run : ∀ (pins : List (Addr × Obj)) (s : Shared) (σ : L2.St) (H : Hp) (D : Ends) (v : V) (u : Value) (first : Bool), Inv X pins σ H s → RelV v u → t v D σ H → wpAny (model X.prog X.w) X.A (matchCases cs X.env u first) (SP X pins D) X.xe s
def tCase (K : PySem.W.Frag) (n : Nat) (q : Str → Bool) (g : TGs) (tb : TS) (tr : V → TS) : V → TS := fun v D σ H => ∃ a z r, v = .ref a ∧ SqT K H a (.str z :: r) ∧
  ((r.length = n ∧ q z = true → g r σ H fun σ' H' => tb D σ' H') ∧ (¬ (r.length = n ∧ q z = true) → tr v D σ H))
theorem pm_seq {p : Pattern} {ps : List Pattern} {pos : Pos} {body : List Stmt} {rest : List MatchCase} {q : Str → Bool} {g : TGs} {tb : TS} {tr : V → TS} {n : Nat} (hc : X.calm = true) (hN : X.N.Nodup) (hp : PPat X p q) (hg : Caps X ps g) (hb : PSs X body tb) (hr : PM X rest tr)
    (hn : ps.length = n := by rfl) (hs : p.isStar = false := by rfl)
    (hstar : (p :: ps).findIdx? (·.isStar) = none := by rfl) (hwild : ((p :: ps).all fun p => p.isWildcard || (p.isStar && p.names.isEmpty)) = false := by rfl) :
    PM X (⟨.MatchSequence (p :: ps) pos, none, body⟩ :: rest) (tCase X.K n q g tb tr) := by
  refine ⟨fun pins s σ H D v u first I r h => ?_⟩
  obtain ⟨a, z, rs, rfl, hq, y, no⟩ := h
  cases r
  obtain ⟨its, rv, ht, hz⟩ := I.tuple hq
  have hlen : its.length = rs.length + 1 := by rw [← rv.length]; rfl
  have hfit : ((its.toArray.size : Nat) : Int) < 2 ^ 63 := by
    have h1 : its.toArray.size = its.length := by simp
    have h2 : its.length ≤ sizeLine := by rw [hlen]; exact hz
    have h3 : sizeLine < 2 ^ 63 := by decide
    omega
  refine wpAny_matchCases_cons ?_
  have Ik : ∀ k, Inv X pins σ H { s with toks := k } := fun k => I.kept (t' := k) fun _ _ e => e
  by_cases hl : rs.length = n
  · refine matchSeq_tuple_hit ht hfit (by simp [hlen, hl, hn]) ?_ hstar hwild
    have he : (p :: ps).length = its.toArray.size := by simp [hlen, hl, hn]
    rw [he]
    refine unpackItems_tuple (I.ok.hd hc) ht fun h' hx => ?_
    cases rv with
    | @cons v1 u1 r1 us1 r0 rr =>
      obtain ⟨t0, rfl⟩ := r0
      have I1 : ∀ k, Inv X pins σ H { s with heap := h', toks := k } := fun k => I.kept (t' := k) fun b o e => hx b o (Nat.ne_of_lt (Heap.lt_size e)) e
      show wpAny _ _ (matchEach (p :: ps) X.env (.str z t0 :: us1)) _ _ _
      refine wpAny_matchEach_cons (hp _ z t0 _ fun k => ?_) hs
      by_cases e : q z = true
      · rw [if_pos e]
        obtain ⟨bs, h1, h2⟩ := caps_run (pins := pins) hN hg rs us1 rr (by rw [hl, hn])
        refine h1 _ _ ?_
        show wpAny _ _ (assignInOrder ((([] : List (Str × Value)) ++ bs).map fun (n, _) => bindName X.env n) ((([] : List (Str × Value)) ++ bs).map (·.2))) _ _ _
        rw [List.nil_append]
        refine h2 σ H _ _ _ (I1 k) (y ⟨hl, e⟩) fun σ' H' s' I' hR => ?_
        exact hb.run pins s' σ' H' D I' hR
      · rw [if_neg e]
        exact hr.run pins _ σ H D (.ref a) _ false (I1 k) rfl (no fun z => e z.2)
  · refine matchSeq_tuple_miss ht hfit (by simp [hlen, hn, hl]) ?_ hstar hwild
    exact hr.run pins _ σ H D (.ref a) _ false (Ik _) rfl (no fun z => hl z.1)
theorem pm_any {pos : Pos} {body : List Stmt} {tb : TS} (hb : PSs X body tb) : PM X [⟨.MatchAs none none pos, none, body⟩] (fun _ => tb) := by
  refine ⟨fun pins s σ H D v u first I r h => ?_⟩
  refine wpAny_matchCases_cons (wpAny_matchPattern_Capture ?_)
  exact wpAny_assignInOrder_none (hb.run pins s σ H D I h)
def tMatch (te : TE) (t : V → TS) : TS := fun D σ H => te σ H fun v H1 => t v D σ H1
theorem ps_match {e : Expr} {cs : List MatchCase} {pos : Pos} {te : TE} {t : V → TS} (he : PE X e te) (hm : PM X cs t) : PS X (.Match e cs pos) (tMatch te t) := by
  refine ⟨fun pins s σ H D I h => ?_⟩
  refine wpAny_Match (thn (he.run pins s σ H _ I h) fun u s1 ⟨v, H1, I1, r1, q1⟩ => ?_)
  exact hm.run pins s1 σ H1 D v u true I1 r1 q1
end
end KM

/-! KG: any(.. for c in numbers), the test reads one captured number of the def. -/
namespace KG
open PySem PySem.Spec PyProof.Rows L2 GxR
section
variable {X : Cx} {pins : List (Addr × Obj)} {σ : L2.St} {H : Hp} {s : Shared}
/-- the test of the number n, beside a captured number m of the name y -/
def EltI (prog : Program) (w : World) (scope : Scope) (cells : List (Str × Addr)) (x y : Str) (elt : Expr) (pb : Int → Int → Bool) : Prop :=
  ∀ (ce : Env) (B : Around) (E' : Value → Shared → Prop) (n m : Int) (t u : Tok) (r : Shared) (mm : Str → Option Value) (c : Addr), ce.scope = scope → ce.cells = cells → r.heap.Ns ce.locals mm → mm x = some (.int n t) → cells.lookup y = some c → r.heap.IsCell c (some (.int m u)) →
    wpAny (model prog w) B (eval elt ce) (fun b r' => b = .bool (pb m n) ∧ Keeps r r') E' r
def out (m n : Int) : Bool := decide (n < 0) || decide (m ≤ n)
/-- x < 0 or x >= y -/
theorem elt_out {prog : Program} {w : World} {scope : Scope} {cells : List (Str × Addr)} {x y : Str} {j : Nat} {p1 p2 p3 p4 p5 p6 p7 : Pos} (hk : scope.kind = .function) (hl : scope.names.lookup x = some .local) (hy : scope.names.lookup y = some .free)
    (hd : (x == ("__debug__" : Str)) = false := by decide) (hd2 : (y == ("__debug__" : Str)) = false := by decide) (hd3 : (y == ("__classdict__" : Str)) = false := by decide) :
    EltI prog w scope cells x y (.BoolOp .Or [.Compare (.Name x p1) [.Lt] [.Constant (.int 0) j p2] p3, .Compare (.Name x p4) [.GtE] [.Name y p5] p6] p7) out := by
  intro ce B E' n m t u r mm c hs hc hn hm hcy hcell
  have kx : ce.kindOf x = some .local := by show ce.scope.names.lookup x = _; rw [hs]; exact hl
  have ky : ce.kindOf y = some .free := by show ce.scope.names.lookup y = _; rw [hs]; exact hy
  have kk : ce.scope.kind = .function := by rw [hs]; exact hk
  refine wpAny_Or2 ?_
  refine wpAny_Compare1 (wpAny_Name (wpAny_loadName_local kk kx hn hm ?_) hd)
  refine wpAny_Constant_int ?_
  refine PySem.P.lt_int (wpAny_truthy_bool ?_)
  by_cases h0 : n < 0
  · simp only [h0, decide_true, if_true]
    exact ⟨by unfold out; rw [decide_eq_true h0]; rfl, keeps_tok r _⟩
  · simp only [h0, decide_false, Bool.false_eq_true, if_false]
    refine wpAny_Compare1 (wpAny_Name (wpAny_loadName_local kk kx (s := { r with toks := r.toks + 1 }) hn hm ?_) hd)
    refine wpAny_Name (wpAny_loadName_free kk ky (by rw [hc]; exact hcy) (s := { r with toks := r.toks + 1 }) hcell ?_ hd3) hd2
    refine PySem.P.ge_int ⟨?_, keeps_tok r _⟩
    unfold out
    rw [decide_eq_false h0, Bool.false_or]
/-- the test at place j -/
def trI (q : Int → Bool) (ns : List Int) (j : Nat) : Bool := ((ns[j]?).map q).getD false
theorem any_trI (q : Int → Bool) (ns : List Int) : (List.range ns.length).any (trI q ns) = ns.any q := by
  rw [Bool.eq_iff_iff, List.any_eq_true, List.any_eq_true]
  refine ⟨fun ⟨j, hj, h⟩ => ?_, fun ⟨b, hb, h⟩ => ?_⟩
  · have lt := List.mem_range.mp hj
    unfold trI at h
    rw [List.getElem?_eq_getElem lt] at h
    exact ⟨ns[j], List.getElem_mem lt, h⟩
  · obtain ⟨j, lt, e⟩ := List.getElem_of_mem hb
    refine ⟨j, List.mem_range.mpr lt, ?_⟩
    unfold trI
    rw [List.getElem?_eq_getElem lt, e]
    exact h
theorem ints_at {ns : List Int} {us : List Value} (r : Vals (ns.map V.int) us) {i : Nat} {v : Value} (h : us[i]? = some v) : ∃ n t, ns[i]? = some n ∧ v = .int n t := by
  have hl := r.length
  rw [List.length_map] at hl
  have lt : i < us.length := (List.getElem?_eq_some_iff.mp h).1
  have e : (ns.map V.int)[i]? = some (.int ns[i]) := by rw [List.getElem?_map, List.getElem?_eq_getElem (by omega)]; rfl
  obtain ⟨u, h1, t, h2⟩ := Vals.get r e
  rw [h] at h1
  cases h1
  exact ⟨_, t, List.getElem?_eq_getElem (by omega), h2⟩
/-- a walk over what stands at a: an iterator o laid, whose walk gives the items -/
def Over (X : Cx) (r : Shared) (a : Addr) (us : List Value) : Prop := ∃ (o : Obj) (St : Nat → Heap → Prop), (∀ Q E, Q (.ref r.heap.objs.size) { r with heap := r.heap.push o } → wpAny (model X.prog X.w) X.A (pyIter (.ref a)) Q E r) ∧
  (∀ B : Around, B.handled = none → Walks X.prog X.w B r.heap.objs.size [r.heap.objs.size, a] [r.heap.objs.size] us.length (fun i v => us[i]? = some v) St) ∧ St 0 (r.heap.push o) ∧ ∃ o', r.heap.get? a = some o' ∧ o'.cls ≠ .none
theorem over_list {r : Shared} {a : Addr} {us : List Value} (h : PlainL r.heap a us.toArray) : Over X r a us := by
  obtain ⟨o, n, ho, hc, hd, hs⟩ := h
  have hL : r.heap.IsList a us.toArray := ⟨o, ho, hc, n, hs⟩
  have hne : a ≠ r.heap.objs.size := Nat.ne_of_lt (Heap.lt_size ho)
  refine ⟨{ cls := .type "list_iterator", data := .fields #[.ref a, .int 0 0] }, fun i h => h.IsListIter r.heap.objs.size a i ∧ h.IsList a us.toArray, fun Q E q => wpAny_pyIter_list hL q, fun B hB => ?_, ⟨⟨_, Heap.get?_push_size _ rfl, rfl, rfl⟩, ⟨o, Heap.get?_push_of_some _ ho, hc, n, hs⟩⟩, o, ho, by rw [hc]; exact fun z => nomatch z⟩
  have W := Walks.list (prog := X.prog) (w := X.w) hB r.heap.objs.size a hne us.toArray
  simpa using W
theorem over_tup {r : Shared} {a : Addr} {us : List Value} (h : IsTup r.heap a us.toArray) : Over X r a us := by
  obtain ⟨o, ho, hc, n, hs⟩ := h
  have hL : r.heap.IsTuple a us.toArray := ⟨o, ho, hc, n, hs⟩
  have hne : a ≠ r.heap.objs.size := Nat.ne_of_lt (Heap.lt_size ho)
  refine ⟨{ cls := .type "tuple_iterator", data := .fields #[.ref a, .int 0 0] }, fun i h => h.IsTupleIter r.heap.objs.size a i ∧ h.IsTuple a us.toArray, fun Q E q => wpAny_pyIter_tuple hL q, fun B hB => ?_, ⟨⟨_, Heap.get?_push_size _ rfl, rfl, rfl⟩, ⟨o, Heap.get?_push_of_some _ ho, hc, n, hs⟩⟩, o, ho, by rw [hc]; exact fun z => nomatch z⟩
  have W := Walks.tuple (prog := X.prog) (w := X.w) hB r.heap.objs.size a hne us.toArray
  simpa using W
/-- the generator at g, not yet walked; what it gives; behind its walk the table may have grown -/
def ReadyI (X : Cx) (pins : List (Addr × Obj)) (σ : L2.St) (Ha : Hp) (P : Addr) (q : Int → Bool) (ns : List Int) (g : Addr) (r : Shared) : Prop :=
  ∃ (fa fb : List Addr) (G : Array GenState → Array GenState → Prop) (F : Nat → Value → Prop) (St : Nat → Shared → Prop),
    WalksS X.prog X.w X.A.in1 g fa fb G ns.length F St ∧ St 0 r ∧ TruthOf X.prog X.w X.A.in1 F (trI q ns) ∧ ∀ r', Moved fb G r r' → ∃ Hb, Tabbed P Ha Hb ∧ Inv X pins σ Hb r'
theorem gen_ints {c P : Addr} {elt iter : Expr} {x y : Str} {px gpos : Pos} {scope : Scope} {pb : Int → Int → Bool} {te : TE} {k iy : Nat} {Q' : Value → Shared → Prop} {R : Addr → List Int → Int → Hp → Prop}
    (hr : Room k X.A) (TB : TabB X.base X.mg c P) (hcode : X.env.code = .ref c) (S : GenS X.env scope x) (hi : PE X iter te) (hy : X.N[iy]? = some y) (hyk : X.env.kindOf y = some .cell) (hyc : ∀ d, X.env.cells.lookup y = some d → (cloFrom X.env.cells scope.names []).lookup y = some d)
    (hel : EltI X.prog X.w scope (cloFrom X.env.cells scope.names []) x y elt pb)
    (hs : ∀ v, genFold iter X.env v = pure v) (I : Inv X pins σ H s) (h : te σ H fun v Ha => ∃ (a : Addr) (ns : List Int) (m : Int), v = .ref a ∧ (SqL X.K Ha a (ns.map V.int) ∨ SqT X.K Ha a (ns.map V.int)) ∧ σ[iy]? = some (some (.int m)) ∧ TabG Ha P ∧ R a ns m Ha)
    (hQ : ∀ a ns m Ha g r, R a ns m Ha → ReadyI X pins σ Ha P (pb m) ns g r → Q' (.ref g) r) :
    wpAny (model X.prog X.w) X.A (eval (.GeneratorExp elt [⟨.Name x px, iter, [], 0⟩] scope gpos) X.env) Q' X.xe s := by
  refine wpAny_GeneratorExp_walksQ hr.hd S.co (closure_ok S.free) S.cell S.dot S.loc S.kind (by have := hr.dp; omega) ?_ hs
  refine thn (hi.run pins s σ H _ I h) fun xv ra ⟨v, Ha, Ia, ra1, qa⟩ => ?_
  obtain ⟨a, ns, m, rfl, hsq, hsm, ⟨ps, hP, ht⟩, qa⟩ := qa
  cases ra1
  obtain ⟨us, rv, ov⟩ : ∃ us : List Value, Vals (ns.map V.int) us ∧ Over X ra a us := by
    rcases hsq with z | z
    · obtain ⟨us, rv, z, _⟩ := Ia.list z
      exact ⟨us, rv, over_list z⟩
    · obtain ⟨us, rv, z, _⟩ := Ia.tuple z
      exact ⟨us, rv, over_tup z⟩
  have hlen : us.length = ns.length := by rw [← rv.length, List.length_map]
  obtain ⟨o, St, hit, W, hst, oa, hoa, hna⟩ := ov
  refine hit _ _ ?_
  obtain ⟨mm, hns, hloc⟩ := Ia.loc
  obtain ⟨uy, ⟨ty, huy⟩, hlook⟩ := hloc iy y (.int m) hy hsm (.inr (.inl hyk))
  obtain ⟨cy, hcy, oc, hoc, hdc⟩ : ∃ cy, X.env.cells.lookup y = some cy ∧ ra.heap.IsCell cy (some uy) := by
    rcases hlook with ⟨z, _⟩ | ⟨_, z⟩
    · rw [hyk] at z
      cases z
    · exact z
  subst huy
  have gP0 : ra.heap.get? P = some { cls := .none, data := .fields ps } := Ia.hok P _ hP
  have cyP : cy ≠ P := fun z => by
    rw [z, gP0] at hoc
    cases hoc
    cases hdc
  have aP : a ≠ P := fun z => by
    rw [z, gP0] at hoa
    cases hoa
    exact hna rfl
  have ltP : P < ra.heap.objs.size := Heap.lt_size gP0
  have gP1 : (ra.heap.push o).get? P = some { cls := .none, data := .fields ps } := Heap.get?_push_of_some _ gP0
  have cd : PySem.W.CodeHd (ra.heap.push o) c P := TB.code.keeps fun b z e => Heap.get?_push_of_some _ (Ia.bk b z e)
  have lim : (ra.heap.push o).NoLimit := Ia.nolimit.push o
  have go : ∀ (code : Value) (hp : Heap) (tk : Nat) (pt : Array Value), Heap.ExtBut P (ra.heap.push o) hp → (ra.heap.push o).objs.size ≤ hp.objs.size → hp.get? P = some { cls := .none, data := .fields pt } → (∃ more, pt = ps ++ more) → TriplesOk pt.toList →
      wpAny (model X.prog X.w) X.A (builtinsFor X.env.globals X.env.builtins) (fun bi rb =>
        ∃ Ia' fp wr n₀ Pf St₀ pz F, Value.ref ra.heap.objs.size = .ref Ia' ∧ (∀ B : Around, B.handled = none → Walks X.prog X.w B Ia' fp wr n₀ Pf St₀) ∧ St₀ 0 rb.heap ∧ (∀ b ∈ fp, b < rb.heap.objs.size) ∧ rb.heap.NoLimit ∧ cStatics ∉ wr ∧
          (∀ hq : Heap, (∀ b z, rb.heap.get? b = some z → hq.get? b = some z) →
            QuietGen X.prog X.w (genEnv scope (cloFrom X.env.cells scope.names []) rb.heap.objs.size code bi X.env) x [] elt (List.range rb.heap.objs.size) wr Pf pz F hq) ∧
          (∀ g h₅ tk gs, gs.bare = true → rb.heap.objs.size < g → h₅.objs.size = g + 1 → (∀ b z, rb.heap.get? b = some z → h₅.get? b = some z) →
            WalksS X.prog X.w X.A.in4 g (g :: rb.heap.objs.size :: List.range rb.heap.objs.size) (rb.heap.objs.size :: wr) (GenOnlyQ rb.gens.size) (passing pz n₀ 0).length
              (fun j z => ∃ i, (passing pz n₀ 0)[j]? = some i ∧ F i z) (GenAt X.prog X.w X.A.in4 g rb.gens.size rb.heap.objs.size (List.range rb.heap.objs.size) wr pz n₀ F) →
            GenAt X.prog X.w X.A.in4 g rb.gens.size rb.heap.objs.size (List.range rb.heap.objs.size) wr pz n₀ F 0 { rb with gens := rb.gens.push gs, toks := tk, heap := h₅ } →
            Q' (.ref g) { rb with gens := rb.gens.push gs, toks := tk, heap := h₅ })) X.xe { ra with heap := hp, toks := tk } := by
    intro code hp tk pt hx hsz gP2 hmore ht2
    obtain ⟨bm, ob, w1, w2, w3, w4, w5, w6, w7, w8⟩ := TB.bm
    have hcl : cStatics < ra.heap.objs.size := let ⟨_, z, _⟩ := Ia.nolimit; z.lt
    have stP : cStatics ≠ P := fun e => by
      obtain ⟨_, z, _⟩ := Ia.nolimit
      obtain ⟨o', es, ep, ho, hd, _⟩ := z
      rw [e, gP0] at ho
      cases ho
      cases hd
    have sz2 : (ra.heap.push o).objs.size = ra.heap.objs.size + 1 := Heap.size_push ..
    have lt3 : (ra.heap.objs.size : Nat) < hp.objs.size := by omega
    have kp : ∀ b z, b ≠ P → ra.heap.get? b = some z → hp.get? b = some z := fun b z hb e => hx b z hb (Heap.get?_push_of_some _ e)
    refine wpAny_builtinsFor (m := X.mg) (by rw [Ia.ok.glob]; exact ((Ia.mod.glob.keeps Ia.bk).push o).extBut hx TB.gP) w1 w2 (kp _ _ w4 (Ia.bk _ _ w5)) w6 w7 w8 ?_
    refine ⟨ra.heap.objs.size, [ra.heap.objs.size, a], [ra.heap.objs.size], us.length, (fun i v => us[i]? = some v), St, (fun _ => true), (fun i z => ∃ n, ns[i]? = some n ∧ z = .bool (pb m n)), rfl, W, ?_, ?_, lim.extBut hx stP, ?_, ?_, ?_⟩
    · refine (W X.A hr.hd).frame _ _ _ hst fun b hb z e => hx b z (fun e2 => ?_) e
      simp only [List.mem_cons, List.not_mem_nil, or_false] at hb
      rcases hb with e3 | e3
      · exact Nat.ne_of_lt ltP (e2.symm.trans e3)
      · exact aP (e3.symm.trans e2)
    · intro b hb
      simp only [List.mem_cons, List.not_mem_nil, or_false] at hb
      rcases hb with e3 | e3
      · rw [e3]
        exact lt3
      · rw [e3]
        exact Nat.lt_trans (Heap.lt_size hoa) lt3
    · intro z
      rw [List.mem_singleton] at z
      exact Nat.ne_of_lt hcl z
    · intro hq hhq
      refine ⟨fun B E' i v r2 m2 hA hPv hn hm hk => ?_, fun B E' i v r2 m2 hA hPv hpz hn hm hk => ?_⟩
      · simp only [List.forIn_nil]
        exact wpAny_pure ⟨rfl, keeps_refl _⟩
      · obtain ⟨n, t, hnn, rfl⟩ := ints_at rv hPv
        have ltc : cy < ra.heap.objs.size := Heap.lt_size hoc
        have hc2 : r2.heap.IsCell cy (some (.int m ty)) := by
          refine ⟨oc, hk cy (List.mem_range.mpr (Nat.lt_trans ltc lt3)) (fun z => ?_) oc (hhq _ _ (kp _ _ cyP hoc)), hdc⟩
          rw [List.mem_singleton] at z
          exact Nat.ne_of_lt ltc z
        exact wpAny_mono (hel _ B E' n m t ty r2 m2 cy rfl rfl hn hm (hyc _ hcy) hc2) (fun z r3 q => ⟨⟨n, hnn, q.1⟩, q.2⟩) fun _ _ e => e
    · intro g h5 tk5 gs hgb hag hsz5 hk5 W5 hat
      simp only [GxR.passing_true, List.length_range] at W5
      rw [hlen] at W5 hat
      refine hQ a ns m Ha g _ qa ⟨_, _, _, _, _, W5.in4_1, hat, ?_, fun r' hm => ?_⟩
      · intro j z sj Qj Ej hz hQj
        obtain ⟨i, hij, n, hnn, rfl⟩ := hz
        obtain ⟨hj, ej⟩ := List.getElem?_eq_some_iff.mp hij
        rw [List.getElem_range] at ej
        subst ej
        have e9 : trI (pb m) ns j = pb m n := by unfold trI; rw [hnn]; rfl
        have hQ2 : Qj (trI (pb m) ns j) sj := hQj
        rw [e9] at hQ2
        exact wpAny_truthy_bool hQ2
      · obtain ⟨more, em⟩ := hmore
        have nwr : ∀ b z, ra.heap.get? b = some z → b ∉ hp.objs.size :: [ra.heap.objs.size] := fun b z e hb => by
          have hl := Heap.lt_size e
          simp only [List.mem_cons, List.not_mem_nil, or_false] at hb
          rcases hb with e3 | e3
          · rw [e3] at hl
            exact Nat.lt_asymm hl lt3
          · rw [e3] at hl
            exact Nat.lt_irrefl _ hl
        have J := inv_tab (more := more) (h' := r'.heap) (g' := r'.gens) (d' := r'.drawn) (t' := r'.toks) Ia hP (fun b z hb e => hm.heap b z (nwr b z e) (hk5 b z (kp b z hb e)))
          (by rw [← em]; exact hm.heap P _ (nwr P _ gP0) (hk5 P _ gP2)) (AllBare.movedS (Ia.bare.push hgb) hm)
        rw [sh_eta ra r' hm.os] at J
        exact ⟨upd Ha P (.tbl (ps ++ more)), ⟨⟨ps ++ more, upd_same, by rw [← em]; exact ht2⟩, fun b hb => upd_ne hb⟩, J⟩
  refine ⟨lim, ?_⟩
  cases hf : codeAmong gpos ps.toList with
  | none =>
    refine wpAny_genexprCodeX hcode (cd.code gP1 ht) (cd.tab gP1) hf fun c' h' tk hx hge hlt hco' _ htab' _ => ?_
    obtain ⟨o1, vs, f1, tf, fl, tg, inF, tx, tt, op, _, _, _, _, _, _, _, _, _, htr, _⟩ := hco'
    exact go _ h' tk _ hx (Nat.le_trans hge (Nat.le_of_lt hlt)) htab'.2 ⟨_, rfl⟩ htr
  | some cv =>
    refine wpAny_genexprCode_hit hcode (cd.code gP1 ht) hf ?_
    exact go cv (ra.heap.push o) ra.toks ps (Heap.ExtBut.refl _ _) (Nat.le_refl _) gP1 ⟨#[], by simp⟩ ht
/-- any(test for x in e), e a list or a tuple of numbers, the test reads the def's number at place iy -/
def tAnyI (K : PySem.W.Frag) (P : Addr) (iy : Nat) (pb : Int → Int → Bool) (te : TE) : TE := fun σ H Q => te σ H fun v Ha => ∃ (a : Addr) (ns : List Int) (m : Int), v = .ref a ∧ (SqL K Ha a (ns.map V.int) ∨ SqT K Ha a (ns.map V.int)) ∧ σ[iy]? = some (some (.int m)) ∧ TabG Ha P ∧ ∀ Hb, Tabbed P Ha Hb → Q (.bl (ns.any (pb m))) Hb
theorem pe_anyI {c P : Addr} {elt iter : Expr} {x y : Str} {px p pos gpos : Pos} {scope : Scope} {pb : Int → Int → Bool} {te : TE} {k iy : Nat}
    (hr : Room k X.A) (hg : Gl X "any") (hm : X.mg "any" = none) (TB : TabB X.base X.mg c P) (hcode : X.env.code = .ref c) (S : GenS X.env scope x) (hi : PE X iter te) (hy : X.N[iy]? = some y) (hyk : X.env.kindOf y = some .cell) (hyc : ∀ d, X.env.cells.lookup y = some d → (cloFrom X.env.cells scope.names []).lookup y = some d)
    (hel : EltI X.prog X.w scope (cloFrom X.env.cells scope.names []) x y elt pb)
    (hs : ∀ v, genFold iter X.env v = pure v)
    (he : starEach [.GeneratorExp elt [⟨.Name x px, iter, [], 0⟩] scope gpos] X.env = (false, eval (.GeneratorExp elt [⟨.Name x px, iter, [], 0⟩] scope gpos) X.env) :: starEach [] X.env := by rfl) :
    PE X (.Call (.Name "any" p) [.GeneratorExp elt [⟨.Name x px, iter, [], 0⟩] scope gpos] [] pos) (tAnyI X.K P iy pb te) := by
  constructor
  intro pins s σ H Q I h
  refine wpAny_Call_Name_kw (ld_blt I hg hm boot_any ?_)
  refine PyProof.Rows.callWith_builtin1 ?_ he (by rfl)
  rw [he]
  show wpAny _ _ (spliced ((false, eval (.GeneratorExp elt [⟨.Name x px, iter, [], 0⟩] scope gpos) X.env) :: backTo pos (starEach [] X.env))) _ _ s
  refine Calls.spliced_cons (gen_ints (R := fun _ ns m Ha => ∀ Hb, Tabbed P Ha Hb → Q (.bl (ns.any (pb m))) Hb) hr TB hcode S hi hy hyk hyc hel hs I h fun a ns m Ha g r hR hG => ?_)
  obtain ⟨fa, fb, G, F, St, W, hst, htr, hI⟩ := hG
  refine Calls.spliced_nil ?_
  refine call_any_walkS (W.self 0 _ _ _ hst ⟨g, fa, fb, G, _, F, St, _, rfl, W, hst, htr, fun r' hmv => ?_⟩)
  obtain ⟨Hb, hT, J⟩ := hI r' hmv
  refine ⟨.bl _, Hb, J, rfl, ?_⟩
  rw [any_trI]
  exact hR Hb hT
end
end KG

/-! KT: what stands when objects are only added and the tables of code objects may grow. -/
namespace KB
open PySem PySem.Spec PyProof.Rows L2 Evl
structure XT (H H' : Hp) : Prop where
  at_ : ∀ (a : Addr) (o : HO), (∀ ps, o ≠ .tbl ps) → H a = some o → H' a = some o
  tab : ∀ P : Addr, GxR.TabG H P → GxR.TabG H' P
theorem XT.refl (H : Hp) : XT H H := ⟨fun _ _ _ h => h, fun _ h => h⟩
theorem XT.trans {H H1 H2 : Hp} (a : XT H H1) (b : XT H1 H2) : XT H H2 := ⟨fun p o n h => b.at_ p o n (a.at_ p o n h), fun P h => b.tab P (a.tab P h)⟩
theorem XT.of_ex {H H' : Hp} (e : Ex H H') : XT H H' := ⟨fun p o _ h => e p o h, fun P ⟨ps, h, t⟩ => ⟨ps, e _ _ h, t⟩⟩
theorem XT.of_tab {P : Addr} {H H' : Hp} (g : GxR.TabG H P) (t : GxR.Tabbed P H H') : XT H H' := ⟨fun a o n h => by
  by_cases ha : a = P
  · obtain ⟨ps, hp, _⟩ := g
    rw [ha, hp] at h
    exact (n ps (Option.some.inj h).symm).elim
  · rw [t.2 a ha]; exact h, fun Q h => by
  by_cases ha : Q = P
  · rw [ha]; exact t.1
  · obtain ⟨ps, hp, r⟩ := h
    exact ⟨ps, by rw [t.2 Q ha]; exact hp, r⟩⟩
theorem XT.tup {H H' : Hp} {a : Addr} {xs : List V} (e : XT H H') (h : H a = some (.tup xs)) : H' a = some (.tup xs) := e.at_ _ _ (fun _ z => nomatch z) h
theorem XT.lst {H H' : Hp} {a : Addr} {xs : List V} (e : XT H H') (h : H a = some (.lst xs)) : H' a = some (.lst xs) := e.at_ _ _ (fun _ z => nomatch z) h
theorem XT.view {H H' : Hp} (e : XT H H') : ∀ (v : View) (x : V), VAt H v x → VAt H' v x
  | .table t, x, ⟨p, a, b⟩ => ⟨p, a, e.tup b⟩
  | .within v c lo hi, x, ⟨p, y, a, b, hv, r⟩ => ⟨p, y, a, e.tup b, XT.view e v y hv, r⟩
  | .columns v cs, x, ⟨p, y, q, a, b, hv, hq⟩ => ⟨p, y, q, a, e.tup b, XT.view e v y hv, e.tup hq⟩
  | .both v w, x, ⟨p, y, z, a, b, hv, hw⟩ => ⟨p, y, z, a, e.tup b, XT.view e v y hv, XT.view e w z hw⟩
  | .less v w, x, ⟨p, y, z, a, b, hv, hw⟩ => ⟨p, y, z, a, e.tup b, XT.view e v y hv, XT.view e w z hw⟩
  | .meet v w ps, x, ⟨p, y, z, q, a, b, hv, hw, rs, hq, hr⟩ => ⟨p, y, z, q, a, e.tup b, XT.view e v y hv, XT.view e w z hw, rs, e.tup hq, L2.Paired.mapP hr fun _ _ h => e.tup h⟩
  | .once v, x, ⟨p, y, a, b, hv⟩ => ⟨p, y, a, e.tup b, XT.view e v y hv⟩
  | .sums v ks c, x, ⟨p, y, q, a, b, hv, hq⟩ => ⟨p, y, q, a, e.tup b, XT.view e v y hv, e.tup hq⟩
  | .reach v, x, ⟨p, y, a, b, hv⟩ => ⟨p, y, a, e.tup b, XT.view e v y hv⟩
  | .odd o v w, x, ⟨p, y, z, a, b, hv, hw, f⟩ => ⟨p, y, z, a, e.tup b, XT.view e v y hv, XT.view e w z hw, f⟩
theorem XT.rd {H H' : Hp} {a : Addr} {o : HO} (e : XT H H') (n : ∀ ps, o ≠ .tbl ps) (h : Rd H a o) : Rd H' a o := h.imp (fun z => e.at_ _ _ n z) fun ⟨b, z⟩ => ⟨b, e.at_ _ _ (fun _ z => nomatch z) z⟩
theorem XT.sl {K : PySem.W.Frag} {H H' : Hp} {xs : List V} {p : Addr} (e : XT H H') (h : SqL K H p xs) : SqL K H' p xs := h.imp (fun z => e.rd (fun _ z => nomatch z) z) id
theorem XT.st {K : PySem.W.Frag} {H H' : Hp} {xs : List V} {p : Addr} (e : XT H H') (h : SqT K H p xs) : SqT K H' p xs := h.imp (fun z => e.rd (fun _ z => nomatch z) z) id
theorem XT.sq {K : PySem.W.Frag} {H H' : Hp} {xs : List V} {p : Addr} (e : XT H H') (h : SqL K H p xs ∨ SqT K H p xs) : SqL K H' p xs ∨ SqT K H' p xs := h.imp e.sl e.st
/-- a def whose code object's place is known -/
theorem okXC {P : Program} {w : World} {K : PySem.W.Frag} {mg : Str → Option Value} {base : Heap} {x qual : Str} {st : Stmt} {f : Addr} {oc kV doc pm cdv ct : Value} {od an : Option Addr} {osl : Array (Option Value)} {N ps : List Str} {k : Nat} {sp : Sp}
    (lk : K.lookup f = some ⟨oc, od, .func (PySem.W.fnOf x qual (defArgs st) (defBody st) (defScope st) .none kV doc pm an cdv ct), osl⟩) (hcd : PySem.W.codeIn K cdv qual = true) (S : FnScope N ps (defScope st)) (len : ∀ vs H Q E, sp vs H Q E → vs.length = ps.length)
    (hbody : ∀ (A : Around) (outer : List Env) (s : Shared) (H : Hp) (vs : List V) (Q : VK) (E : XK), Room k (A.deeper (envOfC qual (defScope st) s.heap.objs.size f cdv)) → sp vs H Q E →
      ∃ t, PSs (cxOf (L2.CX P w) P w K mg base N qual (defScope st) f cdv A outer s H E) (defBody st) t ∧ t { nx := fun _ H' => Q .non H', rt := Q } (start N vs) H) :
    FnOk P w K mg base (L2.CX P w) (k + 1) f (PySem.W.fnOf x qual (defArgs st) (defBody st) (defScope st) .none kV doc pm an cdv ct) ps sp :=
  fn_of lk hcd S len fun A outer s H vs Q E hr h => hbody A outer s H vs Q E hr h
end KB

/-! KD: dicts with tuple keys: comprehensions into a thing of any kind, walks over items. -/
namespace KD
open PySem PySem.Spec PyProof.Rows L2 Evl
/-- d[k] = v by a comprehension, d with tuple keys -/
theorem set_tup {X : Cx} {pins : List (Addr × Obj)} {σ : L2.St} {H : Hp} {s : Shared} {E : Value → Shared → Prop} {D b : Addr} {kvs : List (List Key × V)} {k : List Key} {v : V} {r : Value} {Q : Unit → Shared → Prop} {A : Around} (hu : A.units + 1 < cLine) (I : Inv X pins σ H s)
    (hD : H D = some (.dT kvs)) (hb : H b = some (.tup (k.map kV))) (hz : kvs.length < sizeLine) (rv : RelV v r) (h : ∀ s', Inv X pins σ (upd H D (.dT (putK kvs k v))) s' → Q () s') : wpAny (model X.prog X.w) A (dictSet D (.ref b) r) Q E s := by
  obtain ⟨z, nd, xs, rel, dd⟩ := dt_of I.hok hD
  have lx : xs.length ≤ sizeLine := by rw [← Paired.length rel]; exact z
  have lz : (putK kvs k v).length ≤ sizeLine := by have := length_putK kvs k v; omega
  refine wpAny_dictSet_heap (hsz := lx) ?_ (key_of I.hok hb) dd fun hp dd' hs => h _ ?_
  · first | exact hu | exact tupleKind_room_in1 hu | (show A.units < cLine; omega)
  · obtain ⟨q, es, ep, hq, g2, g3, g4, _, g5⟩ := dd'
    refine d_write I (by rw [hD]; exact True.intro) hs ⟨q, hq⟩ ⟨lz, nd, _, (rel.put k hb rv).keeps fun c ys ec => ?_, q, es, ep, hq, g2, g3, g4, g5⟩
    rw [upd_ne (ne_of ec hD fun z => nomatch z)]
    exact ec
section
variable {X : Cx}
/-- {k: v for target in iter if ..} into a new dict that stands for O; St: what the storing of a pair makes of the heap -/
def tDcG (O : HO) (St : Addr → Hp → V → V → Hp → Prop) (wi : TI) (g : TG) (tt : TT) (tk tv : TE) (vs : List Nat) : TE := fun σ Ha Q => wi σ Ha fun J Hb => ∀ D, Hb D = none → ∃ W : Nat → Nat → Hp → Prop, (∃ m, W 0 m (upd Hb D O)) ∧ ∀ i m Hc, W i m Hc →
  (J.stop i Hc ∧ Q (.ref D) Hc) ∨ (J.go i Hc ∧ ∃ Nx : Hp → Prop, (∀ Hz, Nx Hz → ∃ n, n < m ∧ W (i + 1) n Hz) ∧ ∀ x Hd, J.yld i Hc x Hd → g x (wipe σ vs) Hd fun σ2 He => wipe σ2 vs = wipe σ vs ∧ tt σ2 He fun b Hf =>
    if b = true then tk σ2 Hf fun y Hg => tv σ2 Hg fun z Hh => ∃ Hi, St D Hh y z Hi ∧ Nx Hi else Nx Hf)
/-- what is asked of O and St -/
structure DcKind (X : Cx) (O : HO) (St : Addr → Hp → V → V → Hp → Prop) : Prop where
  new : ∀ (h : Heap) (G : Hp), sysModules < h.objs.size → ObjOk X.prog X.w G (h.push { cls := .type "dict", data := .dict #[] }) h.objs.size O
  set : ∀ (Y : Cx), Y.prog = X.prog → Y.w = X.w → Y.A = X.A → ∀ (pins : List (Addr × Obj)) (σ : L2.St) (G G' : Hp) (r : Shared) (D : Addr) (y z : V) (u t : Value) (Q : Unit → Shared → Prop) (E : Value → Shared → Prop), Inv Y pins σ G r → St D G y z G' → RelV y u → RelV z t →
    (∀ r', Inv Y pins σ G' r' → Q () r') → wpAny (model Y.prog Y.w) Y.A (dictSet D u t) Q E r
abbrev BlkPE (X : Cx) (scope : Scope) (e : Expr) (t : TE) : Prop := ∀ (s : Shared) (H : Hp) (C : Addr) (cl : List (Str × Addr)) (fp : List Addr), PE (X.blk s H scope (compEnvC scope cl C X.env) fp) e t
theorem pe_dcG {O : HO} {St : Addr → Hp → V → V → Hp → Prop} {kx vx tg iter : Expr} {ifs : List Expr} {scope : Scope} {own : List (Str × Nat)} {pos : Pos} {wi : TI} {g : TG} {tt : TT} {tk tv : TE} (dk : DcKind X O St) (calm : X.calm = true) (nd : X.N.Nodup) (pi : PI X tg iter wi) (bo : BlkOk X.N X.env.scope scope own)
    (pg : ∀ (s : Shared) (H : Hp) (C : Addr) (cl : List (Str × Addr)) (fp : List Addr), PG (X.blk s H scope (compEnvC scope cl C X.env) fp) tg g) (pt : ∀ (s : Shared) (H : Hp) (C : Addr) (cl : List (Str × Addr)) (fp : List Addr), PTs (X.blk s H scope (compEnvC scope cl C X.env) fp) ifs tt)
    (pk : BlkPE X scope kx tk) (pv : BlkPE X scope vx tv) (fold : ∀ x, foldedSetIterable iter X.env x = pure x := by intro _; rfl) :
    PE X (.DictComp kx vx [⟨tg, iter, ifs, 0⟩] scope pos) (tDcG O St wi g tt tk tv (own.map (·.2))) := by
  constructor
  intro pins s σ Ha Q I hw
  rw [arm_eval_DictComp]
  have clo : ∀ y ∈ scope.names, y.2 = .free → ∃ c, X.env.cells.lookup y.1 = some c := fun y hy e => (bo.free y hy e).elim (fun z => I.ok.has _ (.inl z)) fun z => I.ok.has _ (.inr z)
  refine wpAny_comprehension_free (use := none) rfl fold (closure_ok clo) bo.kind (fun y hy e => (bo.uniq y hy).trans (by rw [e])) ?_
  refine thn (pi.run pins s σ Ha _ I hw) fun xv sa hx => thn hx fun itv sb hb => ?_
  obtain ⟨it, fp, tn, J, Hb, eit, Ib, T, tb, fb, q⟩ := hb
  subst eit
  refine wpAny_newObj_type (newEnv_comp ?_)
  have fresh : Hb sb.heap.objs.size = none := Ib.hok.fresh (Nat.le_refl _)
  obtain ⟨W, ⟨m0, hW0⟩, hW⟩ := q _ fresh
  have old : ∀ b ∈ fp, b < sb.heap.objs.size := fun b hb => let ⟨_, e, _⟩ := T.obj _ _ tb b hb; Heap.lt_size e
  -- the dict is laid
  have laid : ∃ sc : Shared, sc = { sb with heap := sb.heap.push { cls := .type "dict", data := .dict #[] } } ∧ Inv X pins σ (upd Hb sb.heap.objs.size O) sc := ⟨_, rfl, Ib.laid (t' := sb.toks) (fun b o e => Heap.get?_push_of_some _ e) (Nat.le_refl _) (dk.new sb.heap _ Ib.big)⟩
  obtain ⟨sc, esc, Ic⟩ := laid
  have hsc : sc.heap = sb.heap.push { cls := .type "dict", data := .dict #[] } := by rw [esc]
  have fc : ∀ b ∈ fp, FpOk X pins (upd Hb sb.heap.objs.size O) b ∧ b < sc.heap.objs.size := fun b hb => by
    have lt := old b hb
    have none' : upd Hb sb.heap.objs.size O b = none := by rw [upd_ne (Nat.ne_of_lt lt)]; exact (fb b hb).1
    exact ⟨⟨none', (fb b hb).2⟩, by rw [hsc, Heap.size_push]; exact Nat.lt_succ_of_lt lt⟩
  have tc : tn 0 sc.heap := T.keep _ _ _ tb fun b _ o e => by rw [hsc]; exact Heap.get?_push_of_some _ e
  have Id := block_start Ic bo nd fc
  generalize eD : sb.heap.objs.size = D at *
  generalize eHc : upd Hb D O = Hc at *
  have gc := pg sc Hc sc.heap.objs.size (cellsFrom (sc.heap.objs.size + 1) scope.names (cloFrom X.env.cells scope.names [])) fp
  have hc := pt sc Hc sc.heap.objs.size (cellsFrom (sc.heap.objs.size + 1) scope.names (cloFrom X.env.cells scope.names [])) fp
  have kc := pk sc Hc sc.heap.objs.size (cellsFrom (sc.heap.objs.size + 1) scope.names (cloFrom X.env.cells scope.names [])) fp
  have vc := pv sc Hc sc.heap.objs.size (cellsFrom (sc.heap.objs.size + 1) scope.names (cloFrom X.env.cells scope.names [])) fp
  rw [← esc]
  show codeAny _ _ (.compStart (.DictComp kx vx [⟨tg, iter, ifs, 0⟩] scope pos) 0 (.ref it) (.ref D) (compEnvC scope (cellsFrom (sc.heap.objs.size + 1) scope.names (cloFrom X.env.cells scope.names [])) sc.heap.objs.size X.env)) _ _
  generalize eenv : compEnvC scope (cellsFrom (sc.heap.objs.size + 1) scope.names (cloFrom X.env.cells scope.names [])) sc.heap.objs.size X.env = ev at Id gc hc kc vc ⊢
  have evL : ev.locals = sc.heap.objs.size := by rw [← eenv]; rfl
  have td : tn 0 (pushCells (sc.heap.push { cls := .type "dict", data := .dict #[] }) scope.names) := T.keep _ _ _ tc fun b _ o e => pushCells_keeps _ _ _ _ (Heap.get?_push_of_some _ e)
  let Y := X.blk sc Hc scope ev fp
  have fpY : ∀ {τ : L2.St} {G : Hp} {r : Shared}, Inv Y [] τ G r → (∀ b ∈ fp, G b = none) → ∀ b ∈ fp, FpOk Y [] G b := fun {τ G r} Ir hn b hb =>
    ⟨hn b hb, (Ir.ok.exf b hb).1, Ir.ok.exfs b hb, .inl hb, fun x c e => (Ir.ok.exf b hb).2 x c e, fun p hp => by cases (show p ∈ ([] : List (Addr × Obj)) from hp)⟩
  have run : codeAny (model X.prog X.w) X.A (.compLoop (.DictComp kx vx [⟨tg, iter, ifs, 0⟩] scope pos) 0 (.ref it) (.ref D) ev) (compPost (model X.prog X.w) X.A X.xe none (EP X pins σ Q) (.ref D) sc.heap.objs.size) { sc with heap := pushCells (sc.heap.push { cls := .type "dict", data := .dict #[] }) scope.names } := by
    refine compLoop_anyD (fun n r => ∃ i G, Inv Y [] (wipe σ (own.map (·.2))) G r ∧ tn i r.heap ∧ (∀ b ∈ fp, G b = none) ∧ W i n G) ?_ m0 ⟨0, Hc, Id, td, fun b hb => (fc b hb).1.1, hW0⟩
    rintro n r ⟨i, G, Ir, tr, nr, wr⟩
    rcases hW i n G wr with ⟨stop, fin⟩ | ⟨go, Nx, down, step⟩
    · refine thnF (T.done Y rfl rfl rfl calm i [] r _ G (fun _ _ => False) Ir (fpY Ir nr) tr stop) fun o r2 ⟨ho, Ir2⟩ => ?_
      subst ho
      have back : Inv X pins σ G r2 := Ic.call' (ch := fp) Ir2.os Ir2.base Ir2.hok Ir2.bare fun b hb => ⟨(fc b hb).1.2.2.2.1, (fc b hb).1.2.1, (fc b hb).1.2.2.2.2.1, (fc b hb).1.2.2.2.2.2⟩
      have cfree : G sc.heap.objs.size = none := evL ▸ (show G ev.locals = none from Ir2.free)
      obtain ⟨mm, hm, _⟩ := Ir2.loc
      have hm : r2.heap.Ns ev.locals mm := hm
      rw [evL] at hm
      obtain ⟨f0, f1, f2, f3, f4, f5⟩ := Ic.fpOk (b := sc.heap.objs.size) (Nat.le_refl _) cfree
      exact ⟨mm, hm, fun h2 same => ⟨.ref D, G, back.turned (t' := r2.toks) (fun b o hb e => (same.2 b hb).trans e) f0 f1 f3 f4 f5, rfl, fin⟩⟩
    · refine thnF (T.item Y rfl rfl rfl calm i [] r _ G (fun _ _ => False) Ir (fpY Ir nr) tr go) fun o r2 ⟨u, ho, h2⟩ => ?_
      subst ho
      refine thnF h2 fun _ r3 ⟨x, G3, I3, rx, y3, t3, n3⟩ => ?_
      refine thnF (gc.run _ r3 _ G3 x u _ (I3.pinned (fpY I3 n3) (T.obj _ _ t3)) rx (step x G3 y3)) fun _ r4 ⟨τ, G4, I4, hτ, q4⟩ => ?_
      have close : ∀ {r' : Shared} {G' : Hp}, Inv Y ([] ++ pinsAt fp r3.heap) τ G' r' → Nx G' → ∃ k, k < n ∧ ∃ i G, Inv Y [] (wipe σ (own.map (·.2))) G r' ∧ tn i r'.heap ∧ (∀ b ∈ fp, G b = none) ∧ W i k G := fun {r' G'} I' nx => by
        obtain ⟨k, hk, wk⟩ := down G' nx
        have stays : ∀ b ∈ fp, ∀ o, r3.heap.get? b = some o → r'.heap.get? b = some o ∧ G' b = none := fun b hb o e =>
          have z := I'.pin (b, o) (List.mem_append_right _ (List.mem_append_right _ (mem_pinsAt hb e)))
          ⟨z.1, z.2.1⟩
        have len : (wipe σ (own.map (·.2))).length = τ.length := by rw [← hτ, wipe_length]
        exact ⟨k, hk, i + 1, G', (I'.unpinned (pins := [])).weak len (fun j v e => by rw [← hτ] at e; exact (wipe_some e).1), T.keep _ _ _ t3 fun b hb o e => (stays b hb o e).1, fun b hb => let ⟨o, e, _⟩ := T.obj _ _ t3 b hb; (stays b hb o e).2, wk⟩
      refine thnF (hc.run _ r4 τ G4 _ I4 q4) fun b r5 ⟨G5, I5, q5⟩ => ?_
      cases b with
      | false => exact close I5 q5
      | true =>
        refine thnF (kc.run _ r5 τ G5 _ I5 q5) fun yk r6 ⟨y, G6, I6, ry, q6⟩ => ?_
        refine thnF (vc.run _ r6 τ G6 _ I6 q6) fun zv r7 ⟨z, G7, I7, rz, G8, hst, nx⟩ => ?_
        exact dk.set Y rfl rfl rfl _ τ G7 G8 r7 D y z yk zv _ _ I7 hst ry rz fun r8 I8 => close I8 nx
  exact codeAny_compStart_dict run (T.self X.A 0 _ _ _ td run)
end
/-! ### walks over the items of a locked dict with tuple keys -/
section
variable {X : Cx} {pins : List (Addr × Obj)} {σ : L2.St} {H : Hp} {s : Shared} {d : Addr} {o : Obj} {kvs : List (List Key × V)}
/-- what stands at a dict that is read -/
structure Stands (X : Cx) (H : Hp) (s : Shared) (d : Addr) (o : Obj) (kvs : List (List Key × V)) (es : Array DictEntry) (ep : Nat) : Prop where
  raw : DT.Raw s.heap d es ep
  sys : (d == sysModules) = false
  data : o.data = .dict es ep
  size : es.size = kvs.length
  at_ : ∀ (i : Nat) (k : List Key) (v : V), kvs[i]? = some (k, v) → ∃ (en : DictEntry) (q : Addr), es[i]? = some en ∧ en.key = .ref q ∧ H q = some (.tup (k.map kV)) ∧ RelV v en.val
theorem stands_of (I : Inv X pins σ H s) (h : H d = some (.frz o (.dT kvs))) : ∃ es ep, Stands X H s d o kvs es ep := by
  obtain ⟨g, _, sys, xs, pr, oo, es, ep, ho, hx, hdt, he, _⟩ := I.hok d _ h
  rw [g] at ho
  cases ho
  refine ⟨es, ep, ⟨o, g, hx, hdt⟩, sys, hdt, ?_, fun i k v e => ?_⟩
  · have a : es.size = xs.length := size_of_entries he
    have b : kvs.length = xs.length := Paired.length pr
    omega
  · obtain ⟨b, hb, e1, e2, e3⟩ := paired_get pr e
    have q := entry_at he i
    rw [hb] at q
    exact ⟨_, b.2.1, q, rfl, e2, e3⟩
/-- the pairs, each a new tuple of the key's own tuple and the value -/
def ItiT (d : Addr) (o : Obj) (kvs : List (List Key × V)) : It where
  go := fun i H => H d = some (.frz o (.dT kvs)) ∧ i < kvs.length
  yld := fun i H x H' => ∃ T k v q, kvs[i]? = some (k, v) ∧ x = .ref T ∧ H T = none ∧ H q = some (.tup (k.map kV)) ∧ H' = upd H T (.tup [.ref q, v])
  stop := fun i H => H d = some (.frz o (.dT kvs)) ∧ kvs.length ≤ i
theorem turn_itemsT {P : Program} {w : World} {K : PySem.W.Frag} {es : Array DictEntry} {ep : Nat} {elts : List Expr} {kk : Nat} {tpos : Pos} (it : Addr) (hod : o.data = .dict es ep) :
    Turn P w K (.Tuple elts kk tpos) (ItiT d o kvs) [it] it (fun i h => ∃ a b, IsItemIter h it d i kvs.length ep a b) := by
  constructor
  case mem => exact List.mem_singleton.mpr rfl
  case obj =>
    intro i h ⟨a, b, e⟩ c hc
    rw [List.mem_singleton.mp hc]
    exact ⟨_, e, fun v z => nomatch z⟩
  case keep =>
    intro i h h' ⟨a, b, e⟩ k
    exact ⟨a, b, k it (List.mem_singleton.mpr rfl) _ e⟩
  case item =>
    intro Y hP hw hK hc i pins s σ G E I hf st hg
    subst hP hw hK
    obtain ⟨hd, hi⟩ := hg
    obtain ⟨es', ep', S⟩ := stands_of I hd
    obtain ⟨ee, pe⟩ := dict_ep hod S.data
    rw [ee, pe] at S
    obtain ⟨⟨k, v⟩, hkv⟩ : ∃ p, kvs[i]? = some p := ⟨kvs[i], List.getElem?_eq_getElem hi⟩
    obtain ⟨en, q, hen, hkey, hq, rv⟩ := S.at_ i k v hkv
    obtain ⟨a, b, he⟩ := st
    rw [← S.size] at he
    have lt : it < s.heap.objs.size := Heap.lt_size he
    have hie : i < es.size := by rw [S.size]; exact hi
    have een : es[i] = en := by
      rw [Array.getElem?_eq_getElem hie] at hen
      exact Option.some.inj hen
    refine DT.nextI he S.raw hie fun h1 ho hT hz hk => ?_
    rw [een, hkey] at ho hT
    refine ⟨_, rfl, wpAny_letOwnedTupleGo_items (s := { s with heap := h1 }) ho fun h2 he2 sb => ?_⟩
    have gT : h2.get? s.heap.objs.size = some { cls := .type "tuple", data := .seq #[.ref q, en.val] } := (sb.2 _ (Nat.ne_of_gt lt)).trans hT
    have J : Inv Y pins σ (upd G s.heap.objs.size (.tup [.ref q, v])) { s with heap := h2 } :=
      I.turnedNew (t' := s.toks) (ch := [it]) (fun b ob hb e => (sb.2 b (fun z => hb (List.mem_singleton.mpr z))).trans (hk b ob (fun z => hb (List.mem_singleton.mpr z)) e)) hf (Nat.le_refl _)
        ⟨by show 2 ≤ sizeLine; decide, [.ref q, en.val], .cons rfl (.cons rv .nil), _, gT, rfl, _, rfl⟩
    refine ⟨.ref s.heap.objs.size, _, J, rfl, ⟨_, k, v, q, hkv, rfl, I.hok.fresh (Nat.le_refl _), hq, rfl⟩, ⟨Value.ref q, en.val, ?_⟩, fun c hcc => ?_⟩
    · rw [← S.size]
      exact he2
    · rw [List.mem_singleton.mp hcc, upd_ne (Nat.ne_of_lt lt)]
      exact (hf it (List.mem_singleton.mpr rfl)).1
  case done =>
    intro Y hP hw hK hc i pins s σ G E I hf st hg
    subst hP hw hK
    obtain ⟨hd, hi⟩ := hg
    obtain ⟨f0, f1, f2, f3, f4, f5⟩ := hf it (List.mem_singleton.mpr rfl)
    obtain ⟨es', ep', S⟩ := stands_of I hd
    obtain ⟨ee, pe⟩ := dict_ep hod S.data
    rw [ee, pe] at S
    obtain ⟨a, b, he⟩ := st
    rw [← S.size] at he
    exact DT.endI (I.ok.hd hc) he S.raw (by rw [S.size]; exact hi) fun h1 eb => ⟨rfl, I.turned (t' := s.toks) (fun b ob hb e => eb b ob hb e) f0 f1 f3 f4 f5⟩
  case self =>
    intro A i s Q E ⟨_, _, e⟩ h
    exact PySem.W.kcp_self e h
def iItemsT (td : TE) : TI := fun σ H R => td σ H fun x H1 => ∃ d o kvs, x = .ref d ∧ H1 d = some (.frz o (.dT kvs)) ∧ R (ItiT d o kvs) H1
theorem pi_itemsT {e : Expr} {td : TE} {apos cpos tpos : Pos} {elts : List Expr} {kk : Nat} (he : PE X e td) (hbase : attributeBase e "items" X.env (eval e X.env) = eval e X.env := by rfl) (hline : (apos.endLine == cpos.line) = true := by rfl) :
    PI X (.Tuple elts kk tpos) (.Call (.Attribute e "items" apos) [] [] cpos) (iItemsT td) := by
  constructor
  intro pins s σ H R I h
  refine wpAny_Call_method (T := "dict") (id := "dict.items") hbase rfl hline F.plainAttrs_dict F.slot_dict_items F.type_dict_items (thn (he.run pins s σ H _ I h) fun u sa ⟨x, Ha, Ia, rx, d, o, kvs, ex, hd, q⟩ => ?_)
  subst ex
  obtain rfl : u = Value.ref d := rx
  obtain ⟨es, ep, S⟩ := stands_of Ia hd
  obtain ⟨od, hod, hxd, _⟩ := id S.raw
  refine ⟨S.raw.typeIs, fun b e => by cases e; exact ⟨od, hod, hxd.2.1⟩, ?_⟩
  have Ib : Inv X pins σ Ha { sa with heap := sa.heap.push { cls := .type "dict_items", data := .fields #[.ref d] } } := Ia.kept (t' := sa.toks) fun b ob q => Heap.get?_push_of_some _ q
  have fin : wpAny (model X.prog X.w) X.A (pyIter (.ref sa.heap.objs.size)) (PIE X pins σ (.Tuple elts kk tpos) R) X.xe { sa with heap := sa.heap.push { cls := .type "dict_items", data := .fields #[.ref d] } } := by
    refine DT.iterI (d := d) (es := es) (ep := ep) ⟨_, Heap.get?_push_size _ rfl, rfl, rfl⟩ (S.raw.push _) (pi_one (tk := sa.toks) Ib _ (turn_itemsT _ S.data) ⟨.none, .none, ?_⟩ q)
    rw [← S.size]
    exact Heap.get?_push_size _ rfl
  show wpAny _ _ (callWith cpos (.builtin "dict.items") [.ref d] [] []) _ X.xe sa
  refine method_meetsIn F.slot_dict_items F.entry_dict_items rfl (PySem.evalArgs_none ⟨rfl, S.raw.typeIs, F.args_dict_items_1 _, _, DT.meetsItems (es := es) (ep := ep) S.sys, ?_⟩)
  first
    | exact ⟨S.raw, fin⟩
    | exact ⟨_, S.raw, fin⟩
end
/-! ### list(d.items()) -/
section
variable {prog : Program} {w : World} {A : Around} {E : Value → Shared → Prop} {s : Shared} {r d : Addr} {es : Array DictEntry} {ep : Nat}
theorem list_init {R : Result → Shared → Prop} (hh : A.handled = none) (hv : s.heap.IsItemsView r d) (hm : DT.Raw s.heap d es ep) (S : Addr) (hr : S ≠ r) (hd : d ≠ S) (hS : s.heap.get? S = some { cls := .type "list", data := .seq #[] }) (hn : es.size ≤ sizeLine)
    (q : ∀ hp tk acc c as, (∀ b o, b ≠ S → s.heap.get? b = some o → hp.get? b = some o) → hp.get? S = some { cls := .type "list", dict := none, data := .seq acc c, slots := #[] } → as.length = es.size → DT.Made es S hp as → acc.toList = as.map Value.ref → R (.ok (.ret .none)) { s with heap := hp, toks := tk }) :
    wpAny (model prog w) A.in1 (Builtin.«list.__init__» ⟨[.ref S, .ref r], []⟩) (fun fin s' => match fin with | .done f => R (.ok f) s' | .again c' => c'.quiet = true ∧ codeAny (model prog w) A c' R s') (fun e s' => R (.error e) s') s := by
  show wpAny _ _ (Builtin.List.listItems (.ref S) >>= fun old => Builtin.List.listUpdate (.ref S) (fun _ => #[]) >>= fun _ => letGo old.toList.reverse >>= fun _ => Builtin.List.listExtendWith (.ref S) (.ref r) .none) _ _ s
  refine wpAny_bind ?_
  unfold Builtin.List.listItems
  refine wpAny_bind (wpAny_seqItems hS rfl (wpAny_pure (wpAny_bind ?_)))
  show wpAny _ _ (updateSeq S (fun _ => #[])) _ _ s
  have gS := Heap.get?_update_self (Obj.mapSeq (fun _ => (#[] : Array Value))) hS rfl
  have rest : ∀ b o, b ≠ S → s.heap.get? b = some o → (s.heap.update S (Obj.mapSeq (fun _ => (#[] : Array Value)))).get? b = some o := fun b o hb e => (Heap.get?_update_other _ _ (Ne.symm hb)).trans e
  refine wpAny_updateSeq hS rfl (wpAny_bind (wpAny_letGo ?_))
  have view : ({ s with heap := s.heap.update S (Obj.mapSeq (fun _ => (#[] : Array Value))) } : Shared).heap.IsItemsView r d := let ⟨o, ho, x⟩ := hv; ⟨o, rest r o hr.symm ho, x⟩
  refine DT.extI (es := es) (ep := ep) hh view (hm.at' fun o e => rest d o hd e) S hr hd .none _ gS (fun hp tk acc c as hk g l m ha => ?_) hn
  exact q hp tk acc c as (fun b o hb e => hk b o hb (rest b o hb e)) g l (m.low (Nat.le_of_lt (Heap.lt_size gS))) ha
theorem list_call {Q : Value → Shared → Prop} (hh : A.handled = none) (hv : s.heap.IsItemsView r d) (hm : DT.Raw s.heap d es ep) (hn : es.size ≤ sizeLine)
    (q : ∀ hp tk acc c as, (∀ b o, s.heap.get? b = some o → hp.get? b = some o) → hp.get? s.heap.objs.size = some { cls := .type "list", dict := none, data := .seq acc c, slots := #[] } → as.length = es.size → DT.Made es s.heap.objs.size hp as → acc.toList = as.map Value.ref → Q (.ref s.heap.objs.size) { s with heap := hp, toks := tk }) :
    wpAny (model prog w) A (call (.type "list") [.ref r]) Q E s := by
  refine callType_codes (Q₁ := fun ob r1 => ob = .ref s.heap.objs.size ∧ r1 = { s with heap := s.heap.push { cls := .type "list", data := .seq #[] } }) PySem.F.called_list (PySem.F.typeCall_list_1 _) PySem.F.entry_list_init (code_list_new _ ⟨rfl, rfl⟩) ?_
  rintro ob r1 ⟨rfl, rfl⟩
  have gS : (s.heap.push { cls := .type "list", data := .seq #[] }).get? s.heap.objs.size = some { cls := .type "list", data := .seq #[] } := Heap.get?_push_size _ rfl
  have ltr : r < s.heap.objs.size := let ⟨_, ho, _⟩ := hv; Heap.lt_size ho
  have view : ({ s with heap := s.heap.push { cls := .type "list", data := .seq #[] } } : Shared).heap.IsItemsView r d := let ⟨o, ho, x⟩ := hv; ⟨o, Heap.get?_push_of_some _ ho, x⟩
  refine ⟨⟨_, gS, rfl⟩, PySem.F.args_list_init_2 _ _, list_init (A := A.in1) hh view (hm.push _) _ (Nat.ne_of_gt ltr) (Nat.ne_of_lt hm.lt) gS hn fun hp tk acc c as hk g l m ha => ⟨rfl, ?_⟩⟩
  exact q hp tk acc c as (fun b o e => hk b o (Nat.ne_of_lt (Heap.lt_size e)) (Heap.get?_push_of_some _ e)) g l m ha
end
/-- pairs (key's own tuple, value) in new tuples -/
def PairsOf (H : Hp) (as : List Addr) (kvs : List (List Key × V)) : Prop := Paired (fun (t : Addr) (p : List Key × V) => ∃ q, H q = some (.tup (p.1.map kV)) ∧ H t = some (.tup [.ref q, p.2])) as kvs
theorem refs_vals : ∀ as : List Addr, Vals (as.map V.ref) (as.map Value.ref)
  | [] => .nil
  | _ :: r => .cons rfl (refs_vals r)
theorem paired_of {α β : Type} {F : α → β → Prop} : ∀ (as : List α) (bs : List β), as.length = bs.length → (∀ (j : Nat) (a : α) (b : β), as[j]? = some a → bs[j]? = some b → F a b) → Paired F as bs
  | [], [], _, _ => .nil
  | [], _ :: _, h, _ => by cases h
  | _ :: _, [], h, _ => by cases h
  | a :: as, b :: bs, h, k => .cons (k 0 a b rfl rfl) (paired_of as bs (Nat.succ.inj h) fun j x y hx hy => k (j + 1) x y hx hy)
section
variable {X : Cx}
def rListIt : List V → Hp → VK → Prop := fun vs H Q => ∃ (p a : Addr) (kvs : List (List Key × V)), vs = [.ref p] ∧ H p = some (L2.DX.itemsO p a) ∧ H a = some (.dT kvs) ∧
  ∀ (H' : Hp) (l : Addr) (as : List Addr), Ex H H' → H l = none → H' l = some (.lst (as.map V.ref)) → PairsOf H' as kvs → Q (.ref l) H'
theorem pairs_made {pins : List (Addr × Obj)} {σ : L2.St} {H : Hp} {s : Shared} {a : Addr} {kvs : List (List Key × V)} {es : Array DictEntry} {ep : Nat} {hp : Heap} {as : List Addr} {lo : Addr} (I : Inv X pins σ H s) (ha : H a = some (.dT kvs)) (hraw : DT.Raw s.heap a es ep) (m : DT.Made es lo hp as) :
    es.size = kvs.length ∧ ∀ (j : Nat) (t : Addr), as[j]? = some t → ∃ (k : List Key) (v : V) (q : Addr) (u : Value), kvs[j]? = some (k, v) ∧ H q = some (.tup (k.map kV)) ∧ RelV v u ∧ hp.get? t = some { cls := .type "tuple", data := .seq #[.ref q, u] } := by
  obtain ⟨o, ho, _, hdt⟩ := hraw
  obtain ⟨_, _, xs, pr, o2, es2, ep2, ho2, _, hdt2, he, _, _⟩ := dt_of I.hok ha
  rw [ho] at ho2
  cases ho2
  obtain ⟨e1, _⟩ := dict_ep hdt hdt2
  rw [e1] at he
  have l1 : es.size = xs.length := size_of_entries he
  have l2 : kvs.length = xs.length := Paired.length pr
  refine ⟨by omega, fun j t hj => ?_⟩
  obtain ⟨en, hen, g⟩ := m.pairs j t hj
  have lt : j < kvs.length := by have := (Array.getElem?_eq_some_iff.mp hen).1; omega
  obtain ⟨b, hb, r1, r2, r3⟩ := paired_get pr (List.getElem?_eq_getElem lt)
  have q := entry_at he j
  rw [hb, hen] at q
  have q2 : en = entryOfKey (tupleKind (mixKind X.prog X.w)) b := Option.some.inj q
  refine ⟨_, _, b.2.1, b.2.2, List.getElem?_eq_getElem lt, r2, r3, ?_⟩
  rw [g, q2]
  rfl
theorem cr_listIt (hc : X.calm = true) : CallR X (.type "list") rListIt := by
  intro pins s σ H xs us Q I r h
  obtain ⟨p, a, kvs, rfl, hp, ha, q⟩ := h
  obtain rfl := Vals.ref1 r
  have view : s.heap.IsItemsView p a := (show ObjOk X.prog X.w H s.heap p (L2.DX.itemsO p a) from I.hok p _ hp).1
  obtain ⟨z, _, _, _, o, es, ep, ho, hx, hdat, _⟩ := dt_of I.hok ha
  have raw : DT.Raw s.heap a es ep := ⟨o, ho, hx, hdat⟩
  have size : es.size = kvs.length := (pairs_made (as := []) (lo := 0) (hp := s.heap) I ha raw ⟨List.Pairwise.nil, (fun _ h => nomatch h), (fun j t h => nomatch h)⟩).1
  refine list_call (es := es) (ep := ep) (I.ok.hd hc) view raw (by omega) fun hp tk acc c as hk g l m hacc => ?_
  obtain ⟨_, prs⟩ := pairs_made I ha raw m
  have nd : as.Nodup := List.Pairwise.imp (fun h => Nat.ne_of_lt h) m.rise
  have free : H s.heap.objs.size = none := I.hok.fresh (Nat.le_refl _)
  have J : Inv X pins σ H { s with heap := hp, toks := tk } := I.kept (t' := tk) hk
  have Jl : Inv X pins σ (upd H s.heap.objs.size (.lst (as.map V.ref))) { s with heap := hp, toks := tk } := J.take (h' := hp) (t' := tk) (fun b ob _ e => e) (I.fpOk (Nat.le_refl _) free) ⟨by rw [List.length_map]; omega, acc.toList, c, by rw [hacc]; exact refs_vals as, by rw [Array.toArray_toList]; exact g⟩
  obtain ⟨G, Jg, grow, made⟩ := L2.DX.takeT (P := fun t vs => ∃ (j : Nat) (k : List Key) (v : V) (q : Addr), as[j]? = some t ∧ kvs[j]? = some (k, v) ∧ H q = some (.tup (k.map kV)) ∧ vs = [.ref q, v]) I as _ Jl nd fun t ht => by
    obtain ⟨j, hj⟩ := List.mem_iff_getElem?.mp ht
    obtain ⟨k, v, q, u, e1, e2, e3, e4⟩ := prs j t hj
    have low : s.heap.objs.size ≤ t := Nat.le_of_lt (m.above t ht)
    refine ⟨low, by rw [upd_ne (Nat.ne_of_gt (m.above t ht))]; exact I.hok.fresh low, [.ref q, v], ⟨j, k, v, q, hj, e1, e2, rfl⟩, fun G2 => ⟨by show 2 ≤ sizeLine; decide, [.ref q, u], .cons rfl (.cons e3 .nil), _, e4, rfl, _, rfl⟩⟩
  have ex : Ex H G := fun b u e => grow b u (by rw [upd_ne (ne_of_none e free)]; exact e)
  refine ⟨.ref s.heap.objs.size, G, Jg, rfl, q G _ as ex free (grow _ _ upd_same) (paired_of as kvs (by omega) fun j t p hj hp => ?_)⟩
  obtain ⟨vs, ⟨j2, k, v, q2, w1, w2, w3, w4⟩, gt⟩ := made t (List.mem_of_getElem? hj)
  have jj : j = j2 := (List.getElem?_inj (List.getElem?_eq_some_iff.mp hj).1 nd).mp (hj.trans w1.symm)
  rw [← jj, hp] at w2
  cases w2
  exact ⟨q2, ex _ _ w3, by rw [gt, w4]⟩
end
end KD

/-! KS: sorted(d.items()), d from rows of numbers to numbers. -/
namespace KS
open PySem PySem.Spec PyProof.Rows L2 Evl KD
/-! ### the order of rows -/
theorem lt_irr : ∀ x : List Int, HT.lexLt x x = false
  | [] => rfl
  | a :: r => by rw [HT.lexLt_cons, if_pos rfl]; exact lt_irr r
theorem lt_trans : ∀ x y z : List Int, HT.lexLt x y = true → HT.lexLt y z = true → HT.lexLt x z = true
  | [], [], _, h, _ => by cases h
  | [], _ :: _, [], _, h => by cases h
  | [], _ :: _, _ :: _, _, _ => rfl
  | _ :: _, [], _, h, _ => by cases h
  | _ :: _, _ :: _, [], _, h => by cases h
  | a :: x, b :: y, c :: z, h1, h2 => by
    rw [HT.lexLt_cons] at h1 h2 ⊢
    by_cases e1 : a = b
    · rw [if_pos e1] at h1
      by_cases e2 : b = c
      · rw [if_pos e2] at h2
        rw [if_pos (e1.trans e2)]
        exact lt_trans x y z h1 h2
      · rw [if_neg e2] at h2
        rw [if_neg (by omega), e1]
        exact h2
    · rw [if_neg e1] at h1
      have l1 := of_decide_eq_true h1
      by_cases e2 : b = c
      · rw [if_neg (by omega)]
        exact decide_eq_true (by omega)
      · rw [if_neg e2] at h2
        have l2 := of_decide_eq_true h2
        rw [if_neg (by omega)]
        exact decide_eq_true (by omega)
theorem lt_tri : ∀ x y : List Int, HT.lexLt x y = false → x = y ∨ HT.lexLt y x = true
  | [], [], _ => .inl rfl
  | [], _ :: _, h => by cases h
  | _ :: _, [], _ => .inr rfl
  | a :: x, b :: y, h => by
    rw [HT.lexLt_cons] at h ⊢
    by_cases e : a = b
    · rw [if_pos e] at h
      rw [if_pos e.symm, e]
      exact (lt_tri x y h).imp (fun z => by rw [z]) id
    · rw [if_neg e] at h
      have := of_decide_eq_false h
      exact .inr (by rw [if_neg (by omega)]; exact decide_eq_true (by omega))
theorem count_lt {α : Type} {p q : α → Bool} : ∀ {L : List α} {x : α}, x ∈ L → (∀ a ∈ L, p a = true → q a = true) → q x = true → p x = false → L.countP p < L.countP q
  | a :: L, x, hx, h, h1, h2 => by
    have le : L.countP p ≤ L.countP q := List.countP_mono_left fun b hb => h b (List.mem_cons_of_mem _ hb)
    rw [List.countP_cons, List.countP_cons]
    rcases List.mem_cons.mp hx with e | hx
    · rw [← e, h1, h2]
      simp
      omega
    · have ih := count_lt hx (fun b hb => h b (List.mem_cons_of_mem _ hb)) h1 h2
      have ha := h a List.mem_cons_self
      cases e1 : p a with
      | false => cases e2 : q a <;> simp <;> omega
      | true => rw [ha e1]; simp; omega
/-- a row's rank among rows -/
def rk (L : List (List Int)) (x : List Int) : Int := ((L.countP fun y => HT.lexLt y x : Nat) : Int)
theorem rk_lt {L : List (List Int)} {x y : List Int} (hx : x ∈ L) (hy : y ∈ L) : decide (rk L x < rk L y) = HT.lexLt x y := by
  unfold rk
  cases h : HT.lexLt x y with
  | true =>
    have := count_lt (p := fun z => HT.lexLt z x) (q := fun z => HT.lexLt z y) hx (fun a _ ha => lt_trans a x y ha h) h (lt_irr x)
    exact decide_eq_true (by omega)
  | false =>
    have le : L.countP (fun z => HT.lexLt z y) ≤ L.countP (fun z => HT.lexLt z x) := by
      rcases lt_tri x y h with e | e
      · rw [e]
        exact Nat.le_refl _
      · exact List.countP_mono_left fun a _ ha => lt_trans a y x ha e
    exact decide_eq_false (by omega)
/-! ### pairs of a row and a number in the heap -/
section
variable {prog : Program} {w : World} {A : Around} {E : Value → Shared → Prop} {s : Shared}
def fstOf (h : Heap) (v : Value) : Value := match v with
  | .ref a => match h.get? a with
    | some o => match o.data with
      | .seq xs _ => xs.toList.headD .none
      | _ => .none
    | none => .none
  | _ => .none
/-- the row of the pair v -/
def rowOf (h : Heap) (v : Value) : List Int := TS.intsOf h (fstOf h v)
/-- v is the pair of the row n and c -/
def PairAt (prog : Program) (w : World) (h : Heap) (v : Value) (n : List Int) (c : Int) : Prop :=
  ∃ (a k : Addr) (t : Tok) (its : Array Value), v = .ref a ∧ IsTup h a #[.ref k, .int c t] ∧ IsTup h k its ∧ IntsAre its.toList n ∧ IsTupleKey (mixKind prog w) h (n.map Sum.inl) k
theorem PairAt.row {h : Heap} {v : Value} {n : List Int} {c : Int} (x : PairAt prog w h v n c) : rowOf h v = n := by
  obtain ⟨a, k, t, its, rfl, ⟨o, ho, hc, m, hd⟩, t2, hi, _⟩ := x
  have e : fstOf h (.ref a) = .ref k := by simp only [fstOf, ho, hd]; rfl
  unfold rowOf
  rw [e]
  exact TS.TupInts.ints ⟨k, its, rfl, t2, hi⟩
theorem firsts {h : Heap} : ∀ vs : List Value, (∀ v ∈ vs, ∃ n c, PairAt prog w h v n c) → ∃ fs : List Value, PySem.W.KatTups h vs fs ∧ fs.length = vs.length ∧ ∀ f ∈ fs, ∃ (q : Addr) (o : Obj), f = .ref q ∧ h.get? q = some o ∧ o.cls = .type "tuple"
  | [], _ => ⟨[], PySem.W.KatTups.nil, rfl, fun f hf => by cases hf⟩
  | v :: vs, x => by
    obtain ⟨fs, k, hl, hi⟩ := firsts vs fun u hu => x u (List.mem_cons_of_mem _ hu)
    obtain ⟨n, c, a, q, t, its, rfl, ⟨o, ho, hc, m, hd⟩, ⟨o2, ho2, hc2, _⟩, _⟩ := x v List.mem_cons_self
    refine ⟨.ref q :: fs, PySem.W.KatTups.cons ho hc hd rfl k, congrArg (· + 1) hl, fun f hf => ?_⟩
    rcases List.mem_cons.mp hf with rfl | hf
    · exact ⟨q, o2, rfl, ho2, hc2⟩
    · exact hi f hf
theorem kind_rows {vs : List Value} {L : List (List Int)} (h2 : 2 ≤ vs.length) (hu : A.units < cLine) (x : ∀ v ∈ vs, ∃ n c, PairAt prog w s.heap v n c ∧ n ∈ L) (one : ∀ v ∈ vs, ∀ u ∈ vs, ∀ n c d, PairAt prog w s.heap v n c → PairAt prog w s.heap u n d → c = d)
    (Q : SortKind → Shared → Prop) (h : ∀ κ, TS.Cmp prog w A s κ (pairsOf vs) (fun v => rk L (rowOf s.heap v)) → Q κ s) : wpAny (model prog w) A (keyKind' vs.toArray) Q E s := by
  obtain ⟨fs, k, hl, hi⟩ := firsts (prog := prog) (w := w) vs fun v hv => let ⟨n, c, p, _⟩ := x v hv; ⟨n, c, p⟩
  refine PySem.W.kat_kind (T := Value.type "tuple") k (by omega) (fun f hf => ?_) rfl (h _ ?_)
  · obtain ⟨q, o, rfl, ho, hc⟩ := hi f hf
    exact hc ▸ (PySem.W.Looks.ld ho).andThen .now
  · have hb : (Value.type "tuple" != Value.type "tuple") = false := by first | rfl | decide | simp
    rw [hb]
    intro p q hp hq Q' E' hQ
    rw [pairsOf_toList] at hp hq
    have mp := (mem_zip_self hp).2
    have mq := (mem_zip_self hq).2
    obtain ⟨n, c, pa, ln⟩ := x _ mp
    obtain ⟨m, d, pb, lm⟩ := x _ mq
    have hQ0 : Q' (decide (rk L (rowOf s.heap p.1) < rk L (rowOf s.heap q.1))) s := hQ
    rw [pa.row, pb.row, rk_lt ln lm] at hQ0
    have same := fun e : n = m => one _ mp _ mq n c d pa (e ▸ pb)
    obtain ⟨a, ka, t, ia, e1, ⟨o, ho, hc, j, hd⟩, ta, na, ya⟩ := pa
    obtain ⟨b, kb, u, ib, e2, ⟨o', ho', hc', j', hd'⟩, tb, nb, yb⟩ := pb
    rw [e1, e2]
    refine PySem.W.kat_lt ho hd ho' hd' ?_
    show PySem.W.KatLex prog w A false false Q' [(Value.ref ka, Value.ref kb), (Value.int c t, Value.int d u)] 0 s
    refine PySem.W.kat_cons (wpAny_eqBool_tuple hu ya yb ?_)
    by_cases e : n = m
    · rw [e, lt_irr] at hQ0
      refine PySem.W.kat_go (fun _ => PySem.W.kat_yes (PySem.W.kat_cons (wpAny_eqBool_int ?_))) fun e0 => absurd (by rw [e]) (of_decide_eq_false e0)
      refine PySem.W.kat_go (fun _ => PySem.W.kat_yes (PySem.W.kat_nil hQ0)) fun e0 => ?_
      rw [same e] at e0
      simp at e0
    · refine PySem.W.kat_go (fun e0 => ?_) fun _ => PySem.W.kat_no ?_
      · exact absurd (List.map_inj_right (fun _ _ z => Sum.inl.inj z) |>.mp (of_decide_eq_true e0)) e
      · show wpAny _ _ (oneLt' false _ _) _ _ _
        exact PySem.W.kat_one _ _ (HT.lt_tupInts ta tb na nb hu hQ0)
end
/-! ### the rule -/
abbrev entI (p : List Int × Int) : List Key × V := (p.1.map Sum.inl, .int p.2)
theorem ints_inl : ∀ n : List Int, (n.map Sum.inl).map kV = n.map V.int := fun n => by rw [List.map_map]; rfl
section
variable {X : Cx}
def rSortRows : List V → Hp → VK → Prop := fun vs H Q => ∃ (p a : Addr) (L : List (List Int × Int)), vs = [.ref p] ∧ H p = some (L2.DX.itemsO p a) ∧ H a = some (.dT (L.map entI)) ∧ L.length < 64 ∧ (L.map (·.1)).Nodup ∧
  ∀ (H' : Hp) (l : Addr) (as : List Addr) (M : List (List Int × Int)), Ex H H' → H l = none → M.Perm L → M.Pairwise (fun x y => HT.lexLt x.1 y.1 = true) → H' l = some (.lst (as.map V.ref)) → PairsOf H' as (M.map entI) → Q (.ref l) H'
theorem cr_sortRows (hc : X.calm = true) (hu : X.A.units + 64 < cLine) : CallR X (.builtin "sorted") rSortRows := by
  intro pins s σ H xs us Q I r h
  obtain ⟨p, a, L, rfl, hp, ha, h64, nodup, q⟩ := h
  obtain rfl := Vals.ref1 r
  have view : s.heap.IsItemsView p a := (show ObjOk X.prog X.w H s.heap p (L2.DX.itemsO p a) from I.hok p _ hp).1
  obtain ⟨z, _, _, _, o, es, ep, ho, hx, hdat, _⟩ := dt_of I.hok ha
  have raw : DT.Raw s.heap a es ep := ⟨o, ho, hx, hdat⟩
  have size : es.size = L.length := by
    have := (pairs_made (as := []) (lo := 0) (hp := s.heap) I ha raw ⟨List.Pairwise.nil, (fun _ h => nomatch h), (fun j t h => nomatch h)⟩).1
    rw [this, List.length_map]
  have line : 64 ≤ sizeLine := by decide
  refine DT.sortedI (es := es) (ep := ep) (I.ok.hd hc) view raw (by omega) fun h1 tk as hk hlt hl m => ?_
  obtain ⟨_, prs0⟩ := pairs_made I ha raw m
  have lak : as.length = L.length := by omega
  have nd : as.Nodup := List.Pairwise.imp (fun h => Nat.ne_of_lt h) m.rise
  have prs : ∀ (j : Nat) (t : Addr), as[j]? = some t → ∃ (e : List Int × Int) (k : Addr) (tk : Tok), L[j]? = some e ∧ H k = some (.tup (e.1.map V.int)) ∧ h1.get? t = some { cls := .type "tuple", data := .seq #[.ref k, .int e.2 tk] } := by
    intro j t hj
    obtain ⟨k, v, q, u, e1, e2, e3, e4⟩ := prs0 j t hj
    rw [List.getElem?_map] at e1
    cases hL : L[j]? with
    | none => rw [hL] at e1; cases e1
    | some e =>
      rw [hL] at e1
      cases e1
      obtain ⟨tk, rfl⟩ := e3
      exact ⟨e, q, tk, rfl, by rw [e2, ints_inl], e4⟩
  -- the sort's list
  have hob : (h1.push { cls := .type "list", data := .seq (as.map Value.ref).toArray }).get? h1.objs.size = some (seqObj "list" (as.map Value.ref).toArray 0) := Heap.get?_push_size _ rfl
  have ka0 : ∀ b o, h1.get? b = some o → (h1.push { cls := .type "list", data := .seq (as.map Value.ref).toArray }).get? b = some o := fun b o e => Heap.get?_push_of_some _ e
  have apart : ∀ b o, h1.get? b = some o → b ≠ h1.objs.size := fun b o e => Nat.ne_of_lt (Heap.lt_size e)
  generalize h1.push { cls := .type "list", data := .seq (as.map Value.ref).toArray } = h2 at hob ka0 ⊢
  have mid : ∀ b o, h1.get? b = some o → (TS.midHeap h2 h1.objs.size (as.map Value.ref)).get? b = some o := fun b o e => TS.midHeap_old (apart b o e) (ka0 b o e)
  have pin : ∀ (j : Nat) (t : Addr), as[j]? = some t → ∃ e : List Int × Int, L[j]? = some e ∧ PairAt X.prog X.w (TS.midHeap h2 h1.objs.size (as.map Value.ref)) (.ref t) e.1 e.2 := by
    intro j t hj
    obtain ⟨e, k, tk, he, hk2, hg⟩ := prs j t hj
    obtain ⟨_, its, rv, ot, hot, hct, nt, hdt⟩ := (show ObjOk X.prog X.w H s.heap k (.tup (e.1.map V.int)) from I.hok k _ hk2)
    obtain ⟨ov, iv, nv, hov, hcv, hdv, hiv⟩ := (show IsTupleKey (mixKind X.prog X.w) s.heap (e.1.map Sum.inl) k from key_of I.hok (by rw [hk2, ints_inl]))
    exact ⟨e, he, t, k, tk, its.toArray, rfl, ⟨_, mid _ _ hg, rfl, _, rfl⟩, ⟨ot, mid _ _ (hk _ _ hot), hct, nt, hdt⟩, intsAre_of rv, ⟨ov, iv, nv, mid _ _ (hk _ _ hov), hcv, hdv, hiv⟩⟩
  have at_ : ∀ v ∈ as.map Value.ref, ∃ (j : Nat) (t : Addr), v = .ref t ∧ as[j]? = some t := by
    intro v hv
    obtain ⟨t, ht, rfl⟩ := List.mem_map.mp hv
    obtain ⟨j, hj⟩ := List.mem_iff_getElem?.mp ht
    exact ⟨j, t, rfl, hj⟩
  refine wpAny_call_entry PyProof.Rows.slot_list_sort ⟨_, hob, rfl⟩ PyProof.Rows.entry_list_sort
    (SK.plain_sort (s := { s with heap := h2, toks := tk }) (r := fun v => rk (L.map (·.1)) (rowOf (TS.midHeap h2 h1.objs.size (as.map Value.ref)) v)) hob (by rw [List.length_map]; omega) (fun h22 Qk hQk => ?_) fun ps out o1 o2 o3 => ⟨.none, rfl, ?_⟩) (PyProof.Rows.args_list_sort _)
  · refine kind_rows (prog := X.prog) (w := X.w) (s := { s with heap := TS.midHeap h2 h1.objs.size (as.map Value.ref), toks := tk }) (L := L.map (·.1)) h22 (by show X.A.units + 1 + 1 < cLine; omega) (fun v hv => ?_) (fun v hv u hu n c d pv pu => ?_) Qk hQk
    · obtain ⟨j, t, rfl, hj⟩ := at_ v hv
      obtain ⟨e, he, pa⟩ := pin j t hj
      exact ⟨e.1, e.2, pa, List.mem_map.mpr ⟨e, List.mem_of_getElem? he, rfl⟩⟩
    · obtain ⟨j, t, rfl, hj⟩ := at_ v hv
      obtain ⟨i, t2, rfl, hi⟩ := at_ u hu
      obtain ⟨e, he, pa⟩ := pin j t hj
      obtain ⟨f, hf, pb⟩ := pin i t2 hi
      have r1 : n = e.1 := pv.row.symm.trans pa.row
      have r2 : n = f.1 := pu.row.symm.trans pb.row
      have ji : j = i := by
        have w1 : (L.map (·.1))[j]? = some n := by rw [List.getElem?_map, he, r1]; rfl
        have w2 : (L.map (·.1))[i]? = some n := by rw [List.getElem?_map, hf, r2]; rfl
        exact (List.getElem?_inj (List.getElem?_eq_some_iff.mp w1).1 nodup).mp (w1.trans w2.symm)
      subst ji
      rw [hj] at hi
      cases hi
      obtain ⟨_, _, t1, _, g1, ⟨o1, ho1, _, n1, d1⟩, _⟩ := pv
      obtain ⟨_, _, t2, _, g2, ⟨o2, ho2, _, n2, d2⟩, _⟩ := pu
      cases g1
      cases g2
      rw [ho1] at ho2
      cases ho2
      rw [d1] at d2
      injection d2 with d3 _
      have d4 := congrArg Array.toList d3
      injection d4 with _ d5
      injection d5 with d6 _
      injection d6
  · show EP X pins σ Q (.ref h1.objs.size) { s with heap := sortedHeap h2 h1.objs.size (as.map Value.ref) out, toks := tk }
    obtain ⟨zs, pz, ez⟩ := perm_lift (fun z : Addr × (List Int × Int) => (Value.ref z.1, Value.ref z.1)) o2 (as.zip L) (L2.DX.zip_self Value.ref as L lak)
    have idx : ∀ z ∈ zs, ∃ j : Nat, as[j]? = some z.1 ∧ L[j]? = some z.2 := fun z hz => by
      obtain ⟨j, hj⟩ := List.mem_iff_getElem?.mp (pz.mem_iff.mp hz)
      exact ⟨j, List.getElem?_zip_eq_some.mp hj⟩
    have hout : out.toList = (zs.map (·.1)).map Value.ref := by
      rw [o1, ← ez, List.map_map, List.map_map]
      rfl
    have perm : (zs.map (·.2)).Perm L := by
      have e := pz.map (·.2)
      rwa [List.map_snd_zip (by rw [lak]; exact Nat.le_refl _)] at e
    have rowz : ∀ z ∈ zs, rowOf (TS.midHeap h2 h1.objs.size (as.map Value.ref)) (.ref z.1) = z.2.1 := fun z hz => by
      obtain ⟨j, j1, j2⟩ := idx z hz
      obtain ⟨e, he, pa⟩ := pin j z.1 j1
      rw [j2] at he
      cases he
      exact pa.row
    have ndz : (zs.map fun z => z.2.1).Nodup := by
      have e : zs.map (fun z => z.2.1) = (zs.map (·.2)).map (·.1) := by rw [List.map_map]; rfl
      rw [e]
      exact ((perm.map (·.1)).nodup_iff).mpr nodup
    have sorted : (zs.map (·.2)).Pairwise (fun x y => HT.lexLt x.1 y.1 = true) := by
      rw [← ez, List.pairwise_map] at o3
      rw [List.pairwise_map]
      have ne : zs.Pairwise (fun x y => x.2.1 ≠ y.2.1) := List.pairwise_map.mp ndz
      refine List.Pairwise.imp_of_mem (fun {x y} hx hy hxy => ?_) (o3.and ne)
      obtain ⟨le, hne⟩ := hxy
      have le : rk (L.map (·.1)) (rowOf (TS.midHeap h2 h1.objs.size (as.map Value.ref)) (.ref x.1)) ≤ rk (L.map (·.1)) (rowOf (TS.midHeap h2 h1.objs.size (as.map Value.ref)) (.ref y.1)) := le
      rw [rowz x hx, rowz y hy] at le
      obtain ⟨_, _, x2⟩ := idx x hx
      obtain ⟨_, _, y2⟩ := idx y hy
      have mx : x.2.1 ∈ L.map (·.1) := List.mem_map.mpr ⟨_, List.mem_of_getElem? x2, rfl⟩
      have my : y.2.1 ∈ L.map (·.1) := List.mem_map.mpr ⟨_, List.mem_of_getElem? y2, rfl⟩
      cases hxy : HT.lexLt x.2.1 y.2.1 with
      | true => rfl
      | false =>
        rcases lt_tri _ _ hxy with e | e
        · exact absurd e hne
        · rw [← rk_lt my mx] at e
          have := of_decide_eq_true e
          omega
    -- what stands behind the sort
    have kF : ∀ b o, b ≠ h1.objs.size → h2.get? b = some o → (sortedHeap h2 h1.objs.size (as.map Value.ref) out).get? b = some o := fun b o hb e => (PyProof.Rows.sortedHeap_old hb (Heap.lt_size e)).trans e
    have kS : ∀ b o, s.heap.get? b = some o → (sortedHeap h2 h1.objs.size (as.map Value.ref) out).get? b = some o := fun b o e => kF b o (apart b o (hk b o e)) (ka0 b o (hk b o e))
    obtain ⟨eF, heF⟩ := PyProof.Rows.sortedHeap_at (vs := as.map Value.ref) (out := out) hob
    have J : Inv X pins σ H { s with heap := sortedHeap h2 h1.objs.size (as.map Value.ref) out, toks := tk } := I.kept (t' := tk) kS
    have free : H h1.objs.size = none := I.hok.fresh (Nat.le_of_lt hlt)
    have lenz : zs.length = L.length := by have := perm.length_eq; rwa [List.length_map] at this
    have Jl : Inv X pins σ (upd H h1.objs.size (.lst ((zs.map (·.1)).map V.ref))) { s with heap := sortedHeap h2 h1.objs.size (as.map Value.ref) out, toks := tk } :=
      J.take (h' := sortedHeap h2 h1.objs.size (as.map Value.ref) out) (t' := tk) (fun b ob _ e => e) (I.fpOk (Nat.le_of_lt hlt) free) ⟨by rw [List.length_map, List.length_map]; omega, out.toList, eF, by rw [hout]; exact refs_vals _, heF⟩
    obtain ⟨G, Jg, grow, made⟩ := L2.DX.takeT (P := fun t vs => ∃ (j : Nat) (e : List Int × Int) (k : Addr), as[j]? = some t ∧ L[j]? = some e ∧ H k = some (.tup (e.1.map V.int)) ∧ vs = [.ref k, .int e.2]) I as _ Jl nd fun t ht => by
      obtain ⟨j, hj⟩ := List.mem_iff_getElem?.mp ht
      obtain ⟨e, k, tk2, he, hk2, hg⟩ := prs j t hj
      have low : s.heap.objs.size ≤ t := Nat.le_of_lt (m.above t ht)
      refine ⟨low, by rw [upd_ne (apart _ _ hg)]; exact I.hok.fresh low, [.ref k, .int e.2], ⟨j, e, k, hj, he, hk2, rfl⟩, fun G2 => ⟨by show 2 ≤ sizeLine; decide, [.ref k, .int e.2 tk2], .cons rfl (.cons ⟨_, rfl⟩ .nil), _, kF _ _ (apart _ _ hg) (ka0 _ _ hg), rfl, _, rfl⟩⟩
    have ex : Ex H G := fun b u e => grow b u (by rw [upd_ne (ne_of_none e free)]; exact e)
    refine ⟨.ref h1.objs.size, G, Jg, rfl, q G _ (zs.map (·.1)) (zs.map (·.2)) ex free perm sorted (grow _ _ upd_same) (paired_of _ _ (by simp) fun i t e hi he => ?_)⟩
    rw [List.getElem?_map] at hi he
    rw [List.getElem?_map] at he
    cases hz : zs[i]? with
    | none => rw [hz] at hi; cases hi
    | some z =>
      rw [hz] at hi he
      cases hi
      cases he
      obtain ⟨j, j1, j2⟩ := idx z (List.mem_of_getElem? hz)
      obtain ⟨vs, ⟨j3, e3, k, w1, w2, w3, w4⟩, gt⟩ := made z.1 (List.mem_of_getElem? j1)
      have jj : j = j3 := (List.getElem?_inj (List.getElem?_eq_some_iff.mp j1).1 nd).mp (j1.trans w1.symm)
      rw [← jj, j2] at w2
      cases w2
      exact ⟨k, by rw [ints_inl]; exact ex _ _ w3, by rw [gt, w4]⟩
end
end KS

/-! KZ: == and != of two dicts from rows to numbers, that hold the same. -/
namespace KZ
open PySem PySem.Spec PyProof.Rows L2 Evl KD KS
section
variable {prog : Program} {w : World} {A : Around} {E : Value → Shared → Prop} {s : Shared} {K : Type} [DecidableEq K] {knd : HeapKind prog w K}
/-- each pair of the one stands in the other, its number the same -/
def Alike (xa xb : List (K × Addr × Value)) : Prop := ∀ (i : Nat) (k : K) (q : Addr) (v : Value), xa[i]? = some (k, q, v) → ∃ (j : Nat) (q2 : Addr) (u : Value) (n : Int) (t t2 : Tok), xb[j]? = some (k, q2, u) ∧ v = .int n t ∧ u = .int n t2
theorem samePairs_all {nm : String} {a b : Addr} {xa xb : List (K × Addr × Value)} {Q : Bool → Shared → Prop} (hu : knd.room A) (sa : (a == sysModules) = false) (sb : (b == sysModules) = false) (da : s.heap.DictOfH knd a xa) (db : s.heap.DictOfH knd b xb) (len : xa.length = xb.length) (al : Alike xa xb) (h : Q true s) :
    wpAny (model prog w) A (Builtin.Dict.samePairs nm a b) Q E s := by
  obtain ⟨oa, ea, pa, hoa, _, hda, hea, hia, hna⟩ := da
  obtain ⟨ob, eb, pb, hob, _, hdb, heb, hib, hnb⟩ := db
  have la : ea.size = xa.length := size_of_entries hea
  have lb : eb.size = xb.length := size_of_entries heb
  unfold Builtin.Dict.samePairs Builtin.Dict.showsAll
  rw [if_neg (by rw [sa]; exact Bool.false_ne_true), if_neg (by rw [sb]; exact Bool.false_ne_true)]
  refine wpAny_bind (wpAny_pure (wpAny_bind (wpAny_pure (wpAny_bind (wpAny_dictEntries hoa hda ?_)))))
  dsimp only
  refine wpAny_bind (wpAny_dictEntries hob hdb ?_)
  have lab : ea.size = eb.size := by omega
  rw [if_neg (by rw [lab]; simp)]
  refine wpAny_bind (wpAny_dictEpoch hoa hda (wpAny_bind ?_))
  rw [Std.Legacy.Range.forIn_eq_forIn_range']
  simp only [Std.Legacy.Range.size, Nat.sub_zero, Nat.add_sub_cancel, Nat.div_one]
  refine wpAny_forIn_list _ (fun rest q r => r = s ∧ q = (none, ()) ∧ ∀ x ∈ rest, x < ea.size) _ ?_ ?_ _ _ ⟨rfl, rfl, fun x hx => by have := List.mem_range'.mp hx; omega⟩
  · rintro x rest q r ⟨rfl, rfl, hx⟩
    have lt : x < ea.size := hx x List.mem_cons_self
    have ltx : x < xa.length := by omega
    refine wpAny_bind (wpAny_dictEntries hoa hda ?_)
    have ex : ea[x]? = some (entryOfKey knd xa[x]) := by rw [entry_at hea x, List.getElem?_eq_getElem ltx]; rfl
    rw [ex]
    obtain ⟨⟨k, qk, v⟩, ek⟩ : ∃ z, xa[x] = z := ⟨_, rfl⟩
    rw [ek]
    have mem : xa[x]? = some (k, qk, v) := by rw [List.getElem?_eq_getElem ltx, ek]
    obtain ⟨j, q2, u, n, t, t2, hj, rfl, rfl⟩ := al x k qk v mem
    show wpAny _ _ (holding [Value.ref qk, Value.int n t] _ >>= _) _ _ _
    refine wpAny_bind (wpAny_holding (wpAny_bind (wpAny_dictFind_heap hu (hia _ (List.mem_of_getElem? mem)) hob hdb heb hib hnb (fun none' => absurd hj (none' j (q2, .int n t2))) fun j2 p hj2 => ?_)))
    have jj : j2 = j := by
      have w1 : (xb.map (·.1))[j2]? = some k := by rw [List.getElem?_map, hj2]; rfl
      have w2 : (xb.map (·.1))[j]? = some k := by rw [List.getElem?_map, hj]; rfl
      exact (List.getElem?_inj (List.getElem?_eq_some_iff.mp w1).1 hnb).mp (w1.trans w2.symm)
    rw [jj, hj] at hj2
    cases hj2
    refine wpAny_bind (wpAny_dictEntries hob hdb ?_)
    have ej : eb[j2]? = some (entryOfKey knd (k, q2, .int n t2)) := by rw [jj, entry_at heb j, hj]; rfl
    rw [ej]
    refine wpAny_holding (wpAny_eqBool_int ?_)
    show wpAny _ _ (if (!(n == n)) = true then _ else _) _ _ _
    rw [if_neg (by simp)]
    refine wpAny_bind (wpAny_dictEpoch hoa hda ?_)
    rw [if_neg (by simp)]
    exact wpAny_pure ⟨rfl, rfl, fun y hy => hx y (List.mem_cons_of_mem _ hy)⟩
  · rintro q r ⟨rfl, rfl, _⟩
    exact wpAny_pure h
theorem ne_rows {a b : Addr} {xa xb : List (K × Addr × Value)} {Q : Value → Shared → Prop} (hu : knd.room A.in1) (hz : A.units < cLine) (sa : (a == sysModules) = false) (sb : (b == sysModules) = false) (da : s.heap.DictOfH knd a xa) (db : s.heap.DictOfH knd b xb) (len : xa.length = xb.length) (al : Alike xa xb) (h : Q (.bool false) s) :
    wpAny (model prog w) A (compareOp .NotEq (.ref a) (.ref b)) Q E s := by
  refine wpAny_richCompare_same_room (op := .NotEq) da.typeIs db.typeIs PySem.F.slot_dict_ne (wpAny_call_entry PySem.F.slot_dict_ne da.typeIs PySem.F.entry_dict_ne ?_ (PySem.F.args_dict_ne_2 _ _)) hz
  show wpAny _ _ (Builtin.Dict.dictSlotArgs "__ne__" ⟨[.ref a, .ref b], []⟩ >>= _) _ _ s
  refine wpAny_bind ?_
  unfold Builtin.Dict.dictSlotArgs
  refine wpAny_bind (wpAny_notOrdered_dict da.typeIs ?_)
  show wpAny _ _ (pure (Value.ref a, Value.ref b)) _ _ s
  refine wpAny_pure (wpAny_bind (wpAny_isInstance (T := "dict") db.typeIs PySem.F.sub_dict_dict ?_))
  simp only [Bool.not_true, Bool.false_eq_true, if_false]
  refine wpAny_bind (wpAny_pure (wpAny_bind (wpAny_pure (wpAny_bind (samePairs_all hu sa sb da db len al ?_)))))
  exact wpAny_pure ⟨_, rfl, (fun x => nomatch x), h⟩
end
section
variable {X : Cx}
/-- two dicts of the same rows with the same numbers, in whatever order -/
def rNeRows : R2 := fun x y H Q => ∃ (a b : Addr) (L M : List (List Int × Int)), x = .ref a ∧ y = .ref b ∧ H a = some (.dT (L.map entI)) ∧ H b = some (.dT (M.map entI)) ∧ L.Perm M ∧ Q (.bl false) H
theorem op_neRows (hu : X.A.units + 1 < cLine) : OpR X (compareOp .NotEq) rNeRows := by
  intro pins s σ H x y v u Q I rx ry h
  obtain ⟨a, b, L, M, rfl, rfl, ea, eb, perm, q⟩ := h
  obtain rfl : v = Value.ref a := rx
  obtain rfl : u = Value.ref b := ry
  obtain ⟨_, ya, xa, ra, da⟩ := dt_of I.hok ea
  obtain ⟨_, yb, xb, rb, db⟩ := dt_of I.hok eb
  have l1 : (L.map entI).length = xa.length := Paired.length ra
  have l2 : (M.map entI).length = xb.length := Paired.length rb
  rw [List.length_map] at l1 l2
  refine ne_rows (knd := tupleKind (mixKind X.prog X.w)) (tupleKind_room_in1 hu) (by omega) ya yb da db (by rw [← l1, ← l2]; exact perm.length_eq) (fun i k qk v hi => ?_) ⟨.bl false, H, I, rfl, q⟩
  obtain ⟨p, hp, e1, e2, e3⟩ := L2.DX.pget ra hi
  rw [List.getElem?_map] at hp
  cases hL : L[i]? with
  | none => rw [hL] at hp; cases hp
  | some z =>
    rw [hL] at hp
    cases hp
    obtain ⟨j, hj⟩ := List.mem_iff_getElem?.mp (perm.mem_iff.mp (List.mem_of_getElem? hL))
    obtain ⟨b2, hb2, f1, f2, f3⟩ := paired_get rb (show (M.map entI)[j]? = some (entI z) by rw [List.getElem?_map, hj]; rfl)
    obtain ⟨t, ht⟩ := e3
    obtain ⟨t2, ht2⟩ := f3
    refine ⟨j, b2.2.1, b2.2.2, z.2, t, t2, ?_, ht, ht2⟩
    rw [hb2]
    obtain ⟨k2, q2, u2⟩ := b2
    have e1' : (entI z).1 = k := e1
    have f1' : (entI z).1 = k2 := f1
    rw [← e1', ← f1']
end
end KZ

/-! KN: any(.. for n in d.values()), any(len(row) != y for row, _ in pairs). -/
namespace KN
open PySem PySem.Spec PyProof.Rows L2 GxR Evl KD
section
variable {X : Cx} {pins : List (Addr × Obj)} {σ : L2.St} {H Ha : Hp} {s ra : Shared}
/-- the code of the generator, the built-in names -/
theorem gen_mid {c P : Addr} {ps : Array Value} {o : Obj} {gpos : Pos} {scope : Scope} {Z : Value → Addr → Shared → Prop} (TB : TabB X.base X.mg c P) (hcode : X.env.code = .ref c) (Ia : Inv X pins σ Ha ra) (hP : Ha P = some (.tbl ps)) (ht : TriplesOk ps.toList)
    (go : ∀ (code : Value) (hp : Heap) (tk : Nat) (more : Array Value), Heap.ExtBut P (ra.heap.push o) hp → ra.heap.objs.size < hp.objs.size → hp.get? P = some { cls := .none, data := .fields (ps ++ more) } → TriplesOk (ps ++ more).toList → (∀ b z, b ≠ P → ra.heap.get? b = some z → hp.get? b = some z) → hp.NoLimit →
      Z code builtinsNs { ra with heap := hp, toks := tk }) :
    (ra.heap.push o).NoLimit ∧ wpAny (model X.prog X.w) X.A (genexprCode X.env gpos (X.env.qual ++ "<genexpr>") scope) (fun code r3 => wpAny (model X.prog X.w) X.A (builtinsFor X.env.globals X.env.builtins) (fun bi r4 => Z code bi r4) X.xe r3) X.xe { ra with heap := ra.heap.push o } := by
  have gP0 : ra.heap.get? P = some { cls := .none, data := .fields ps } := Ia.hok P _ hP
  have gP1 : (ra.heap.push o).get? P = some { cls := .none, data := .fields ps } := Heap.get?_push_of_some _ gP0
  have cd : PySem.W.CodeHd (ra.heap.push o) c P := TB.code.keeps fun b z e => Heap.get?_push_of_some _ (Ia.bk b z e)
  have lim : (ra.heap.push o).NoLimit := Ia.nolimit.push o
  have sz : (ra.heap.push o).objs.size = ra.heap.objs.size + 1 := Heap.size_push ..
  have stP : cStatics ≠ P := fun e => by
    obtain ⟨_, z, _⟩ := Ia.nolimit
    obtain ⟨o', es, ep, ho, hd, _⟩ := z
    rw [e, gP0] at ho
    cases ho
    cases hd
  have fin : ∀ (code : Value) (hp : Heap) (tk : Nat) (more : Array Value), Heap.ExtBut P (ra.heap.push o) hp → (ra.heap.push o).objs.size ≤ hp.objs.size → hp.get? P = some { cls := .none, data := .fields (ps ++ more) } → TriplesOk (ps ++ more).toList →
      wpAny (model X.prog X.w) X.A (builtinsFor X.env.globals X.env.builtins) (fun bi r4 => Z code bi r4) X.xe { ra with heap := hp, toks := tk } := by
    intro code hp tk more hx hsz g2 t2
    obtain ⟨bm, ob, w1, w2, w3, w4, w5, w6, w7, w8⟩ := TB.bm
    have kp : ∀ b z, b ≠ P → ra.heap.get? b = some z → hp.get? b = some z := fun b z hb e => hx b z hb (Heap.get?_push_of_some _ e)
    exact wpAny_builtinsFor (m := X.mg) (by rw [Ia.ok.glob]; exact ((Ia.mod.glob.keeps Ia.bk).push o).extBut hx TB.gP) w1 w2 (kp _ _ w4 (Ia.bk _ _ w5)) w6 w7 w8 (go code hp tk more hx (by rw [sz] at hsz; exact hsz) g2 t2 kp (lim.extBut hx stP))
  refine ⟨lim, ?_⟩
  cases hf : codeAmong gpos ps.toList with
  | none =>
    refine wpAny_genexprCodeX hcode (cd.code gP1 ht) (cd.tab gP1) hf fun c' h' tk hx hge hlt hco' _ htab' _ => ?_
    obtain ⟨o1, vs, f1, tf, fl, tg, inF, tx, tt, op, _, _, _, _, _, _, _, _, _, htr, _⟩ := hco'
    exact fin _ h' tk _ hx (Nat.le_trans hge (Nat.le_of_lt hlt)) htab'.2 htr
  | some cv =>
    refine wpAny_genexprCode_hit hcode (cd.code gP1 ht) hf ?_
    exact fin cv (ra.heap.push o) ra.toks #[] (Heap.ExtBut.refl _ _) (Nat.le_refl _) (by rw [Array.append_empty]; exact gP1) (by rw [Array.append_empty]; exact ht)
/-- behind the walk -/
theorem gen_back {P : Addr} {ps more : Array Value} {hp h5 : Heap} {wr : List Addr} {gs : GenState} {tk5 : Nat} {r' : Shared} (Ia : Inv X pins σ Ha ra) (hP : Ha P = some (.tbl ps)) (kp : ∀ b z, b ≠ P → ra.heap.get? b = some z → hp.get? b = some z) (gP2 : hp.get? P = some { cls := .none, data := .fields (ps ++ more) })
    (t2 : TriplesOk (ps ++ more).toList) (lt3 : ra.heap.objs.size < hp.objs.size) (hwr : ∀ b ∈ wr, b = hp.objs.size ∨ b = ra.heap.objs.size) (hk5 : ∀ b z, hp.get? b = some z → h5.get? b = some z) (hgb : gs.bare = true)
    (hm : Moved wr (GenOnlyQ ra.gens.size) { ra with gens := ra.gens.push gs, toks := tk5, heap := h5 } r') : ∃ Hb, Tabbed P Ha Hb ∧ Inv X pins σ Hb r' := by
  have gP0 : ra.heap.get? P = some { cls := .none, data := .fields ps } := Ia.hok P _ hP
  have out : ∀ b z, ra.heap.get? b = some z → b ∉ wr := fun b z e hb => by
    have hl := Heap.lt_size e
    rcases hwr b hb with e3 | e3
    · rw [e3] at hl
      exact Nat.lt_asymm hl lt3
    · rw [e3] at hl
      exact Nat.lt_irrefl _ hl
  have J := inv_tab (more := more) (h' := r'.heap) (g' := r'.gens) (d' := r'.drawn) (t' := r'.toks) Ia hP (fun b z hb e => hm.heap b z (out b z e) (hk5 b z (kp b z hb e))) (hm.heap P _ (out P _ gP0) (hk5 P _ gP2)) (AllBare.movedS (Ia.bare.push hgb) hm)
  rw [sh_eta ra r' hm.os] at J
  exact ⟨upd Ha P (.tbl (ps ++ more)), ⟨⟨ps ++ more, upd_same, t2⟩, fun b hb => upd_ne hb⟩, J⟩
/-! ### d.values() of a dict with tuple keys -/
def valsO (p d : Addr) : HO := .ext fun h => h.IsValuesView p d
theorem valsO_ok {P : Program} {w : World} {G : Hp} {h : Heap} {p d : Addr} (e : h.get? p = some { cls := .type "dict_values", data := .fields #[.ref d] }) : ObjOk P w G h p (valsO p d) :=
  ⟨⟨_, e, rfl, rfl⟩, ⟨_, e⟩, fun h1 h2 x k => let ⟨o, ho, r⟩ := x; ⟨o, k o ho, r⟩⟩
def rValsT : V → List V → Hp → VK → Prop := fun x xs H Q => ∃ (a : Addr) (kvs : List (List Key × V)), x = .ref a ∧ xs = [] ∧ H a = some (.dT kvs) ∧ ∀ p, H p = none → Q (.ref p) (upd H p (valsO p a))
theorem mt_valsT : MtR X "dict.values" rValsT := by
  intro pins s σ H x xs v us Q I rx rxs h
  obtain ⟨a, kvs, rfl, rfl, ha, q⟩ := h
  cases rx
  cases rxs
  obtain ⟨_, hd, _, _, o, es, ep, ho, hx, hdat, _⟩ := dt_of I.hok ha
  have raw : s.heap.DictRaw a es ep := ⟨o, ho, hx, hdat⟩
  refine call_meetsIn F.slot_dict_values raw.typeIs F.entry_dict_values (F.args_dict_values_1 _) (meets_dict_values_raw a hd) ⟨⟨es, ep, raw⟩, ?_⟩
  exact ⟨.ref s.heap.objs.size, upd H s.heap.objs.size (valsO s.heap.objs.size a), I.laid (t' := s.toks) (fun b u e => Heap.get?_push_of_some _ e) (Nat.le_refl _) (valsO_ok (Heap.get?_push_size _ rfl)), rfl, q _ (I.hok.fresh (Nat.le_refl _))⟩
/-- a test of the number n -/
def EltV (prog : Program) (w : World) (scope : Scope) (x : Str) (elt : Expr) (pb : Int → Bool) : Prop :=
  ∀ (ce : Env) (B : Around) (E' : Value → Shared → Prop) (n : Int) (t : Tok) (r : Shared) (mm : Str → Option Value), ce.scope = scope → r.heap.Ns ce.locals mm → mm x = some (.int n t) → wpAny (model prog w) B (eval elt ce) (fun b r' => b = .bool (pb n) ∧ Keeps r r') E' r
theorem elt_neg {prog : Program} {w : World} {scope : Scope} {x : Str} {j : Nat} {p1 p2 p3 : Pos} (hk : scope.kind = .function) (hl : scope.names.lookup x = some .local) (hd : (x == ("__debug__" : Str)) = false := by decide) :
    EltV prog w scope x (.Compare (.Name x p1) [.Lt] [.Constant (.int 0) j p2] p3) (fun n => decide (n < 0)) := by
  intro ce B E' n t r mm hs hn hm
  refine wpAny_Compare1 (wpAny_Name (wpAny_loadName_local (by rw [hs]; exact hk) (show ce.scope.names.lookup x = some .local by rw [hs]; exact hl) hn hm ?_) hd)
  exact wpAny_Constant_int (PySem.P.lt_int ⟨rfl, keeps_tok r _⟩)
theorem gen_vals {c P : Addr} {elt iter : Expr} {x : Str} {px gpos : Pos} {scope : Scope} {pb : Int → Bool} {te : TE} {k : Nat} {Q' : Value → Shared → Prop} {R : List Int → Hp → Prop}
    (hr : Room k X.A) (TB : TabB X.base X.mg c P) (hcode : X.env.code = .ref c) (S : GenS X.env scope x) (hi : PE X iter te) (hel : EltV X.prog X.w scope x elt pb)
    (hs : ∀ v, genFold iter X.env v = pure v) (I : Inv X pins σ H s) (h : te σ H fun v Ha => ∃ (a d : Addr) (kvs : List (List Key × V)) (ns : List Int), v = .ref a ∧ Ha a = some (valsO a d) ∧ Ha d = some (.dT kvs) ∧ kvs.map (·.2) = ns.map V.int ∧ TabG Ha P ∧ R ns Ha)
    (hQ : ∀ ns Ha g r, R ns Ha → KG.ReadyI X pins σ Ha P pb ns g r → Q' (.ref g) r) :
    wpAny (model X.prog X.w) X.A (eval (.GeneratorExp elt [⟨.Name x px, iter, [], 0⟩] scope gpos) X.env) Q' X.xe s := by
  refine wpAny_GeneratorExp_walksQ hr.hd S.co (closure_ok S.free) S.cell S.dot S.loc S.kind (by have := hr.dp; omega) ?_ hs
  refine thn (hi.run pins s σ H _ I h) fun xv ra ⟨v, Ha, Ia, ra1, qa⟩ => ?_
  obtain ⟨a, d, kvs, ns, rfl, hva, hda, hkv, ⟨ps, hP, ht⟩, qa⟩ := qa
  cases ra1
  have view : ra.heap.IsValuesView a d := (show ObjOk X.prog X.w Ha ra.heap a (valsO a d) from Ia.hok a _ hva).1
  obtain ⟨_, _, xs, pr, od, es, ep, hod, hxd, hdt, hes, _, _⟩ := dt_of Ia.hok hda
  have raw : ra.heap.DictRaw d es ep := ⟨od, hod, hxd, hdt⟩
  have l1 : es.size = xs.length := size_of_entries hes
  have l2 : kvs.length = xs.length := Paired.length pr
  have l3 : kvs.length = ns.length := by have := congrArg List.length hkv; rwa [List.length_map, List.length_map] at this
  have num : ∀ (i : Nat) (hi : i < es.size), ∃ n t, ns[i]? = some n ∧ es[i].val = .int n t := fun i hi => by
    have lt : i < kvs.length := by omega
    obtain ⟨b, hb, _, _, r3⟩ := paired_get pr (List.getElem?_eq_getElem lt)
    have q := entry_at hes i
    rw [hb, Array.getElem?_eq_getElem hi] at q
    have e2 : es[i] = entryOfKey (tupleKind (mixKind X.prog X.w)) b := Option.some.inj q
    have e3 : (kvs.map (·.2))[i]? = some kvs[i].2 := by rw [List.getElem?_map, List.getElem?_eq_getElem lt]; rfl
    rw [hkv, List.getElem?_map] at e3
    cases hn : ns[i]? with
    | none => rw [hn] at e3; cases e3
    | some n =>
      rw [hn] at e3
      have e4 : V.int n = kvs[i].2 := Option.some.inj e3
      rw [← e4] at r3
      obtain ⟨t, ht⟩ := r3
      exact ⟨n, t, rfl, by rw [e2]; exact ht⟩
  have ltd : d < ra.heap.objs.size := Heap.lt_size hod
  have dP : d ≠ P := fun z => by
    have := Ia.hok P _ hP
    rw [← z, hda] at hP
    cases hP
  refine wpAny_pyIter_values_raw view raw ?_
  refine gen_mid TB hcode Ia hP ht fun code hp tk more hx lt3 g2 t2 kp lim => ?_
  refine ⟨ra.heap.objs.size, [ra.heap.objs.size, d], [ra.heap.objs.size], es.size, (fun i v => ∃ hi : i < es.size, v = es[i].val), (fun i h => h.IsValIter ra.heap.objs.size d i es.size ep ∧ h.DictRaw d es ep), (fun _ => true), (fun i z => ∃ n, ns[i]? = some n ∧ z = .bool (pb n)), rfl,
    (fun B hB => Walks.rawValues hB ra.heap.objs.size d (Nat.ne_of_lt ltd) es ep), ⟨⟨_, hx _ _ (fun z => ?_) (Heap.get?_push_size _ rfl), rfl, rfl⟩, ⟨od, kp _ _ dP hod, hxd, hdt⟩⟩, ?_, lim, ?_, ?_, ?_⟩
  · have := Heap.lt_size (Ia.hok P _ hP)
    rw [z] at this
    exact Nat.lt_irrefl _ this
  · intro b hb
    simp only [List.mem_cons, List.not_mem_nil, or_false] at hb
    rcases hb with e3 | e3
    · rw [e3]; exact lt3
    · rw [e3]; exact Nat.lt_trans ltd lt3
  · intro z
    rw [List.mem_singleton] at z
    exact Nat.ne_of_lt (let ⟨_, y, _⟩ := Ia.nolimit; y.lt) z
  · intro hq hhq
    refine ⟨fun B E' i v r2 m2 hA hPv hn hm hk => ?_, fun B E' i v r2 m2 hA hPv hpz hn hm hk => ?_⟩
    · simp only [List.forIn_nil]
      exact wpAny_pure ⟨rfl, keeps_refl _⟩
    · obtain ⟨hi, rfl⟩ := hPv
      obtain ⟨n, t, hnn, e⟩ := num i hi
      exact wpAny_mono (hel _ B E' n t r2 m2 rfl hn (by rw [← e]; exact hm)) (fun z r3 q => ⟨⟨n, hnn, q.1⟩, q.2⟩) fun _ _ e => e
  · intro g h5 tk5 gs hgb hag hsz5 hk5 W5 hat
    simp only [GxR.passing_true, List.length_range] at W5
    have le : es.size = ns.length := by omega
    rw [le] at W5 hat
    refine hQ ns Ha g _ qa ⟨_, _, _, _, _, W5.in4_1, hat, ?_, fun r' hm => gen_back Ia hP kp g2 t2 lt3 (fun b hb => ?_) hk5 hgb hm⟩
    · intro j z sj Qj Ej hz hQj
      obtain ⟨i, hij, n, hnn, rfl⟩ := hz
      obtain ⟨hj, ej⟩ := List.getElem?_eq_some_iff.mp hij
      rw [List.getElem_range] at ej
      subst ej
      have e9 : KG.trI pb ns j = pb n := by unfold KG.trI; rw [hnn]; rfl
      have hQ2 : Qj (KG.trI pb ns j) sj := hQj
      rw [e9] at hQ2
      exact wpAny_truthy_bool hQ2
    · simpa using hb
/-- any(test for x in e), e the values of a dict: numbers -/
def tAnyV (P : Addr) (pb : Int → Bool) (te : TE) : TE := fun σ H Q => te σ H fun v Ha => ∃ (a d : Addr) (kvs : List (List Key × V)) (ns : List Int), v = .ref a ∧ Ha a = some (valsO a d) ∧ Ha d = some (.dT kvs) ∧ kvs.map (·.2) = ns.map V.int ∧ TabG Ha P ∧ ∀ Hb, Tabbed P Ha Hb → Q (.bl (ns.any pb)) Hb
theorem pe_anyV {c P : Addr} {elt iter : Expr} {x : Str} {px p pos gpos : Pos} {scope : Scope} {pb : Int → Bool} {te : TE} {k : Nat}
    (hr : Room k X.A) (hg : Gl X "any") (hm : X.mg "any" = none) (TB : TabB X.base X.mg c P) (hcode : X.env.code = .ref c) (S : GenS X.env scope x) (hi : PE X iter te) (hel : EltV X.prog X.w scope x elt pb) (hs : ∀ v, genFold iter X.env v = pure v)
    (he : starEach [.GeneratorExp elt [⟨.Name x px, iter, [], 0⟩] scope gpos] X.env = (false, eval (.GeneratorExp elt [⟨.Name x px, iter, [], 0⟩] scope gpos) X.env) :: starEach [] X.env := by rfl) :
    PE X (.Call (.Name "any" p) [.GeneratorExp elt [⟨.Name x px, iter, [], 0⟩] scope gpos] [] pos) (tAnyV P pb te) := by
  constructor
  intro pins s σ H Q I h
  refine wpAny_Call_Name_kw (ld_blt I hg hm boot_any ?_)
  refine PyProof.Rows.callWith_builtin1 ?_ he (by rfl)
  rw [he]
  show wpAny _ _ (spliced ((false, eval (.GeneratorExp elt [⟨.Name x px, iter, [], 0⟩] scope gpos) X.env) :: backTo pos (starEach [] X.env))) _ _ s
  refine Calls.spliced_cons (gen_vals (R := fun ns Ha => ∀ Hb, Tabbed P Ha Hb → Q (.bl (ns.any pb)) Hb) hr TB hcode S hi hel hs I h fun ns Ha g r hR hG => ?_)
  obtain ⟨fa, fb, G, F, St, W, hst, htr, hI⟩ := hG
  refine Calls.spliced_nil ?_
  refine call_any_walkS (W.self 0 _ _ _ hst ⟨g, fa, fb, G, _, F, St, _, rfl, W, hst, htr, fun r' hmv => ?_⟩)
  obtain ⟨Hb, hT, J⟩ := hI r' hmv
  refine ⟨.bl _, Hb, J, rfl, ?_⟩
  rw [KG.any_trI]
  exact hR Hb hT
end
/-! ### any(len(row) != y for row, _ in pairs) -/
section
variable {X : Cx} {pins : List (Addr × Obj)} {σ : L2.St} {H Ha : Hp} {s ra : Shared}
/-- len(x) != y in the generator's frame -/
theorem elt_len {prog : Program} {w : World} {A : Around} {E : Value → Shared → Prop} {ce : Env} {x y : Str} {p1 p2 p3 p4 p5 : Pos} {r : Shared} {mm mg mb : Str → Option Value} {q c : Addr} {its : Array Value} {m : Int} {u : Tok} (hk : ce.scope.kind = .function) (hx : ce.kindOf x = some .local) (hy : ce.kindOf y = some .free) (hl : ce.kindOf "len" = some .globalImplicit)
    (hn : r.heap.Ns ce.locals mm) (hm : mm x = some (.ref q)) (ht : IsTup r.heap q its) (hz : its.size ≤ sizeLine) (hcy : ce.cells.lookup y = some c) (hcell : r.heap.IsCell c (some (.int m u))) (hg : r.heap.Ns ce.globals mg) (hmg : mg "len" = none) (hb : r.heap.Ns ce.builtins mb) (hmb : mb "len" = some (.builtin "len"))
    (hd : (x == ("__debug__" : Str)) = false := by decide) (hd2 : (y == ("__debug__" : Str)) = false := by decide) (hd3 : (y == ("__classdict__" : Str)) = false := by decide) :
    wpAny (model prog w) A (eval (.Compare (.Call (.Name "len" p1) [.Name x p2] [] p3) [.NotEq] [.Name y p4] p5) ce) (fun b r' => b = .bool (((its.size : Nat) : Int) != m) ∧ Keeps r r') E r := by
  refine wpAny_Compare1 ?_
  refine wpAny_Call_Name_kw (Calls.Name_function_global hk hl (Calls.loadGlobal_builtin hg hmg hb hmb ?_))
  have he : starEach [.Name x p2] ce = (false, eval (.Name x p2) ce) :: starEach [] ce := rfl
  refine PyProof.Rows.callWith_builtin1 ?_ he (by rfl)
  rw [he]
  show wpAny _ _ (spliced ((false, eval (.Name x p2) ce) :: backTo p3 (starEach [] ce))) _ _ r
  refine Calls.spliced_cons (wpAny_Name (wpAny_loadName_local hk hx hn hm ?_) hd)
  refine Calls.spliced_nil ?_
  have line : sizeLine < 2 ^ 63 := by decide
  refine len_tuple ht (by omega) ?_
  refine wpAny_Name (wpAny_loadName_free hk hy hcy hcell ?_ hd3) hd2
  exact PySem.P.ne_int ⟨rfl, keeps_tok r _⟩
end
section
variable {X : Cx} {pins : List (Addr × Obj)} {σ : L2.St} {H Ha : Hp} {s ra : Shared}
/-- a list of pairs (a row's tuple, a thing): the rows' lengths -/
def RowsAt (K : PySem.W.Frag) (H : Hp) (ts : List Addr) (ls : List Nat) : Prop := Paired (fun (t : Addr) (n : Nat) => ∃ (q : Addr) (v : V) (xs : List V), SqT K H t [.ref q, v] ∧ SqT K H q xs ∧ xs.length = n) ts ls
/-- the generator's own scope -/
structure GenS2 (env : Env) (scope : Scope) (xa xb y : Str) : Prop where
  kind : scope.kind = .function
  co : scope.isCoroutine = false
  cell : ∀ y ∈ scope.names, y.2 ≠ .cell
  dot : scope.names.lookup (".0" : Str) = some NameKind.local
  la : scope.names.lookup xa = some .local
  lb : scope.names.lookup xb = some .local
  ne : xa ≠ xb
  fr : scope.names.lookup y = some .free
  len : scope.names.lookup ("len" : Str) = some .globalImplicit
  free : ∀ y ∈ scope.names, y.2 = .free → ∃ c, env.cells.lookup y.1 = some c
theorem gen_pairs {c P : Addr} {iter : Expr} {xa xb y : Str} {pa pb pt gpos p1 p2 p3 p4 p5 : Pos} {kt : Nat} {scope : Scope} {te : TE} {k iy : Nat} {Q' : Value → Shared → Prop} {R : List Nat → Int → Hp → Prop}
    (hr : Room k X.A) (TB : TabB X.base X.mg c P) (hcode : X.env.code = .ref c) (S : GenS2 X.env scope xa xb y) (hlen : X.mg "len" = none) (hi : PE X iter te) (hy : X.N[iy]? = some y) (hyk : X.env.kindOf y = some .cell) (hyc : ∀ d, X.env.cells.lookup y = some d → (cloFrom X.env.cells scope.names []).lookup y = some d)
    (hd : (xa == ("__debug__" : Str)) = false) (hd2 : (y == ("__debug__" : Str)) = false) (hd3 : (y == ("__classdict__" : Str)) = false)
    (hs : ∀ v, genFold iter X.env v = pure v) (I : Inv X pins σ H s) (h : te σ H fun v Ha => ∃ (a : Addr) (ts : List Addr) (ls : List Nat) (m : Int), v = .ref a ∧ SqL X.K Ha a (ts.map V.ref) ∧ RowsAt X.K Ha ts ls ∧ σ[iy]? = some (some (.int m)) ∧ TabG Ha P ∧ R ls m Ha)
    (hQ : ∀ (ls : List Nat) (m : Int) Ha g r, R ls m Ha → KG.ReadyI X pins σ Ha P (fun n => n != m) (ls.map fun (n : Nat) => (n : Int)) g r → Q' (.ref g) r) :
    wpAny (model X.prog X.w) X.A (eval (.GeneratorExp (.Compare (.Call (.Name "len" p1) [.Name xa p2] [] p3) [.NotEq] [.Name y p4] p5) [⟨.Tuple [.Name xa pa, .Name xb pb] kt pt, iter, [], 0⟩] scope gpos) X.env) Q' X.xe s := by
  refine wpAny_GeneratorExp_walksQT hr.hd S.co (closure_ok S.free) S.cell S.dot S.la S.lb S.ne S.kind (by have := hr.dp; omega) ?_ hs
  refine thn (hi.run pins s σ H _ I h) fun xv ra ⟨v, Ha, Ia, ra1, qa⟩ => ?_
  obtain ⟨a, ts, ls, m, rfl, hsq, hrows, hsm, ⟨ps, hP, ht⟩, qa⟩ := qa
  cases ra1
  obtain ⟨us, rv, pl, hz⟩ := Ia.list hsq
  have eus : us = ts.map Value.ref := by
    clear pl hsq hz
    have : ∀ (ts : List Addr) (us : List Value), Vals (ts.map V.ref) us → us = ts.map Value.ref := by
      intro ts
      induction ts with
      | nil => intro us r; cases r; rfl
      | cons t r ih =>
        intro us r
        cases r with
        | cons h z => cases h; rw [ih _ z]; rfl
    exact this ts us rv
  subst eus
  have gP0 : ra.heap.get? P = some { cls := .none, data := .fields ps } := Ia.hok P _ hP
  have noP : ∀ b o, ra.heap.get? b = some o → o.cls ≠ .none → b ≠ P := fun b o e n z => by
    rw [z, gP0] at e
    cases e
    exact n rfl
  -- the pairs and the rows as they stand
  have row : ∀ j, j < ts.length → ∃ (t q : Addr) (vb : Value) (n : Nat) (its : Array Value), ts[j]? = some t ∧ ls[j]? = some n ∧ IsTup ra.heap t #[.ref q, vb] ∧ IsTup ra.heap q its ∧ its.size = n ∧ n ≤ sizeLine := fun j hj => by
    obtain ⟨n, hn, q, v, xs, h1, h2, h3⟩ := paired_get hrows (List.getElem?_eq_getElem hj)
    obtain ⟨i1, r1, t1, _⟩ := Ia.tuple h1
    obtain ⟨i2, r2, t2, z2⟩ := Ia.tuple h2
    cases r1 with
    | cons e1 e2 =>
      cases e1
      cases e2 with
      | cons e3 e4 =>
        cases e4
        exact ⟨_, q, _, n, i2.toArray, List.getElem?_eq_getElem hj, hn, t1, t2, by rw [List.size_toArray, ← r2.length, h3], by omega⟩
  obtain ⟨mm0, hns, hloc⟩ := Ia.loc
  obtain ⟨uy, ⟨ty, huy⟩, hlook⟩ := hloc iy y (.int m) hy hsm (.inr (.inl hyk))
  obtain ⟨cy, hcy, oc, hoc, hdc⟩ : ∃ cy, X.env.cells.lookup y = some cy ∧ ra.heap.IsCell cy (some uy) := by
    rcases hlook with ⟨z, _⟩ | ⟨_, z⟩
    · rw [hyk] at z
      cases z
    · exact z
  subst huy
  have cyP : cy ≠ P := fun z => by
    rw [z, gP0] at hoc
    cases hoc
    cases hdc
  obtain ⟨mb, nb, hmb⟩ := Ia.mod.blt
  have bP : builtinsNs ≠ P := fun e => by
    obtain ⟨o', es, ep, ho, hd', _⟩ := nb.keeps Ia.bk
    rw [e, gP0] at ho
    cases ho
    cases hd'
  obtain ⟨oa, na, hoa, hca, _, hsa⟩ := id pl
  have lta : a < ra.heap.objs.size := Heap.lt_size hoa
  have aP : a ≠ P := noP a oa hoa (by rw [hca]; exact fun z => nomatch z)
  refine wpAny_pyIter_list ⟨oa, hoa, hca, na, hsa⟩ ?_
  refine gen_mid TB hcode Ia hP ht fun code hp tk more hx lt3 g2 t2 kp lim => ?_
  have sz : (ts.map Value.ref).toArray.size = ts.length := by simp
  have itl : hp.get? ra.heap.objs.size = some { cls := .type "list_iterator", data := .fields #[.ref a, .int 0 0] } := hx _ _ (fun z => by
    have := Heap.lt_size gP0
    rw [← z] at this
    exact Nat.lt_irrefl _ this) (Heap.get?_push_size _ rfl)
  obtain ⟨f, hf⟩ := Classical.skolem.mp (show ∀ j : Nat, ∃ z : Addr × Addr × Value × Nat × Array Value, j < ts.length → ts[j]? = some z.1 ∧ ls[j]? = some z.2.2.2.1 ∧ IsTup ra.heap z.1 #[.ref z.2.1, z.2.2.1] ∧ IsTup ra.heap z.2.1 z.2.2.2.2 ∧ z.2.2.2.2.size = z.2.2.2.1 ∧ z.2.2.2.1 ≤ sizeLine from fun j => by
    by_cases hj : j < ts.length
    · obtain ⟨t, q, vb, n, its, r⟩ := row j hj
      exact ⟨(t, q, vb, n, its), fun _ => r⟩
    · exact ⟨(0, 0, .none, 0, #[]), fun z => absurd z hj⟩)
  have tupP : ∀ b its, IsTup ra.heap b its → b ≠ P := fun b its ⟨o, ho, hc, _⟩ => noP b o ho (by rw [hc]; exact fun z => nomatch z)
  have ltT : ∀ j, j < ts.length → (f j).1 < ra.heap.objs.size := fun j hj => let ⟨o, ho, _⟩ := (hf j hj).2.2.1; Heap.lt_size ho
  have stay : ∀ b its, IsTup ra.heap b its → IsTup hp b its := fun b its x => let ⟨o, ho, r⟩ := x; ⟨o, kp b o (tupP b its x) ho, r⟩
  have W : ∀ B : Around, B.handled = none → WalksU X.prog X.w B ra.heap.objs.size _ _ _ _ _ _ := fun B hB => (WalksU.listOfTuples (prog := X.prog) (w := X.w) hB ra.heap.objs.size a (Nat.ne_of_lt lta) (ts.map Value.ref).toArray (fun j => (f j).1) (fun j => #[.ref (f j).2.1, (f j).2.2.1])
    (fun j hj => by
      rw [sz] at hj
      rw [List.getElem?_toArray, List.getElem?_map, (hf j hj).1]
      rfl) (fun j hj => Nat.ne_of_lt (ltT j (by rw [sz] at hj; exact hj)))).bound
  refine ⟨ra.heap.objs.size, _, _, _, _, _, _, (fun _ => true), (fun i z => ∃ n : Nat, ls[i]? = some n ∧ z = .bool (((n : Nat) : Int) != m)), rfl, W, ?_, ⟨⟨_, itl, rfl, rfl⟩, ⟨oa, kp _ _ aP hoa, hca, na, hsa⟩, fun j hj => ?_⟩, ?_, lim, ?_, ?_, ?_⟩
  · rintro i vals ⟨_, rfl⟩
    exact ⟨_, _, rfl⟩
  · rw [sz] at hj
    exact stay _ _ (hf j hj).2.2.1
  · intro b hb
    simp only [List.mem_cons, List.mem_map, List.mem_range] at hb
    rcases hb with e3 | e3 | ⟨j, hj, e3⟩
    · rw [e3]; exact lt3
    · rw [e3]; exact Nat.lt_trans lta lt3
    · rw [← e3]
      rw [sz] at hj
      exact Nat.lt_trans (ltT j hj) lt3
  · intro z
    rw [List.mem_singleton] at z
    exact Nat.ne_of_lt (let ⟨_, y, _⟩ := Ia.nolimit; y.lt) z
  · intro hq hhq
    have kept : ∀ (r2 : Shared), (∀ b ∈ List.range hp.objs.size, b ∉ [ra.heap.objs.size] → ∀ o, hq.get? b = some o → r2.heap.get? b = some o) → ∀ b o, b ≠ P → ra.heap.get? b = some o → r2.heap.get? b = some o := fun r2 hk b o hb e =>
      hk b (List.mem_range.mpr (Nat.lt_trans (Heap.lt_size e) lt3)) (fun z => Nat.ne_of_lt (Heap.lt_size e) (List.mem_singleton.mp z)) o (hhq _ _ (kp b o hb e))
    refine ⟨fun B E' i va vb r2 m2 hA hPv hn h1 h2 hk => ?_, fun B E' i va vb r2 m2 hA hPv hpz hn h1 h2 hk => ?_⟩
    · simp only [List.forIn_nil]
      exact wpAny_pure ⟨rfl, keeps_refl _⟩
    · obtain ⟨hi, e⟩ := hPv
      rw [sz] at hi
      injection e with e1
      injection e1 with e2 e3
      obtain ⟨_, w2, _, ⟨oq, hoq, hcq, nq, hdq⟩, w5, w6⟩ := hf i hi
      have k2 := kept r2 hk
      have ns : ∀ {b : Addr} {mx : Str → Option Value}, b ≠ P → ra.heap.Ns b mx → r2.heap.Ns b mx := fun {b mx} hb x => x.at' fun o e => k2 b o hb e
      refine wpAny_mono (elt_len (x := xa) (y := y) (mg := X.mg) (mb := mb) (q := (f i).2.1) (its := (f i).2.2.2.2) (m := m) (u := ty) S.kind S.la S.fr S.len hn (by rw [← e2]; exact h1) ⟨oq, k2 _ _ (tupP _ _ ⟨oq, hoq, hcq, nq, hdq⟩) hoq, hcq, nq, hdq⟩ (by rw [w5]; exact w6) (hyc _ hcy) ⟨oc, k2 _ _ cyP hoc, hdc⟩
        (show r2.heap.Ns X.env.globals X.mg by rw [Ia.ok.glob]; exact ns TB.gP (Ia.mod.glob.keeps Ia.bk)) hlen (ns bP (nb.keeps Ia.bk)) (hmb "len" (by decide)) hd hd2 hd3) (fun z r3 q => ⟨⟨_, w2, ?_⟩, q.2⟩) fun _ _ e => e
      rw [q.1, w5]
  · intro g h5 tk5 gs hgb hag hsz5 hk5 W5 hat
    simp only [GxR.passing_true, List.length_range] at W5
    have le : (ts.map Value.ref).toArray.size = (ls.map fun (n : Nat) => (n : Int)).length := by rw [sz, List.length_map]; exact Paired.length hrows
    rw [le] at W5 hat
    refine hQ ls m Ha g _ qa ⟨_, _, _, _, _, W5.in4_1, hat, ?_, fun r' hm => gen_back Ia hP kp g2 t2 lt3 (fun b hb => ?_) hk5 hgb hm⟩
    · intro j z sj Qj Ej hz hQj
      obtain ⟨i, hij, n, hnn, rfl⟩ := hz
      obtain ⟨hj, ej⟩ := List.getElem?_eq_some_iff.mp hij
      rw [List.getElem_range] at ej
      subst ej
      have e9 : KG.trI (fun n => n != m) (ls.map fun (n : Nat) => (n : Int)) j = (((n : Nat) : Int) != m) := by unfold KG.trI; rw [List.getElem?_map, hnn]; rfl
      have hQ2 : Qj (KG.trI (fun n => n != m) (ls.map fun (n : Nat) => (n : Int)) j) sj := hQj
      rw [e9] at hQ2
      exact wpAny_truthy_bool hQ2
    · simpa using hb
/-- any(len(row) != y for row, _ in e) -/
def tAnyL (K : PySem.W.Frag) (P : Addr) (iy : Nat) (te : TE) : TE := fun σ H Q => te σ H fun v Ha => ∃ (a : Addr) (ts : List Addr) (ls : List Nat) (m : Int), v = .ref a ∧ SqL K Ha a (ts.map V.ref) ∧ RowsAt K Ha ts ls ∧ σ[iy]? = some (some (.int m)) ∧ TabG Ha P ∧ ∀ Hb, Tabbed P Ha Hb → Q (.bl (ls.any fun n => ((n : Nat) : Int) != m)) Hb
theorem pe_anyL {c P : Addr} {iter : Expr} {xa xb y : Str} {pa pb pt gpos p1 p2 p3 p4 p5 p pos : Pos} {kt : Nat} {scope : Scope} {te : TE} {k iy : Nat}
    (hr : Room k X.A) (hg : Gl X "any") (hm : X.mg "any" = none) (TB : TabB X.base X.mg c P) (hcode : X.env.code = .ref c) (S : GenS2 X.env scope xa xb y) (hlen : X.mg "len" = none) (hi : PE X iter te) (hy : X.N[iy]? = some y) (hyk : X.env.kindOf y = some .cell) (hyc : ∀ d, X.env.cells.lookup y = some d → (cloFrom X.env.cells scope.names []).lookup y = some d)
    (hs : ∀ v, genFold iter X.env v = pure v) (hd : (xa == ("__debug__" : Str)) = false := by decide) (hd2 : (y == ("__debug__" : Str)) = false := by decide) (hd3 : (y == ("__classdict__" : Str)) = false := by decide)
    (he : starEach [.GeneratorExp (.Compare (.Call (.Name "len" p1) [.Name xa p2] [] p3) [.NotEq] [.Name y p4] p5) [⟨.Tuple [.Name xa pa, .Name xb pb] kt pt, iter, [], 0⟩] scope gpos] X.env = (false, eval (.GeneratorExp (.Compare (.Call (.Name "len" p1) [.Name xa p2] [] p3) [.NotEq] [.Name y p4] p5) [⟨.Tuple [.Name xa pa, .Name xb pb] kt pt, iter, [], 0⟩] scope gpos) X.env) :: starEach [] X.env := by rfl) :
    PE X (.Call (.Name "any" p) [.GeneratorExp (.Compare (.Call (.Name "len" p1) [.Name xa p2] [] p3) [.NotEq] [.Name y p4] p5) [⟨.Tuple [.Name xa pa, .Name xb pb] kt pt, iter, [], 0⟩] scope gpos] [] pos) (tAnyL X.K P iy te) := by
  constructor
  intro pins s σ H Q I h
  refine wpAny_Call_Name_kw (ld_blt I hg hm boot_any ?_)
  refine PyProof.Rows.callWith_builtin1 ?_ he (by rfl)
  rw [he]
  show wpAny _ _ (spliced ((false, eval (.GeneratorExp (.Compare (.Call (.Name "len" p1) [.Name xa p2] [] p3) [.NotEq] [.Name y p4] p5) [⟨.Tuple [.Name xa pa, .Name xb pb] kt pt, iter, [], 0⟩] scope gpos) X.env) :: backTo pos (starEach [] X.env))) _ _ s
  refine Calls.spliced_cons (gen_pairs (R := fun ls m Ha => ∀ Hb, Tabbed P Ha Hb → Q (.bl (ls.any fun n => ((n : Nat) : Int) != m)) Hb) hr TB hcode S hlen hi hy hyk hyc hd hd2 hd3 hs I h fun ls m Ha g r hR hG => ?_)
  obtain ⟨fa, fb, G, F, St, W, hst, htr, hI⟩ := hG
  refine Calls.spliced_nil ?_
  refine call_any_walkS (W.self 0 _ _ _ hst ⟨g, fa, fb, G, _, F, St, _, rfl, W, hst, htr, fun r' hmv => ?_⟩)
  obtain ⟨Hb, hT, J⟩ := hI r' hmv
  refine ⟨.bl _, Hb, J, rfl, ?_⟩
  rw [KG.any_trI, List.any_map]
  exact hR Hb hT
end
end KN

/-! KHp: heaps: lists of a row and a number, as they stand in dicts; what the program's works do with them. -/
namespace KH
open PySem PySem.Spec PyProof.Rows L2 Evl KB KD KS
abbrev Rows := List (List Int × Int)
/-- the number of a row -/
def valI (L : Rows) (n : List Int) : Option Int := match L with
  | [] => none
  | p :: r => if p.1 = n then some p.2 else valI r n
def hasI (L : Rows) (n : List Int) : Bool := L.any fun p => decide (p.1 = n)
/-- d[n] = c -/
def putI (L : Rows) (n : List Int) (c : Int) : Rows := if hasI L n = true then L.map fun p => if p.1 = n then (p.1, c) else p else L ++ [(n, c)]
theorem inl_inj {n m : List Int} : (n.map Sum.inl : List Key) = m.map Sum.inl ↔ n = m := List.map_inj_right fun _ _ z => Sum.inl.inj z
theorem valV_ent (n : List Int) : ∀ L : Rows, valV (L.map entI) (n.map Sum.inl) = (valI L n).map V.int
  | [] => rfl
  | p :: r => by
    rw [List.map_cons]
    unfold valI
    by_cases e : p.1 = n
    · rw [valV_pos (show (entI p).1 = n.map Sum.inl by rw [← e]), if_pos e]
      rfl
    · rw [valV_neg (show ¬ (entI p).1 = n.map Sum.inl from fun z => e (inl_inj.mp z)), if_neg e]
      exact valV_ent n r
theorem has_ent (n : List Int) (L : Rows) : ((L.map entI).any fun kv => decide (kv.1 = (n.map Sum.inl : List Key))) = hasI L n := by
  rw [List.any_map]
  unfold hasI
  congr 1
  funext p
  exact decide_eq_decide.mpr inl_inj
theorem putK_ent (L : Rows) (n : List Int) (c : Int) : putK (L.map entI) (n.map Sum.inl) (.int c) = (putI L n c).map entI := by
  unfold putK putI
  rw [has_ent]
  by_cases h : hasI L n = true
  · rw [if_pos h, if_pos h, List.map_map, List.map_map]
    congr 1
    funext p
    show (if (entI p).1 = _ then _ else _) = entI (if p.1 = n then _ else _)
    by_cases e : p.1 = n
    · rw [if_pos (by rw [← e]), if_pos e]
    · rw [if_neg (fun z => e (inl_inj.mp z)), if_neg e]
  · rw [if_neg h, if_neg h, List.map_append]
    rfl
theorem put_new {L : Rows} {n : List Int} {c : Int} (h : n ∉ L.map (·.1)) : putI L n c = L ++ [(n, c)] := by
  unfold putI
  refine if_neg fun z => h ?_
  obtain ⟨p, hp, e⟩ := List.any_eq_true.mp z
  exact List.mem_map.mpr ⟨p, hp, of_decide_eq_true e⟩
/-- a dict of such rows at d -/
abbrev HeapAt (H : Hp) (d : Addr) (L : Rows) : Prop := H d = some (.dT (L.map entI))
/-! ### {row: .. for row, count in d.items() if ..} -/
def StT (D : Addr) (H : Hp) (y z : V) (H' : Hp) : Prop := ∃ kvs k b, H D = some (.dT kvs) ∧ y = .ref b ∧ H b = some (.tup (k.map kV)) ∧ kvs.length < sizeLine ∧ H' = upd H D (.dT (putK kvs k z))
theorem dk_tup {X : Cx} (hu : X.A.units + 1 < cLine) : DcKind X (.dT []) StT := ⟨fun h G hb => dt_empty h hb, fun Y hp hw hA pins σ G G' r D y z u t Q E I st ry rz q => by
  obtain ⟨kvs, k, b, e1, rfl, e2, e3, rfl⟩ := st
  obtain rfl : u = .ref b := ry
  exact set_tup (by rw [hA]; exact hu) I e1 e2 e3 rz q⟩
def pick (f : List Int × Int → Option Int) (L : Rows) : Rows := L.filterMap fun p => (f p).map fun c => (p.1, c)
theorem pick_keys {f : List Int × Int → Option Int} : ∀ {L : Rows} {n : List Int}, n ∈ (pick f L).map (·.1) → n ∈ L.map (·.1)
  | p :: r, n, h => by
    unfold pick at h
    rw [List.filterMap_cons] at h
    cases e : f p with
    | none =>
      rw [e] at h
      exact List.mem_cons_of_mem _ (pick_keys h)
    | some c =>
      rw [e] at h
      rcases List.mem_cons.mp h with z | z
      · rw [z]; exact List.mem_cons_self
      · exact List.mem_cons_of_mem _ (pick_keys z)
theorem pick_len {f : List Int × Int → Option Int} (L : Rows) : (pick f L).length ≤ L.length := List.length_filterMap_le _ _
theorem nodup_take {L : Rows} {i : Nat} {p : List Int × Int} (nd : (L.map (·.1)).Nodup) (h : L[i]? = some p) : p.1 ∉ (L.take i).map (·.1) := fun z => by
  obtain ⟨q, hq, e⟩ := List.mem_map.mp z
  obtain ⟨j, hj⟩ := List.mem_iff_getElem?.mp hq
  have lt : j < i := by
    have := (List.getElem?_eq_some_iff.mp hj).1
    rw [List.length_take] at this
    omega
  rw [List.getElem?_take_of_lt lt] at hj
  have w1 : (L.map (·.1))[j]? = some p.1 := by rw [List.getElem?_map, hj, ← e]; rfl
  have w2 : (L.map (·.1))[i]? = some p.1 := by rw [List.getElem?_map, h]; rfl
  have := (List.getElem?_inj (List.getElem?_eq_some_iff.mp w1).1 nd).mp (w1.trans w2.symm)
  omega
def EvD (te : TE) (σ : L2.St) (H : Hp) (L : Rows) : Prop := ∀ Q : VK, (∀ p H2, H p = none → Ex H H2 → HeapAt H2 p L → Q (.ref p) H2) → te σ H Q
section
variable {K : PySem.W.Frag} {σ : L2.St} {H : Hp} {tt : TT} {tv : TE} {vs : List Nat} {jh i1 i2 : Nat}
theorem ev_dc {d : Addr} {L : Rows} (f : List Int × Int → Option Int) (hv : σ[jh]? = some (some (.ref d))) (hd : HeapAt H d L) (nd : (L.map (·.1)).Nodup) (len : L.length ≤ 1000)
    (hw : ∀ x y, wipe (((wipe σ vs).set i1 (some x)).set i2 (some y)) vs = wipe σ vs) (hi : ∀ x y, (((wipe σ vs).set i1 (some x)).set i2 (some y))[i1]? = some (some x))
    (ht : ∀ (p : List Int × Int) (q : Addr) (H1 : Hp) (Q : Bool → Hp → Prop), Q (f p).isSome H1 → tt (((wipe σ vs).set i1 (some (.ref q))).set i2 (some (.int p.2))) H1 Q)
    (hx : ∀ (p : List Int × Int) (c : Int) (q : Addr) (H1 : Hp) (Q : VK), f p = some c → Q (.int c) H1 → tv (((wipe σ vs).set i1 (some (.ref q))).set i2 (some (.int p.2))) H1 Q) :
    EvD (tLockE (tDcG (.dT []) StT (iItemsT (tVar jh)) (gTup K 2 (gCons (gName i1) (gCons (gName i2) gNil))) tt (tVar i1) tv vs)) σ H (pick f L) := fun Q q => by
  refine ⟨d, .dT (L.map entI), hd, True.intro, fun od => ?_⟩
  refine ⟨_, hv, d, od, L.map entI, rfl, upd_same, fun D hD => ?_⟩
  have dD : D ≠ d := fun z => by rw [z, upd_same] at hD; cases hD
  have free : H D = none := by rwa [upd_ne dD] at hD
  let Pv : Nat → Hp → Prop := fun i G => (∀ a o, a ≠ d → H a = some o → G a = some o) ∧ G d = some (.frz od (.dT (L.map entI))) ∧ HeapAt G D (pick f (L.take i))
  have p0 : Pv 0 (upd (upd H d (.frz od (.dT (L.map entI)))) D (.dT [])) := ⟨fun a o n e => by rw [upd_ne (ne_of_none e free), upd_ne n]; exact e, by rw [upd_ne dD.symm, upd_same], upd_same⟩
  refine ⟨fun i m G => m = L.length - i ∧ i ≤ L.length ∧ Pv i G, ⟨_, rfl, Nat.zero_le _, p0⟩, ?_⟩
  rintro i m G ⟨rfl, hi', k1, k2, k3⟩
  by_cases lt : i < L.length
  · refine .inr ⟨⟨k2, by rw [List.length_map]; exact lt⟩, Pv (i + 1), fun G' p' => ⟨L.length - (i + 1), by omega, rfl, lt, p'⟩, ?_⟩
    rintro x G1 ⟨T, k, v, qk, hkv, rfl, nT, hq, rfl⟩
    rw [List.getElem?_map, List.getElem?_eq_getElem lt] at hkv
    obtain ⟨p, hp⟩ : ∃ p, L[i] = p := ⟨_, rfl⟩
    rw [hp] at hkv
    cases hkv
    have at_ : L[i]? = some p := by rw [List.getElem?_eq_getElem lt, hp]
    have Td : T ≠ d := fun z => by rw [z, k2] at nT; cases nT
    have TD : T ≠ D := fun z => by rw [z, k3] at nT; cases nT
    have k1' : ∀ a o, a ≠ d → H a = some o → upd G T (.tup [.ref qk, .int p.2]) a = some o := fun a o n e => by rw [upd_ne (ne_of_none (k1 a o n e) nT)]; exact k1 a o n e
    refine ⟨T, _, rfl, st_of upd_same, rfl, _, _, rfl, _, _, rfl, rfl, hw _ _, ht p qk _ _ ?_⟩
    have tk : pick f (L.take (i + 1)) = pick f (L.take i) ++ ((f p).map fun c => (p.1, c)).toList := by
      unfold pick
      rw [List.take_add_one, at_, List.filterMap_append]
      cases e : f p <;> simp [e]
    cases e : f p with
    | none =>
      show Pv (i + 1) _
      refine ⟨k1', by rw [upd_ne Td.symm]; exact k2, ?_⟩
      show upd G T _ D = _
      rw [upd_ne TD.symm, tk, e]
      exact k3.trans (by rw [Option.map_none]; simp)
    | some c =>
      refine ⟨_, hi _ _, hx p c qk _ _ e ⟨upd (upd G T (.tup [.ref qk, .int p.2])) D (.dT ((pick f (L.take (i + 1))).map entI)), ?_⟩⟩
      · refine ⟨⟨_, p.1.map Sum.inl, qk, by rw [upd_ne TD.symm]; exact k3, rfl, by rw [upd_ne (ne_of_none hq nT)]; exact hq, ?_, ?_⟩, fun a o n z => ?_, ?_, upd_same⟩
        · rw [List.length_map]
          have := pick_len (f := f) (L.take i)
          rw [List.length_take] at this
          exact sz_lt (by omega)
        · rw [putK_ent, put_new (fun z => nodup_take nd at_ (pick_keys z)), tk, e]
          rfl
        · rw [upd_ne (ne_of_none z free)]
          exact k1' a o n z
        · rw [upd_ne dD.symm, upd_ne Td.symm]
          exact k2
  · have e : i = L.length := by omega
    subst e
    refine .inl ⟨⟨k2, by rw [List.length_map]; exact Nat.le_refl _⟩, k2, q D _ free (fun a o z => ?_) ?_⟩
    · by_cases n : a = d
      · rw [n, upd_same]
        rw [n] at z
        exact hd.symm.trans z
      · rw [upd_ne n]
        exact k1 a o n z
    · show upd G d _ D = _
      rw [upd_ne dD]
      rw [List.take_length] at k3
      exact k3
end
end KH
namespace KD
open PySem L2
theorem paired_at {α β : Type} {G : α → β → Prop} {l : List α} {m : List β} (h : Paired G l m) {i : Nat} {a : α} (e : l[i]? = some a) : ∃ b, m[i]? = some b ∧ G a b := paired_get h e
end KD

/-! KL: [e for row, count in heap.items()], a list of pairs of rows and numbers. -/
namespace KH
open PySem PySem.Spec PyProof.Rows L2 Evl KB KD KS
def PairAt (H : Hp) (t : Addr) (z : List Int × Int) : Prop := ∃ q, H t = some (.tup [.ref q, .int z.2]) ∧ H q = some (.tup (z.1.map V.int))
/-- tuples stay -/
def Tups (H H' : Hp) : Prop := ∀ a xs, H a = some (.tup xs) → H' a = some (.tup xs)
theorem Tups.of {H H' : Hp} (e : Ex H H') : Tups H H' := fun a _ h => e a _ h
theorem Tups.trans {H H1 H2 : Hp} (a : Tups H H1) (b : Tups H1 H2) : Tups H H2 := fun p xs h => b p xs (a p xs h)
theorem Tups.mut {H : Hp} {a : Addr} {u o : HO} (h : H a = some u) (n : ∀ xs, u ≠ .tup xs) : Tups H (upd H a o) := fun p xs e => by
  rw [upd_ne (fun z => by rw [z, h] at e; exact n xs (Option.some.inj e))]
  exact e
theorem PairAt.keep {H H' : Hp} {t : Addr} {z : List Int × Int} (k : Tups H H') (h : PairAt H t z) : PairAt H' t z := let ⟨q, a, b⟩ := h; ⟨q, k _ _ a, k _ _ b⟩
theorem pairs_keep {H H' : Hp} (k : Tups H H') : ∀ {ts : List Addr} {ps : Rows}, Paired (PairAt H) ts ps → Paired (PairAt H') ts ps
  | _, _, .nil => .nil
  | _, _, .cons h r => .cons (h.keep k) (pairs_keep k r)
theorem pairs_snoc {H : Hp} {t : Addr} {z : List Int × Int} : ∀ {ts : List Addr} {ps : Rows}, Paired (PairAt H) ts ps → PairAt H t z → Paired (PairAt H) (ts ++ [t]) (ps ++ [z])
  | _, _, .nil, h => .cons h .nil
  | _, _, .cons x r, h => .cons x (pairs_snoc r h)
section
variable {K : PySem.W.Frag} {σ : L2.St} {H : Hp} {te : TE} {vs : List Nat} {jh i1 i2 : Nat}
theorem ev_lc {d : Addr} {L : Rows} (F : List Int × Int → List Int × Int) (hv : σ[jh]? = some (some (.ref d))) (hd : HeapAt H d L) (len : L.length ≤ 1000)
    (hw : ∀ x y, wipe (((wipe σ vs).set i1 (some x)).set i2 (some y)) vs = wipe σ vs)
    (hx : ∀ (p : List Int × Int) (q : Addr) (H1 : Hp) (Q : VK), p ∈ L → H1 q = some (.tup (p.1.map V.int)) → Tups H H1 → (∀ t H2, Ex H1 H2 → PairAt H2 t (F p) → Q (.ref t) H2) → te (((wipe σ vs).set i1 (some (.ref q))).set i2 (some (.int p.2))) H1 Q)
    (Q : VK) (q : ∀ (l : Addr) (ts : List Addr) (H2 : Hp), H l = none → Ex H H2 → H2 l = some (.lst (ts.map V.ref)) → Paired (PairAt H2) ts (L.map F) → Q (.ref l) H2) :
    tLockE (tLc (iItemsT (tVar jh)) (gTup K 2 (gCons (gName i1) (gCons (gName i2) gNil))) tYes te vs) σ H Q := by
  refine ⟨d, .dT (L.map entI), hd, True.intro, fun od => ?_⟩
  refine ⟨_, hv, d, od, L.map entI, rfl, upd_same, fun D hD => ?_⟩
  have dD : D ≠ d := fun z => by rw [z, upd_same] at hD; cases hD
  have free : H D = none := by rwa [upd_ne dD] at hD
  let Pv : Nat → Hp → Prop := fun i G => (∀ a o, a ≠ d → H a = some o → G a = some o) ∧ G d = some (.frz od (.dT (L.map entI))) ∧ ∃ ts : List Addr, G D = some (.lst (ts.map V.ref)) ∧ ts.length = i ∧ Paired (PairAt G) ts ((L.take i).map F)
  have p0 : Pv 0 (upd (upd H d (.frz od (.dT (L.map entI)))) D (.lst [])) := ⟨fun a o n e => by rw [upd_ne (ne_of_none e free), upd_ne n]; exact e, by rw [upd_ne dD.symm, upd_same], [], upd_same, rfl, .nil⟩
  refine ⟨fun i m G => m = L.length - i ∧ i ≤ L.length ∧ Pv i G, ⟨_, rfl, Nat.zero_le _, p0⟩, ?_⟩
  rintro i m G ⟨rfl, hi', k1, k2, ts, k3, k5, k4⟩
  by_cases lt : i < L.length
  · refine .inr ⟨⟨k2, by rw [List.length_map]; exact lt⟩, Pv (i + 1), fun G' p' => ⟨L.length - (i + 1), by omega, rfl, lt, p'⟩, ?_⟩
    rintro x G1 ⟨T, k, v, qk, hkv, rfl, nT, hq, rfl⟩
    rw [List.getElem?_map, List.getElem?_eq_getElem lt] at hkv
    obtain ⟨p, hp⟩ : ∃ p, L[i] = p := ⟨_, rfl⟩
    rw [hp] at hkv
    cases hkv
    have at_ : L[i]? = some p := by rw [List.getElem?_eq_getElem lt, hp]
    have exT : Ex G (upd G T (.tup [.ref qk, .int p.2])) := Ex.new nT
    have hq' : G qk = some (.tup (p.1.map V.int)) := by rw [hq]; exact congrArg some (congrArg HO.tup (ints_inl p.1))
    refine ⟨T, _, rfl, st_of upd_same, rfl, _, _, rfl, _, _, rfl, rfl, hw _ _, ?_⟩
    refine hx p qk _ _ (List.mem_of_getElem? at_) (exT _ _ hq') (fun a xs e => ?_) fun t H2 e2 ht => ?_
    · have ad : a ≠ d := fun z => by rw [z, hd] at e; cases e
      exact exT _ _ (k1 a _ ad e)
    · refine ⟨_, e2 _ _ (exT _ _ k3), sz_lt (by rw [List.length_map, k5]; omega), ?_⟩
      have tu : Tups H2 (upd H2 D (.lst (ts.map V.ref ++ [.ref t]))) := Tups.mut (e2 _ _ (exT _ _ k3)) (fun _ z => nomatch z)
      refine ⟨fun a o n z => ?_, ?_, ts ++ [t], ?_, by rw [List.length_append, k5]; rfl, ?_⟩
      · rw [upd_ne (ne_of_none z free)]
        exact e2 _ _ (exT _ _ (k1 a o n z))
      · rw [upd_ne dD.symm]
        exact e2 _ _ (exT _ _ k2)
      · rw [upd_same, List.map_append]
        rfl
      · rw [List.take_add_one, at_, List.map_append]
        exact pairs_snoc (pairs_keep ((Tups.of (exT.trans e2)).trans tu) k4) (ht.keep tu)
  · have e : i = L.length := by omega
    subst e
    refine .inl ⟨⟨k2, by rw [List.length_map]; exact Nat.le_refl _⟩, k2, ?_⟩
    rw [List.take_length] at k4
    refine q D ts _ free (fun a o z => ?_) ?_ (pairs_keep (Tups.mut k2 (fun _ z => nomatch z)) k4)
    · by_cases n : a = d
      · rw [n, upd_same]
        rw [n] at z
        exact hd.symm.trans z
      · rw [upd_ne n]
        exact k1 a o n z
    · rw [upd_ne dD]
      exact k3
end
section
variable {K : PySem.W.Frag} {σ : L2.St} {H : Hp} {vs : List Nat} {jh j : Nat}
/-- [{} for x in xs] -/
theorem ev_empties {a : Addr} {xs : List V} (hv : σ[jh]? = some (some (.ref a))) (hs : SqL K H a xs) (hz : xs.length ≤ 1000) (hw : ∀ x, wipe ((wipe σ vs).set j (some x)) vs = wipe σ vs) (Q : VK)
    (q : ∀ (D : Addr) (ds : List Addr) (H2 : Hp), H D = none → Ex H H2 → H2 D = some (.lst (ds.map V.ref)) → ds.length = xs.length → ds.Nodup → (∀ d ∈ ds, H d = none ∧ H2 d = some (.dT [])) → Q (.ref D) H2) :
    tLc (iList K (tVar jh)) (gName j) tYes tDNewT vs σ H Q := by
  refine ⟨_, hv, a, rfl, ⟨xs, hs⟩, fun D hD => ?_⟩
  refine lc_list (xs := xs) (fun i G => Ex H G ∧ ∃ ds : List Addr, G D = some (.lst (ds.map V.ref)) ∧ ds.length = i ∧ ds.Nodup ∧ ∀ d ∈ ds, H d = none ∧ G d = some (.dT [])) ⟨Ex.new hD, [], upd_same, rfl, List.nodup_nil, fun d h => nomatch h⟩ (fun i G _ p => ex_l p.1 hs) (fun i x G hi ⟨e, ds, hds, hl, nd, hd⟩ => ?_) (fun G ⟨e, ds, hds, hl, nd, hd⟩ => q D ds G hD e hds hl nd hd)
  refine ⟨hw x, fun d hd' => ?_⟩
  have e1 := Ex.new (o := .dT []) hd'
  have lt : i < xs.length := (List.getElem?_eq_some_iff.mp hi).1
  have fr : H d = none := fresh_back e hd'
  have nD : D ≠ d := fun z => by rw [z, hd'] at hds; cases hds
  refine ⟨_, e1 _ _ hds, sz_lt (by rw [List.length_map]; omega), Ex.mut (e.trans e1) hD, ds ++ [d], by rw [upd_same, List.map_append]; rfl, by rw [List.length_append, hl]; rfl, ?_, fun z hz' => ?_⟩
  · refine List.nodup_append.mpr ⟨nd, List.nodup_cons.mpr ⟨by simp, List.nodup_nil⟩, fun y hy b hb e2 => ?_⟩
    rw [List.mem_singleton.mp hb] at e2
    rw [e2] at hy
    have := (hd d hy).2
    rw [hd'] at this
    cases this
  · rcases List.mem_append.mp hz' with h | h
    · obtain ⟨h1, h2⟩ := hd z h
      have zD : z ≠ D := fun y => by rw [y, hds] at h2; cases h2
      exact ⟨h1, by rw [upd_ne zD]; exact e1 _ _ h2⟩
    · rw [List.mem_singleton.mp h]
      exact ⟨fr, by rw [upd_ne nD.symm]; exact upd_same⟩
end
end KH

/-! KMe: methods: one that may raise, its ways out as the caller's slots stand; a def whose code object is known and that raises nothing; what stays while some lists change. -/
namespace KB
open PySem PySem.Spec PyProof.Rows L2 Evl
section
variable {X : Cx}
def tMethE (C : Addr) (m : Str) (sp : Sp) (E : L2.St → XK) (ta : TE) (t : TA) : TE := fun σ H Q => ta σ H fun x H1 => ∃ (a dx : Addr) (fs : List (Str × V)), x = .ref a ∧ H1 a = some (.ins C dx fs) ∧ fs.lookup m = none ∧ t σ H1 fun vs H2 => sp (x :: vs) H2 Q (E σ)
theorem pe_methE {cx : CXT} {k : Nat} {f C : Addr} {fd : FuncData} {ps : List Str} {sp : Sp} {E : L2.St → XK} {m : Str} {pos apos : Pos} {e o : Expr} {es : List Expr} {ta : TE} {t : TA} {pl : Sem Bool}
    (ho : PE X o ta) (c : Cls X.K C) (hm : Meth X.K C m f) (F : FnOk X.prog X.w X.K X.mg X.base cx k f fd ps sp) (hr : Room k X.A) (hb : L2.Binds X.K fd ps []) (hx : ∀ σ, PassesAt cx X σ (E σ)) (ha : PA X (e :: es) t)
    (h1 : starEach (e :: es) X.env = (false, eval e X.env) :: starEach es X.env := by rfl) (h2 : ((backTo pos (starEach es X.env)).any fun x => x.1) = false := by rfl)
    (h3 : eval ((o.Attribute m apos).Call (e :: es) [] pos) X.env = (do
      let ov ← eval o X.env
      standAt apos.atName
      let (f, first) ← holding [ov] (getMethod ov m pl)
      callWith pos f first (backTo pos (starEach (e :: es) X.env)) (backToKw pos (keywordEach [] X.env))) := by rfl) :
    PE X ((o.Attribute m apos).Call (e :: es) [] pos) (tMethE C m sp E ta t) := by
  constructor
  intro pins s σ H Q I h
  refine W.methodCall_KW (thn (ho.run pins s σ H _ I h) fun u s1 hu => ?_) h3
  obtain ⟨x, H1, I1, rx, a, dx, fs, ex, ea, l, q⟩ := hu
  subst ex
  obtain rfl : u = Value.ref a := rx
  refine getmeth_ok I1 ea c hm l (W.callWith_K I.ok.mod.kin hm.kp (thn (ha.run pos pins s1 σ H1 _ I1 q) fun us s2 hu2 => ?_) h1 h2)
  obtain ⟨vs, H2, I2, r, q2⟩ := hu2
  exact ⟨Inv.kIn I2, run_fnS F hr hb (hx σ) I2 (Paired.cons (show L2.RelV (V.ref a) (Value.ref a) from rfl) r) q2⟩
end
/-- a def whose code object's place is known, that raises nothing -/
theorem okC0 {P : Program} {w : World} {K : PySem.W.Frag} {mg : Str → Option Value} {base : Heap} {x qual : Str} {st : Stmt} {f : Addr} {oc kV doc pm cdv ct : Value} {od an : Option Addr} {osl : Array (Option Value)} {N ps : List Str} {k : Nat} {sp : Sp}
    (lk : K.lookup f = some ⟨oc, od, .func (PySem.W.fnOf x qual (defArgs st) (defBody st) (defScope st) .none kV doc pm an cdv ct), osl⟩) (hcd : PySem.W.codeIn K cdv qual = true) (S : FnScope N ps (defScope st)) (len : ∀ vs H Q E, sp vs H Q E → vs.length = ps.length)
    (hbody : ∀ (A : Around) (outer : List Env) (s : Shared) (H : Hp) (vs : List V) (Q : VK) (E : XK), Room k (A.deeper (envOfC qual (defScope st) s.heap.objs.size f cdv)) → sp vs H Q E →
      ∃ t, PSs (cxOf CX0 P w K mg base N qual (defScope st) f cdv A outer s H E) (defBody st) t ∧ t { nx := fun _ H' => Q .non H', rt := Q } (start N vs) H) :
    FnOk P w K mg base CX0 (k + 1) f (PySem.W.fnOf x qual (defArgs st) (defBody st) (defScope st) .none kV doc pm an cdv ct) ps sp :=
  fn_of lk hcd S len fun A outer s H vs Q E hr h => hbody A outer s H vs Q E hr h
/-- defs that may raise, where what they raise has no context -/
theorem okXN {P : Program} {w : World} {K : PySem.W.Frag} {mg : Str → Option Value} {base : Heap} {x qual : Str} {st : Stmt} {f : Addr} {fd : FuncData} {N ps : List Str} {k : Nat} {sp : Sp} (F : Fun K x qual st f fd) (S : FnScope N ps (defScope st)) (len : ∀ vs H Q E, sp vs H Q E → vs.length = ps.length)
    (hbody : ∀ (cdv : Value) (A : Around) (outer : List Env) (s : Shared) (H : Hp) (vs : List V) (Q : VK) (E : XK), Room k (A.deeper (envOfC qual (defScope st) s.heap.objs.size f cdv)) → sp vs H Q E →
      ∃ t, PSs (cxOf (L2N.CX P w) P w K mg base N qual (defScope st) f cdv A outer s H E) (defBody st) t ∧ t { nx := fun _ H' => Q .non H', rt := Q } (start N vs) H) :
    FnOk P w K mg base (L2N.CX P w) (k + 1) f fd ps sp := by
  obtain ⟨oc, od, kV, doc, pm, an, cdv, ct, osl, rfl, lk, hcd⟩ := F.ex
  exact fn_of lk hcd S len fun A outer s H vs Q E hr h => hbody cdv A outer s H vs Q E hr h
theorem okNC {P : Program} {w : World} {K : PySem.W.Frag} {mg : Str → Option Value} {base : Heap} {x qual : Str} {st : Stmt} {f : Addr} {oc kV doc pm cdv ct : Value} {od an : Option Addr} {osl : Array (Option Value)} {N ps : List Str} {k : Nat} {sp : Sp}
    (lk : K.lookup f = some ⟨oc, od, .func (PySem.W.fnOf x qual (defArgs st) (defBody st) (defScope st) .none kV doc pm an cdv ct), osl⟩) (hcd : PySem.W.codeIn K cdv qual = true) (S : FnScope N ps (defScope st)) (len : ∀ vs H Q E, sp vs H Q E → vs.length = ps.length)
    (hbody : ∀ (A : Around) (outer : List Env) (s : Shared) (H : Hp) (vs : List V) (Q : VK) (E : XK), Room k (A.deeper (envOfC qual (defScope st) s.heap.objs.size f cdv)) → sp vs H Q E →
      ∃ t, PSs (cxOf (L2N.CX P w) P w K mg base N qual (defScope st) f cdv A outer s H E) (defBody st) t ∧ t { nx := fun _ H' => Q .non H', rt := Q } (start N vs) H) :
    FnOk P w K mg base (L2N.CX P w) (k + 1) f (PySem.W.fnOf x qual (defArgs st) (defBody st) (defScope st) .none kV doc pm an cdv ct) ps sp :=
  fn_of lk hcd S len fun A outer s H vs Q E hr h => hbody A outer s H vs Q E hr h
/-- a method: the class's own def of that name -/
structure MtAt (K : PySem.W.Frag) (C : Addr) (x qual : Str) (st : Stmt) (ps : List Str) (f : Addr) (fd : FuncData) : Prop where
  m : Meth K C x f
  F : Fun K x qual st f fd
  b : Binds K fd ps []
/-! ### what stays while the lists of M change -/
structure XM (M : List Addr) (H H' : Hp) : Prop where
  at_ : ∀ (a : Addr) (o : HO), (∀ ps, o ≠ .tbl ps) → a ∉ M → H a = some o → H' a = some o
  tab : ∀ P : Addr, GxR.TabG H P → GxR.TabG H' P
theorem XM.of {M : List Addr} {H H' : Hp} (e : XT H H') : XM M H H' := ⟨fun a o n _ h => e.at_ a o n h, e.tab⟩
theorem XM.ex {M : List Addr} {H H' : Hp} (e : Ex H H') : XM M H H' := XM.of (XT.of_ex e)
theorem XM.refl {M : List Addr} (H : Hp) : XM M H H := XM.of (XT.refl H)
theorem XM.trans {M : List Addr} {H H1 H2 : Hp} (a : XM M H H1) (b : XM M H1 H2) : XM M H H2 := ⟨fun p o n m h => b.at_ p o n m (a.at_ p o n m h), fun P h => b.tab P (a.tab P h)⟩
theorem XM.xt {H H' : Hp} (e : XM [] H H') : XT H H' := ⟨fun a o n h => e.at_ a o n (fun z => nomatch z) h, e.tab⟩
theorem XM.mono {M M' : List Addr} {H H' : Hp} (e : XM M H H') (h : ∀ a ∈ M, a ∈ M') : XM M' H H' := ⟨fun a o n m z => e.at_ a o n (fun y => m (h a y)) z, e.tab⟩
theorem XM.upd {M : List Addr} {H : Hp} {a : Addr} {xs : List V} {o : HO} (h : H a = some (.lst xs)) (m : a ∈ M) : XM M H (upd H a o) := ⟨fun p u _ n e => by rw [upd_ne (fun z => n (by rw [z]; exact m))]; exact e, fun P ⟨ps, e, t⟩ => ⟨ps, by rw [upd_ne (fun z => by rw [z, h] at e; cases e)]; exact e, t⟩⟩
/-- what isn't a list stays whichever lists change -/
theorem XM.off {M : List Addr} {H H' : Hp} {a : Addr} {o : HO} (e : XM M H H') (hM : ∀ b ∈ M, ∃ xs, H b = some (.lst xs)) (n1 : ∀ ps, o ≠ .tbl ps) (n2 : ∀ xs, o ≠ .lst xs) (h : H a = some o) : H' a = some o := e.at_ a o n1 (fun z => by
  obtain ⟨xs, e2⟩ := hM a z
  rw [h] at e2
  exact n2 xs (Option.some.inj e2)) h
/-- views stay -/
theorem XM.view {M : List Addr} {H H' : Hp} (e : XM M H H') (hM : ∀ b ∈ M, ∃ xs, H b = some (.lst xs)) : ∀ (v : View) (x : V), VAt H v x → VAt H' v x := by
  have tu : ∀ {a : Addr} {xs : List V}, H a = some (.tup xs) → H' a = some (.tup xs) := fun h => e.off hM (fun _ z => nomatch z) (fun _ z => nomatch z) h
  have pr : ∀ {rs : List Addr} {ps : List (Int × Int)}, Paired (fun (r : Addr) (p : Int × Int) => H r = some (.tup [.int p.1, .int p.2])) rs ps → Paired (fun (r : Addr) (p : Int × Int) => H' r = some (.tup [.int p.1, .int p.2])) rs ps := fun h => L2.Paired.mapP h fun _ _ z => tu z
  intro v
  induction v with
  | table t => rintro x ⟨p, a, b⟩; exact ⟨p, a, tu b⟩
  | within v c lo hi ih => rintro x ⟨p, y, a, b, hv, r⟩; exact ⟨p, y, a, tu b, ih y hv, r⟩
  | columns v cs ih => rintro x ⟨p, y, q, a, b, hv, hq⟩; exact ⟨p, y, q, a, tu b, ih y hv, tu hq⟩
  | both v w i1 i2 => rintro x ⟨p, y, z, a, b, hv, hw⟩; exact ⟨p, y, z, a, tu b, i1 y hv, i2 z hw⟩
  | less v w i1 i2 => rintro x ⟨p, y, z, a, b, hv, hw⟩; exact ⟨p, y, z, a, tu b, i1 y hv, i2 z hw⟩
  | meet v w ps i1 i2 => rintro x ⟨p, y, z, q, a, b, hv, hw, rs, hq, hr⟩; exact ⟨p, y, z, q, a, tu b, i1 y hv, i2 z hw, rs, tu hq, pr hr⟩
  | once v ih => rintro x ⟨p, y, a, b, hv⟩; exact ⟨p, y, a, tu b, ih y hv⟩
  | sums v ks c ih => rintro x ⟨p, y, q, a, b, hv, hq⟩; exact ⟨p, y, q, a, tu b, ih y hv, tu hq⟩
  | reach v ih => rintro x ⟨p, y, a, b, hv⟩; exact ⟨p, y, a, tu b, ih y hv⟩
  | odd o v w i1 i2 => rintro x ⟨p, y, z, a, b, hv, hw, f⟩; exact ⟨p, y, z, a, tu b, i1 y hv, i2 z hw, f⟩
end KB

/-! KP: powers of great ints; ints of few bits. -/
namespace KP
open PySem PySem.Spec PyProof.Rows L2 Evl KB
def CPowB (i j : Int) : Prop := 0 ≤ j ∧ (Builtin.Int.intBits i : Int) * j ≤ 2 ^ 27
theorem op_powB {X : Cx} : OpR X (binaryOp .Pow) (rI CPowB fun i j => .int (i ^ j.toNat)) := opI fun _ _ _ _ _ _ _ hc q => pow_int hc.1 hc.2 q
theorem bits_le {i : Int} {n : Nat} (h : i.natAbs < 2 ^ n) : Builtin.Int.intBits i ≤ n := by
  unfold Builtin.Int.intBits
  by_cases e : i = 0
  · rw [if_pos (by rw [e]; rfl)]
    exact Nat.zero_le _
  · rw [if_neg (by simpa using e)]
    have := (Nat.log2_lt (n := i.natAbs) (k := n) (by omega)).mpr h
    omega
theorem bits_ge {i : Int} {n : Nat} (h : Builtin.Int.intBits i ≤ n) : i.natAbs < 2 ^ n := by
  unfold Builtin.Int.intBits at h
  by_cases e : i = 0
  · rw [e]
    exact Nat.pow_pos (by omega)
  · rw [if_neg (by simpa using e)] at h
    exact (Nat.log2_lt (by omega)).mp (by omega)
/-- an int of at most n bits -/
def IsB (n : Nat) (v : V) (_ : Hp) : Prop := ∃ c : Int, v = .int c ∧ c.natAbs < 2 ^ n
theorem IsB.pers (n : Nat) (v : V) : Pers (IsB n v) := fun _ _ _ h => h
theorem IsB.int {n : Nat} {v : V} {H : Hp} (h : IsB n v H) : IsInt v H := let ⟨c, e, _⟩ := h; ⟨c, e⟩
theorem abs_div (i : Int) (k : Int) (hk : 1 ≤ k) : (i / k).natAbs ≤ i.natAbs := by
  have h1 := Int.ediv_mul_le i (b := k) (by omega)
  have h2 := Int.lt_ediv_add_one_mul_self i (b := k) (by omega)
  rcases Int.le_total 0 i with h | h
  · have h3 := Int.ediv_nonneg h (show 0 ≤ k by omega)
    have h4 : i / k * 1 ≤ i / k * k := Int.mul_le_mul_of_nonneg_left hk h3
    omega
  · have h3 : i / k ≤ 0 := by
      by_cases z : i / k ≤ 0
      · exact z
      · have : 1 * k ≤ i / k * k := Int.mul_le_mul_of_nonneg_right (by omega) (by omega)
        omega
    by_cases z : i / k < i
    · have h5 : (i / k + 1) * k ≤ i * 1 := by
        have a1 : (i / k + 1) * k ≤ (i / k + 1) * 1 := Int.mul_le_mul_of_nonpos_left (by omega) hk
        omega
      omega
    · omega
theorem abs_row (i k : Int) (n : Nat) (h : i.natAbs < 2 ^ n) (h0 : 0 ≤ k) (h1 : k ≤ 100) : (i * 48271 + 7919 * k).natAbs < 2 ^ (n + 20) := by
  have e : 2 ^ (n + 20) = 2 ^ n * 1048576 := by rw [Nat.pow_add]
  have p : 0 < 2 ^ n := Nat.pow_pos (by omega)
  rw [e]
  generalize 2 ^ n = N at *
  omega
end KP

/-! KX: a def that is handed the exception which an except suite holds: what it promises, its body, its call, isinstance in it. -/
namespace KX
open PySem PySem.Spec PyProof.Rows L2 Evl KB
abbrev SpE := Addr → Addr → Sp
def IsA (p : Addr × Obj) (D : Addr) : Prop := Zc (.ref D) none p.2 ∧ ∃ vs, p.2.data = .fields vs
structure FnE (P : Program) (w : World) (K : PySem.W.Frag) (mg : Str → Option Value) (base : Heap) (CX : CXT) (k : Nat) (f : Addr) (fd : FuncData) (ps : List Str) (sp : SpE) : Prop where
  len : ∀ a D vs H Q E, sp a D vs H Q E → vs.length = ps.length
  run : ∀ (A : Around) (outer : List Env) (s : Shared) (H : Hp) (args : Args) (us : List Value) (vs : List V) (Q : VK) (E : XK) (p : Addr × Obj) (D : Addr), L2H.RoomH k A → IsA p D → L2H.PinOk outer H s p → Env0 P w K mg base A outer s H → BindsTo s fd args (ps.zip us) → Vals vs us → sp p.1 D vs H Q E →
    codeAny (model P w) A (.call (.ref f) args) (CR CX outer P w H s Q E) s
theorem fn_ofE {CX : CXT} {P : Program} {w : World} {K : PySem.W.Frag} {mg : Str → Option Value} {base : Heap} {k : Nat} {f : Addr} {name qual : Str} {params : Arguments} {body : List Stmt} {scope : Scope} {dV kV doc pm cdv ct oc : Value} {an od : Option Addr}
    {osl : Array (Option Value)} {N ps : List Str} {sp : SpE} (lk : K.lookup f = some ⟨oc, od, .func (PySem.W.fnOf name qual params body scope dV kV doc pm an cdv ct), osl⟩) (hcd : PySem.W.codeIn K cdv qual = true) (S : FnScope N ps scope)
    (len : ∀ a D vs H Q E, sp a D vs H Q E → vs.length = ps.length)
    (hbody : ∀ (A : Around) (outer : List Env) (s : Shared) (H : Hp) (vs : List V) (Q : VK) (E : XK) (p : Addr × Obj) (D : Addr), IsA p D → sp p.1 D vs H Q E →
      ∃ t, PSs (L2H.cxH CX P w K mg base N qual scope f cdv A outer s H E p) body t ∧ t { nx := fun _ H' => Q .non H', rt := Q } (L2.start N vs) H) :
    FnE P w K mg base CX (k + 1) f (PySem.W.fnOf name qual params body scope dV kV doc pm an cdv ct) ps sp :=
  ⟨len, fun A outer s H args us vs Q E p D room isa pin e0 hb r hsp => by
    have kin : K.In s.heap := e0.mod.kin.keeps fun b o e => (e0.bs b o e).1
    have nol : s.heap.NoLimit := e0.mod.nolimit.keeps fun b o e => (e0.bs b o e).1
    refine codeAny_call_function room.depth (kin _ _ lk) rfl S.co S.gen rfl (PySem.W.codeRec_of kin hcd) (hb _ _ _ _ ?_)
    refine wpAny_newFunctionEnv_cells S.kind (fun y hy => ?_) fun env he s1 x => ?_
    · obtain ⟨n, v⟩ := y
      exact (S.par n (List.of_mem_zip hy).1).imp id fun q => ⟨q, PySem.W.cellsFrom_some _ _ _ (.inl q)⟩
    · subst he
      refine ⟨nol.keeps x.toInCall.keep, codeAny_func ?_⟩
      obtain ⟨t, ht, hq⟩ := hbody A outer s H vs Q E p D isa hsp
      refine wpAny_mono (ht.run [] s1 (L2.start N vs) H _ (L2H.inv_startH S pin e0 (len _ _ _ _ _ _ hsp) r x) hq) (fun fl s' hs => ?_) fun _ _ hs => hs
      cases fl with
      | ret u =>
        obtain ⟨v, _, H', J, rv, q⟩ := hs
        exact ⟨v, H', J.os, J.bare, J.base, J.hok, rv, q⟩
      | next =>
        obtain ⟨_, H', J, q⟩ := hs
        exact ⟨V.non, H', J.os, J.bare, J.base, J.hok, rfl, q⟩
      | brk => exact hs.elim fun _ h => h.elim fun _ h => h.2.elim
      | cont => exact hs.elim fun _ h => h.elim fun _ h => h.2.elim⟩
theorem fun_okE {P : Program} {w : World} {K : PySem.W.Frag} {mg : Str → Option Value} {base : Heap} {x qual : Str} {st : Stmt} {f : Addr} {fd : FuncData} {N ps : List Str} {k : Nat} {sp : SpE} (F : Fun K x qual st f fd) (S : FnScope N ps (defScope st))
    (len : ∀ a D vs H Q E, sp a D vs H Q E → vs.length = ps.length)
    (hbody : ∀ (cdv : Value) (A : Around) (outer : List Env) (s : Shared) (H : Hp) (vs : List V) (Q : VK) (E : XK) (p : Addr × Obj) (D : Addr), IsA p D → sp p.1 D vs H Q E →
      ∃ t, PSs (L2H.cxH CX0 P w K mg base N qual (defScope st) f cdv A outer s H E p) (defBody st) t ∧ t { nx := fun _ H' => Q .non H', rt := Q } (L2.start N vs) H) :
    FnE P w K mg base CX0 (k + 1) f fd ps sp := by
  obtain ⟨oc, od, kV, doc, pm, an, cdv, ct, osl, rfl, lk, hcd⟩ := F.ex
  exact fn_ofE lk hcd S len fun A outer s H vs Q E p D isa hsp => hbody cdv A outer s H vs Q E p D isa hsp
/-- f(e), e what the suite holds -/
def tCallE (a : Addr) (cls : Value) (d : Option Addr) (sp : SpE) (t : TA) : TE := fun σ H Q => t σ H fun vs H1 => ∃ D, cls = .ref D ∧ d = none ∧ sp a D vs H1 Q E0
section
variable {X : Cx} {k : Nat} {f : Addr} {fd : FuncData} {ps : List Str} {sp : SpE} {x : Str} {q pos : Pos} {e : Expr} {es : List Expr} {t : TA} {a : Addr} {oe : Obj} {cls : Value} {d : Option Addr}
theorem pe_callE (hp : (a, oe) ∈ X.pn) (hz : Zc cls d oe) (hf : ∃ vs, oe.data = .fields vs) (F : FnE X.prog X.w X.K X.mg X.base CX0 k f fd ps sp) (hr : L2H.RoomH k X.A) (hg : Gl X x) (hm : X.mg x = some (.ref f)) (hk : PySem.W.keepIn X.K (.ref f) = true) (hb : Binds X.K fd ps [])
    (ha : PA X (e :: es) t) (hdb : (x == ("__debug__" : Str)) = false := by decide) (he : starEach (e :: es) X.env = (false, eval e X.env) :: starEach es X.env := by rfl) (hpl : (backTo pos (starEach es X.env)).any (·.1) = false := by rfl) :
    PE X (.Call (.Name x q) (e :: es) [] pos) (tCallE a cls d sp t) := by
  refine ⟨fun pins s σ H Q I h => wpAny_Call_Name_kw (ld_glob I hg hm ?_ hdb)⟩
  refine PySem.W.callWith_K (h₀ := X.base) I.ok.mod.kin hk (thn (ha.run pos pins s σ H _ I h) fun us s1 ⟨vs, H1, I1, r, D, ec, ed, hsp⟩ => ⟨I1.kIn, ?_⟩) he hpl
  subst ec ed
  have b := hb s1 us I1.kIn (by rw [List.append_nil, ← r.length]; exact F.len _ _ _ _ _ _ hsp)
  rw [List.append_nil] at b
  obtain ⟨g, n, nl, nf, nc⟩ := I1.pin (a, oe) (List.mem_append_left _ hp)
  refine wpAny_call (codeAny_mono (F.run X.A X.stack s1 H1 ⟨us, []⟩ us vs Q E0 (a, oe) D hr ⟨hz, hf⟩ ⟨g, n, fun hm => (List.mem_cons.mp (I1.stkSub a hm)).elim nl nf, nc⟩ I1.env0 b r hsp) fun r s' hq => ?_)
  cases r with
  | error e => exact hq.elim
  | ok fl =>
    cases fl with
    | ret u => exact I1.after hq
    | next => exact hq.elim
    | brk => exact hq.elim
    | cont => exact hq.elim
/-- isinstance(e, c) in such a def -/
theorem call_isP {p : Addr × Obj} {D : Addr} (hp : p ∈ X.pn) (C : ExcC X.K D) (isa : IsA p D) : CallR X (.builtin "isinstance") (rIsE X.K D p.1) := by
  intro pins s σ H xs us Q I r h
  obtain ⟨c, cv, b, rfl, hcv, e, q⟩ := h
  obtain ⟨u1, u2, rfl, r1, r2⟩ := vals2 r
  cases (show u1 = Value.ref p.1 from r1)
  cases hcv _ r2
  obtain ⟨a, oc, od, oda, osl⟩ := p
  obtain ⟨⟨h1, h2⟩, vs, hv⟩ := isa
  dsimp only at h1 h2 hv
  subst h1 h2 hv
  exact PySem.W.kia_one (PySem.W.handS_kitx_exc C.hg C.hk C.hs C.hd C.ha C.hn C.ht C.hm) I.kIn ⟨(I.pin _ (List.mem_append_left _ hp)).1, rfl, rfl, trivial⟩ e (fun z => nomatch z) fun tk => ⟨.bl b, H, I.kept (t' := tk) fun _ _ z => z, rfl, q⟩
end
end KX

/-! KXh: as KX, the exception's context known to be None; a walk's end and a comprehension where an exception is handled. -/
namespace KXh
open PySem PySem.Spec PyProof.Rows L2 Evl KB L2H
abbrev SpE := Addr → Addr → Sp
def IsN (p : Addr × Obj) (D : Addr) : Prop := L2N.Zn (.ref D) none p.2 ∧ ∃ vs, p.2.data = .fields vs
theorem IsN.isa {p : Addr × Obj} {D : Addr} (h : IsN p D) : KX.IsA p D := ⟨h.1.zc, h.2⟩
theorem IsN.hot {p : Addr × Obj} {D : Addr} (h : IsN p D) {A : Around} (hh : A.handled = some (.ref p.1)) : Hot1 A p := let ⟨vs, hv⟩ := h.2; ⟨hh, vs, hv, h.1.2.2 vs hv⟩
structure FnN (P : Program) (w : World) (K : PySem.W.Frag) (mg : Str → Option Value) (base : Heap) (k : Nat) (f : Addr) (fd : FuncData) (ps : List Str) (sp : SpE) : Prop where
  len : ∀ a D vs H Q E, sp a D vs H Q E → vs.length = ps.length
  run : ∀ (A : Around) (outer : List Env) (s : Shared) (H : Hp) (args : Args) (us : List Value) (vs : List V) (Q : VK) (E : XK) (p : Addr × Obj) (D : Addr), RoomH k A → A.handled = some (.ref p.1) → IsN p D → PinOk outer H s p → Env0 P w K mg base A outer s H →
    BindsTo s fd args (ps.zip us) → Vals vs us → sp p.1 D vs H Q E → codeAny (model P w) A (.call (.ref f) args) (CR CX0 outer P w H s Q E) s
theorem fun_okN {P : Program} {w : World} {K : PySem.W.Frag} {mg : Str → Option Value} {base : Heap} {x qual : Str} {st : Stmt} {f : Addr} {fd : FuncData} {N ps : List Str} {k : Nat} {sp : SpE} (F : Fun K x qual st f fd) (S : FnScope N ps (defScope st))
    (len : ∀ a D vs H Q E, sp a D vs H Q E → vs.length = ps.length)
    (hbody : ∀ (cdv : Value) (A : Around) (outer : List Env) (s : Shared) (H : Hp) (vs : List V) (Q : VK) (E : XK) (p : Addr × Obj) (D : Addr), IsN p D → HotC (cxH CX0 P w K mg base N qual (defScope st) f cdv A outer s H E p) → RoomH k (A.deeper (envOfC qual (defScope st) s.heap.objs.size f cdv)) → sp p.1 D vs H Q E →
      ∃ t, PSs (cxH CX0 P w K mg base N qual (defScope st) f cdv A outer s H E p) (defBody st) t ∧ t { nx := fun _ H' => Q .non H', rt := Q } (L2.start N vs) H) :
    FnN P w K mg base (k + 1) f fd ps sp := by
  obtain ⟨oc, od, kV, doc, pm, an, cdv, ct, osl, rfl, lk, hcd⟩ := F.ex
  refine ⟨len, fun A outer s H args us vs Q E p D room hh isn pin e0 hb r hsp => ?_⟩
  have kin : K.In s.heap := e0.mod.kin.keeps fun b o e => (e0.bs b o e).1
  have nol : s.heap.NoLimit := e0.mod.nolimit.keeps fun b o e => (e0.bs b o e).1
  refine codeAny_call_function room.depth (kin _ _ lk) rfl S.co S.gen rfl (PySem.W.codeRec_of kin hcd) (hb _ _ _ _ ?_)
  refine wpAny_newFunctionEnv_cells S.kind (fun ⟨n, v⟩ hy => (S.par n (List.of_mem_zip hy).1).imp id fun q => ⟨q, PySem.W.cellsFrom_some _ _ _ (.inl q)⟩) fun env he s1 x => ?_
  subst he
  refine ⟨nol.keeps x.toInCall.keep, codeAny_func ?_⟩
  obtain ⟨t, ht, hq⟩ := hbody cdv A outer s H vs Q E p D isn ⟨p, isn.hot hh, List.mem_cons_self⟩ (room.deeper _) hsp
  refine wpAny_mono (ht.run [] s1 (L2.start N vs) H _ (inv_startH S pin e0 (len _ _ _ _ _ _ hsp) r x) hq) (fun fl s' hs => ?_) fun _ _ hs => hs
  cases fl with
  | ret u =>
    obtain ⟨v, _, H', J, rv, q⟩ := hs
    exact ⟨v, H', J.os, J.bare, J.base, J.hok, rv, q⟩
  | next =>
    obtain ⟨_, H', J, q⟩ := hs
    exact ⟨V.non, H', J.os, J.bare, J.base, J.hok, rfl, q⟩
  | brk => exact hs.elim fun _ h => h.elim fun _ h => h.2.elim
  | cont => exact hs.elim fun _ h => h.elim fun _ h => h.2.elim
def tCallN (a : Addr) (cls : Value) (d : Option Addr) (sp : SpE) (t : TA) : TE := fun σ H Q => t σ H fun vs H1 => ∃ D, cls = .ref D ∧ d = none ∧ sp a D vs H1 Q E0
section
variable {X : Cx} {k : Nat} {f : Addr} {fd : FuncData} {ps : List Str} {sp : SpE} {x : Str} {q pos : Pos} {e : Expr} {es : List Expr} {t : TA} {a : Addr} {oe : Obj} {cls : Value} {d : Option Addr}
theorem pe_callN (hh : X.A.handled = some (.ref a)) (hp : (a, oe) ∈ X.pn) (hz : L2N.Zn cls d oe) (hf : ∃ vs, oe.data = .fields vs) (F : FnN X.prog X.w X.K X.mg X.base k f fd ps sp) (hr : RoomH k X.A) (hg : Gl X x) (hm : X.mg x = some (.ref f)) (hk : PySem.W.keepIn X.K (.ref f) = true) (hb : Binds X.K fd ps [])
    (ha : PA X (e :: es) t) (hdb : (x == ("__debug__" : Str)) = false := by decide) (he : starEach (e :: es) X.env = (false, eval e X.env) :: starEach es X.env := by rfl) (hpl : (backTo pos (starEach es X.env)).any (·.1) = false := by rfl) :
    PE X (.Call (.Name x q) (e :: es) [] pos) (tCallN a cls d sp t) := by
  refine ⟨fun pins s σ H Q I h => wpAny_Call_Name_kw (ld_glob I hg hm ?_ hdb)⟩
  refine PySem.W.callWith_K (h₀ := X.base) I.ok.mod.kin hk (thn (ha.run pos pins s σ H _ I h) fun us s1 ⟨vs, H1, I1, r, D, ec, ed, hsp⟩ => ⟨I1.kIn, ?_⟩) he hpl
  subst ec ed
  have b := hb s1 us I1.kIn (by rw [List.append_nil, ← r.length]; exact F.len _ _ _ _ _ _ hsp)
  rw [List.append_nil] at b
  obtain ⟨g, n, nl, nf, nc⟩ := I1.pin (a, oe) (List.mem_append_left _ hp)
  refine wpAny_call (codeAny_mono (F.run X.A X.stack s1 H1 ⟨us, []⟩ us vs Q E0 (a, oe) D hr hh ⟨hz, hf⟩ ⟨g, n, fun hm => (List.mem_cons.mp (I1.stkSub a hm)).elim nl nf, nc⟩ I1.env0 b r hsp) fun r s' hq => ?_)
  cases r with
  | error e => exact hq.elim
  | ok fl =>
    cases fl with
    | ret u => exact I1.after hq
    | next => exact hq.elim
    | brk => exact hq.elim
    | cont => exact hq.elim
end
end KXh

/-! KLh: a list comprehension over a list where an exception is handled. -/
namespace KLh
open PySem PySem.Spec PyProof.Rows L2 Evl KB L2H HotX
section
variable {prog : Program} {w : World} {A : Around} {E : Value → Shared → Prop} {s : Shared}
/-- the end of a list's walk -/
theorem list_end {t u x1 : Addr} {i : Nat} {its : Array Value} {Q : Option Value → Shared → Prop} (hot : HotAt A x1 s.heap) (ne : x1 ≠ t) (st : s.heap.IsListIter t u i) (hu : s.heap.IsList u its) (hx : its[i]? = none)
    (q : ∀ h', (∀ b o, b ≠ t → s.heap.get? b = some o → h'.get? b = some o) → Q none { s with heap := h' }) : wpAny (model prog w) A (pyNext (.ref t)) Q E s := by
  obtain ⟨ot, gt, ct, dt⟩ := id st
  obtain ⟨ou, gu, _, nu, du⟩ := hu
  obtain ⟨hh, o1, v1, g1, d1, c1⟩ := hot
  unfold pyNext
  refine wpAny_bind (wpAny_attempt (wpAny_callSpecial?_slot (name := Str.ofString "__next__") st.typeIs slot_listiter_next (wpAny_call_entry slot_listiter_next st.typeIs entry_listiter_next ?_ (args_listiter_next _))))
  show wpAny _ _ (field (.ref t) 0 >>= _) _ _ s
  refine wpAny_bind (wpAny_field gt dt (x := .ref u) rfl ?_)
  show wpAny _ _ (if (Value.ref u == Value.none) = true then _ else _) _ _ s
  rw [if_neg (show ¬ ((Value.ref u == Value.none) = true) by simp)]
  show wpAny _ _ (field (.ref t) 1 >>= _) _ _ s
  refine wpAny_bind (wpAny_field gt dt (x := .int i 0) rfl ?_)
  show wpAny _ _ (seqItems? (.ref u) >>= _) _ _ s
  refine wpAny_bind (wpAny_seqItems gu du ?_)
  simp only [Int.toNat_natCast, hx]
  refine wpAny_bind (wpAny_rule (wpAny_bind (wpAny_setField gt dt (by simp) ?_)))
  have out : ∀ {f : Obj → Obj} {b : Addr} {o : Obj}, b ≠ t → s.heap.get? b = some o → (s.heap.update t f).get? b = some o := fun n e => (Heap.get?_update_other _ _ (Ne.symm n)).trans e
  show wpAny _ _ (newExc (.type "StopIteration") [] >>= _) _ _ _
  refine wpAny_bind ?_
  simp only [newExc, newTuple]
  refine wpAny_bind (wpAny_newObj_type ?_ (by size_fits))
  refine wpAny_bind (m := firstArgMember _ _) (wpAny_of_eq (a := Value.none) (by first | rfl | (simp only [firstArgMember]; rfl)) ?_)
  refine wpAny_newObj_type ?_ (by size_fits)
  have g2 := Heap.get?_push_of_some { cls := .type "tuple", data := .seq #[] } (out (f := Obj.mapFields (·.setIfInBounds 0 Value.none)) ne g1)
  refine raiseNew_hot ⟨hh, o1, v1, Heap.get?_push_of_some _ g2, d1, c1⟩ (Nat.ne_of_lt (Heap.lt_size (Heap.get?_push_of_some _ (out ne g1)))) (Heap.get?_push_size _ rfl) rfl (by first | (simp; done) | (simp; omega)) ?_
  refine wpAny_bind (wpAny_isInstance (T := "StopIteration") (b := true) ⟨_, Heap.get?_update_self _ (Heap.get?_push_size _ rfl) rfl, rfl⟩ isSubtype_stop (wpAny_pure (q _ fun b o n e => ?_)))
  have e2 := Heap.get?_push_of_some { cls := .type "tuple", data := .seq #[] } (out (f := Obj.mapFields (·.setIfInBounds 0 Value.none)) n e)
  rw [Heap.get?_update_other _ _ (Nat.ne_of_gt (Heap.lt_size (Heap.get?_push_of_some _ (out n e))))]
  exact Heap.get?_push_of_some _ (Heap.get?_push_of_some _ (out n e))
end
section
variable {X : Cx}
theorem pe_lcH {elt tg l : Expr} {ifs : List Expr} {scope : Scope} {own : List (Str × Nat)} {pos : Pos} {tl : TE} {g : TG} {tt : TT} {te : TE} (hot : HotC X) (nd : X.N.Nodup) (hl : PE X l tl) (bo : BlkOk X.N X.env.scope scope own)
    (pg : ∀ (s : Shared) (H : Hp) (C : Addr) (cl : List (Str × Addr)) (fp : List Addr), PG (X.blk s H scope (compEnvC scope cl C X.env) fp) tg g) (pt : ∀ (s : Shared) (H : Hp) (C : Addr) (cl : List (Str × Addr)) (fp : List Addr), PTs (X.blk s H scope (compEnvC scope cl C X.env) fp) ifs tt)
    (pe : KD.BlkPE X scope elt te) (fold : ∀ x, foldedSetIterable l X.env x = pure x := by intro _; rfl) :
    PE X (.ListComp elt [⟨tg, l, ifs, 0⟩] scope pos) (tLc (iList X.K tl) g tt te (own.map (·.2))) := by
  constructor
  intro pins s σ Ha Q I hw
  rw [eval_ListComp]
  obtain ⟨p, ⟨hh, v1, d1, c1⟩, hp⟩ := hot
  have clo : ∀ y ∈ scope.names, y.2 = .free → ∃ c, X.env.cells.lookup y.1 = some c := fun y hy e => (bo.free y hy e).elim (fun z => I.ok.has _ (.inl z)) fun z => I.ok.has _ (.inr z)
  refine wpAny_comprehension_free (use := none) rfl fold (closure_ok clo) bo.kind (fun y hy e => (bo.uniq y hy).trans (by rw [e])) ?_
  refine thn (hl.run pins s σ Ha _ I hw) fun xv sa ⟨x, Hb, Ia, rx, a, ex, ⟨xs0, hq0⟩, q⟩ => ?_
  subst ex
  cases rx
  obtain ⟨its0, _, pl0, _⟩ := Ia.list hq0
  refine wpAny_pyIter_list pl0.isList ?_
  generalize eit : sa.heap.objs.size = it
  have fit : FpOk X pins Hb it := by rw [← eit]; exact Ia.fpOk (Nat.le_refl _) (Ia.hok.fresh (Nat.le_refl _))
  have Ib : Inv X pins σ Hb { sa with heap := sa.heap.push { cls := .type "list_iterator", data := .fields #[.ref a, .int 0 0] } } := Ia.kept (t' := sa.toks) fun b o e => Heap.get?_push_of_some _ e
  have tb : (sa.heap.push { cls := .type "list_iterator", data := .fields #[.ref a, .int 0 0] }).IsListIter it a 0 := by rw [← eit]; exact ⟨_, Heap.get?_push_size _ rfl, rfl, rfl⟩
  generalize esb : ({ sa with heap := sa.heap.push { cls := .type "list_iterator", data := .fields #[.ref a, .int 0 0] } } : Shared) = sb at Ib ⊢
  have tb : sb.heap.IsListIter it a 0 := by rw [← esb]; exact tb
  refine wpAny_newObj_type (newEnv_comp ?_) (by show 0 ≤ sizeLine; decide)
  have lit : it < sb.heap.objs.size := let ⟨_, e, _⟩ := id tb; Heap.lt_size e
  have fresh : Hb sb.heap.objs.size = none := Ib.hok.fresh (Nat.le_refl _)
  obtain ⟨W, ⟨m0, hW0⟩, hW⟩ := q _ fresh
  obtain ⟨sc, esc, Ic⟩ : ∃ sc : Shared, sc = { sb with heap := sb.heap.push { cls := .type "list", data := .seq ([] : List Value).toArray } } ∧ Inv X pins σ (upd Hb sb.heap.objs.size (.lst [])) sc := ⟨_, rfl, Ib.laid (t' := sb.toks) (fun b o e => Heap.get?_push_of_some _ e) (Nat.le_refl _) ⟨Nat.zero_le _, [], 0, .nil, Heap.get?_push_size _ rfl⟩⟩
  have hsc : sc.heap = sb.heap.push { cls := .type "list", data := .seq ([] : List Value).toArray } := by rw [esc]
  have pX := Ib.pin p (List.mem_append_left _ hp)
  have fc : ∀ b ∈ [it], FpOk X pins (upd Hb sb.heap.objs.size (.lst [])) b ∧ b < sc.heap.objs.size := fun b hb => by
    rw [List.mem_singleton.mp hb]
    refine ⟨⟨?_, fit.2⟩, by rw [hsc, Heap.size_push]; exact Nat.lt_succ_of_lt lit⟩
    rw [upd_ne (Nat.ne_of_lt lit)]
    exact fit.1
  have tc : sc.heap.IsListIter it a 0 := tb.at fun o e => by rw [hsc]; exact Heap.get?_push_of_some _ e
  have Id := block_start Ic bo nd fc
  generalize eD : sb.heap.objs.size = D at *
  generalize eHc : upd Hb D (.lst []) = Hc at *
  have pC := Ic.pin p (List.mem_append_left _ hp)
  have gc := pg sc Hc sc.heap.objs.size (cellsFrom (sc.heap.objs.size + 1) scope.names (cloFrom X.env.cells scope.names [])) [it]
  have hc := pt sc Hc sc.heap.objs.size (cellsFrom (sc.heap.objs.size + 1) scope.names (cloFrom X.env.cells scope.names [])) [it]
  have ec := pe sc Hc sc.heap.objs.size (cellsFrom (sc.heap.objs.size + 1) scope.names (cloFrom X.env.cells scope.names [])) [it]
  rw [← esc]
  show codeAny _ _ (.compStart (.ListComp elt [⟨tg, l, ifs, 0⟩] scope pos) 0 (.ref it) (.ref D) (compEnvC scope (cellsFrom (sc.heap.objs.size + 1) scope.names (cloFrom X.env.cells scope.names [])) sc.heap.objs.size X.env)) _ _
  generalize eenv : compEnvC scope (cellsFrom (sc.heap.objs.size + 1) scope.names (cloFrom X.env.cells scope.names [])) sc.heap.objs.size X.env = ev at Id gc hc ec ⊢
  have evL : ev.locals = sc.heap.objs.size := by rw [← eenv]; rfl
  have td : (pushCells (sc.heap.push { cls := .type "dict", data := .dict #[] }) scope.names).IsListIter it a 0 := tc.at fun o e => pushCells_keeps _ _ _ _ (Heap.get?_push_of_some _ e)
  let Y := X.blk sc Hc scope ev [it]
  -- the exception stands in the block too
  have Ie : Inv Y [p] (wipe σ (own.map (·.2))) Hc { sc with heap := pushCells (sc.heap.push { cls := .type "dict", data := .dict #[] }) scope.names } := ⟨Id.ok, Id.os, Id.bare, Id.base, Id.loc, Id.cell, Id.free, Id.freeC, fun z hz => by
    have ez : z = p := by simpa using (show z ∈ [] ++ [p] from hz)
    rw [ez]
    refine ⟨pushCells_keeps _ _ _ _ (Heap.get?_push_of_some _ pC.1), pC.2.1, fun y => ?_, fun y => (List.mem_cons.mp (Ic.stkSub _ y)).elim pC.2.2.1 pC.2.2.2.1, pC.2.2.2.2⟩
    rw [show Y.env.locals = sc.heap.objs.size from evL] at y
    exact Nat.lt_irrefl _ (y ▸ Heap.lt_size pC.1), Id.hok, Id.len⟩
  have nitp : p.1 ≠ it := fit.2.2.2.2.2 p (List.mem_append_left _ hp)
  have fpY : ∀ {τ : L2.St} {G : Hp} {r : Shared}, Inv Y [p] τ G r → (∀ b ∈ [it], G b = none) → ∀ b ∈ [it], FpOk Y [p] G b := fun {τ G r} Ir hn b hb =>
    ⟨hn b hb, (Ir.ok.exf b hb).1, Ir.ok.exfs b hb, .inl hb, fun x c e => (Ir.ok.exf b hb).2 x c e, fun z hz => by
      have ez : z = p := by simpa using (show z ∈ [] ++ [p] from hz)
      rw [ez, List.mem_singleton.mp hb]
      exact nitp⟩
  have run : codeAny (model X.prog X.w) X.A (.compLoop (.ListComp elt [⟨tg, l, ifs, 0⟩] scope pos) 0 (.ref it) (.ref D) ev) (compPost (model X.prog X.w) X.A X.xe none (EP X pins σ Q) (.ref D) sc.heap.objs.size) { sc with heap := pushCells (sc.heap.push { cls := .type "dict", data := .dict #[] }) scope.names } := by
    refine compLoop_any (fun n r => ∃ i G, Inv Y [p] (wipe σ (own.map (·.2))) G r ∧ r.heap.IsListIter it a i ∧ (∀ b ∈ [it], G b = none) ∧ W i n G) ?_ m0 ⟨0, Hc, Ie, td, fun b hb => (fc b hb).1.1, hW0⟩
    rintro n r ⟨i, G, Ir, tr, nr, wr⟩
    obtain ⟨f0, f1, f2, f3, f4, f5⟩ := fpY Ir nr it (by simp)
    rcases hW i n G wr with ⟨⟨xs, hq, hx⟩, fin⟩ | ⟨⟨xs, y, hq, hx⟩, Nx, down, step⟩
    · obtain ⟨its, rv, pl, _⟩ := Ir.list hq
      have lr := rv.length
      have pr := Ir.pin p (List.mem_append_right _ List.mem_cons_self)
      refine thnF (list_end (A := X.A) (Q := fun o r2 => o = none ∧ Inv Y [p] (wipe σ (own.map (·.2))) G r2) ⟨hh, p.2, v1, pr.1, d1, c1⟩ nitp tr pl.isList (by simp; omega) (fun h' eb => ⟨rfl, Ir.turned (t' := r.toks) (fun b o hb e => eb b o hb e) f0 f1 f3 f4 f5⟩)) fun o r2 ⟨ho, Ir2⟩ => ?_
      subst ho
      have back : Inv X pins σ G r2 := Ic.call' (ch := [it]) Ir2.os Ir2.base Ir2.hok Ir2.bare fun b hb => ⟨(fc b hb).1.2.2.2.1, (fc b hb).1.2.1, (fc b hb).1.2.2.2.2.1, (fc b hb).1.2.2.2.2.2⟩
      have cfree : G sc.heap.objs.size = none := evL ▸ (show G ev.locals = none from Ir2.free)
      obtain ⟨mm, hm, _⟩ := Ir2.loc
      have hm : r2.heap.Ns ev.locals mm := hm
      rw [evL] at hm
      obtain ⟨k0, k1, k2, k3, k4, k5⟩ := Ic.fpOk (b := sc.heap.objs.size) (Nat.le_refl _) cfree
      exact ⟨mm, hm, fun h2 same => ⟨.ref D, G, back.turned (t' := r2.toks) (fun b o hb e => (same.2 b hb).trans e) k0 k1 k3 k4 k5, rfl, fin⟩⟩
    · obtain ⟨its, rv, pl, _⟩ := Ir.list hq
      obtain ⟨u, hu, ru⟩ := rv.get hx
      refine thnF (wpAny_pyNext_list_item (E := fun _ _ => False) (Q := fun o r2 => ∃ h', o = some u ∧ r2 = { r with heap := h' } ∧ h'.IsListIter it a (i + 1) ∧ Inv Y [p] (wipe σ (own.map (·.2))) G { r with heap := h' }) tr pl.isList (x := u) (by simpa using hu) fun h' st' sb2 => ⟨h', rfl, rfl, st', Ir.turned (t' := r.toks) (fun b o hb e => (sb2.2 b hb).trans e) f0 f1 f3 f4 f5⟩) fun o r2 ⟨h', ho, er, t2, I2⟩ => ?_
      subst ho er
      obtain ⟨oi, gi, ci, di⟩ := id t2
      refine go_of (s := { r with heap := h' }) gi ci di (by decide) ?_
      have I3 := I2.pinned (fp := [it]) (fpY I2 nr) (fun b hb => by
        rw [List.mem_singleton.mp hb]
        exact ⟨oi, gi, fun v z => by rw [di] at z; cases z⟩)
      refine thnF (gc.run _ _ _ G y u _ I3 ru (step y G ⟨rfl, fun ys hy => by rw [Ir.list_inj hy hq]; exact hx⟩)) fun _ r4 ⟨τ, G4, I4, hτ, q4⟩ => ?_
      have close : ∀ {r' : Shared} {G' : Hp}, Inv Y ([p] ++ pinsAt [it] h') τ G' r' → Nx G' → ∃ k, k < n ∧ ∃ i G, Inv Y [p] (wipe σ (own.map (·.2))) G r' ∧ r'.heap.IsListIter it a i ∧ (∀ b ∈ [it], G b = none) ∧ W i k G := fun {r' G'} I' nx => by
        obtain ⟨k, hk, wk⟩ := down G' nx
        have stays : ∀ b ∈ [it], ∀ o, h'.get? b = some o → r'.heap.get? b = some o ∧ G' b = none := fun b hb o e =>
          have z := I'.pin (b, o) (List.mem_append_right _ (List.mem_append_right _ (mem_pinsAt hb e)))
          ⟨z.1, z.2.1⟩
        have len : (wipe σ (own.map (·.2))).length = τ.length := by rw [← hτ, wipe_length]
        exact ⟨k, hk, i + 1, G', (I'.unpinned (pins := [p])).weak len (fun j v e => by rw [← hτ] at e; exact (wipe_some e).1), t2.at fun o e => (stays it (by simp) o e).1, fun b hb => by rw [List.mem_singleton.mp hb]; exact (stays it (by simp) oi gi).2, wk⟩
      refine thnF (hc.run _ r4 τ G4 _ I4 q4) fun b r5 ⟨G5, I5, q5⟩ => ?_
      cases b with
      | false => exact close I5 q5
      | true =>
        refine thnF (ec.run _ r5 τ G5 _ I5 q5) fun yk r6 ⟨z, G6, I6, rz, acc, hD6, hz6, nx⟩ => ?_
        exact app_ok (X := Y) I6 hD6 hz6 rz fun r7 I7 => close I7 nx
  exact codeAny_compStart_list run (wpAny_pyIter_listiter td run)
end
end KLh

/-! KVx: views that are known exactly; lists of things of a kind. -/
namespace KB
open PySem PySem.Spec PyProof.Rows L2 Evl
def IsV (v : View) (x : V) (H : Hp) : Prop := VAt H v x
theorem IsV.pers (v : View) (x : V) : Pers (IsV v x) := VAt.pers v x
def IsC (cs : List Int) (x : V) (H : Hp) : Prop := ∃ q, x = .ref q ∧ H q = some (.tup (cs.map V.int))
theorem IsC.pers (cs : List Int) (x : V) : Pers (IsC cs x) := fun H H' e ⟨q, a, b⟩ => ⟨q, a, e _ _ b⟩
def IsP (p : Int × Int) (x : V) (H : Hp) : Prop := ∃ q, x = .ref q ∧ H q = some (.tup [.int p.1, .int p.2])
theorem IsP.pers (p : Int × Int) (x : V) : Pers (IsP p x) := fun H H' e ⟨q, a, b⟩ => ⟨q, a, e _ _ b⟩
def IsPs (ps : List (Int × Int)) (x : V) (H : Hp) : Prop := ∃ q, x = .ref q ∧ PairsAt H q ps
theorem IsPs.pers (ps : List (Int × Int)) (x : V) : Pers (IsPs ps x) := fun H H' e ⟨q, a, b⟩ => ⟨q, a, PairsAt.pers H H' e b⟩
section
variable {K : PySem.W.Frag} {σ : L2.St} {H : Hp} {t1 t2 t3 t4 : TE} {tA : TA} {u v : View} {x : V} {i : Nat} {Z : V → Hp → Prop}
theorem xi {n : Int} (h : Ev t1 σ H (.int n)) : Est t1 σ H (Is (.int n)) := est_ev h
/-! tuples of ints, of pairs -/
def AreI (cs : List Int) (vs : List V) (_ : Hp) : Prop := vs = cs.map V.int
theorem ai_nil : EstA tNil σ H (AreI []) := esta_nil fun _ _ => rfl
theorem ai_cons {tr : TA} {c : Int} {cs : List Int} (h : Ev t1 σ H (.int c)) (hr : EstA tr σ H (AreI cs)) : EstA (tCons t1 tr) σ H (AreI (c :: cs)) := (esta_cons (xi h) hr (Is.pers _)).imp fun vs _ _ ⟨a, r, e, e1, e2⟩ => by
  rw [e, show a = _ from e1, show r = _ from e2]
  rfl
theorem xc {cs : List Int} (h : EstA tA σ H (AreI cs)) (hl : cs.length ≤ 1000) : Est (tTup tA) σ H (IsC cs) := est_tupE h (fun vs => Pers.c _) (fun vs _ e => by rw [show vs = _ from e, List.length_map]; omega) fun p vs H' hp e => ⟨p, rfl, by rw [hp, show vs = _ from e]⟩
theorem xc_rep {n : Int} (hv : Ev t2 σ H (.int n)) (h2 : 2 ≤ n) (h3 : n ≤ 1000) : Est (tOp (rRepT K) (tTup (tCons (tC (.int 0)) tNil)) t2) σ H (IsC (List.replicate n.toNat 0)) := fun H1 e Q q =>
  ⟨by show 1 ≤ sizeLine; decide, fun p hp => hv _ (e.trans (Ex.new hp)) _ fun H2 e2 => ⟨p, n, [.int 0], rfl, rfl, st_of (e2 _ _ upd_same), by simp, h2, h3, (by show 1 ≤ 1000; omega), fun r hr => q _ _ (((Ex.new hp).trans e2).trans (Ex.new hr)) ⟨r, rfl, by
    rw [upd_same]
    congr 2
    rw [List.map_replicate]
    generalize n.toNat = k
    induction k with
    | zero => rfl
    | succ k ih => rw [List.replicate_succ, List.replicate_succ, List.flatten_cons, ih]; rfl⟩⟩⟩
theorem xp {p : Int × Int} (h1 : Ev t1 σ H (.int p.1)) (h2 : Ev t2 σ H (.int p.2)) : Est (tTup (tCons t1 (tCons t2 tNil))) σ H (IsP p) :=
  est_tupE (esta_2 (xi h1) (xi h2) (Is.pers _) (Is.pers _)) (fun vs => Pers.ex fun a => Pers.ex fun b => (Pers.c _).and ((Is.pers _ a).and (Is.pers _ b))) (fun vs H' ⟨a, b, e, _⟩ => by rw [e]; exact le5 _ rfl (by show 2 ≤ 100000; omega)) fun q vs H' hp ⟨a, b, e, ea, eb⟩ => ⟨q, rfl, by rw [hp, e, show a = _ from ea, show b = _ from eb]⟩
def AreP (ps : List (Int × Int)) (vs : List V) (H : Hp) : Prop := ∃ rs : List Addr, vs = rs.map V.ref ∧ Paired (fun (r : Addr) (p : Int × Int) => H r = some (.tup [.int p.1, .int p.2])) rs ps
theorem AreP.pers (ps : List (Int × Int)) (vs : List V) : Pers (AreP ps vs) := fun H H' e ⟨rs, a, b⟩ => ⟨rs, a, L2.Paired.mapP b fun _ _ z => e _ _ z⟩
theorem ap_nil : EstA tNil σ H (AreP []) := esta_nil fun _ _ => ⟨[], rfl, .nil⟩
theorem ap_cons {tr : TA} {p : Int × Int} {ps : List (Int × Int)} (h : Est t1 σ H (IsP p)) (hr : EstA tr σ H (AreP ps)) : EstA (tCons t1 tr) σ H (AreP (p :: ps)) := (esta_cons h hr (IsP.pers _)).imp fun vs _ _ ⟨a, r, e, ⟨q, ea, hq⟩, rs, er, hrs⟩ => ⟨q :: rs, by rw [e, ea, er]; rfl, .cons hq hrs⟩
theorem AreP.len {ps : List (Int × Int)} {vs : List V} {H : Hp} (h : AreP ps vs H) : vs.length = ps.length := by
  obtain ⟨rs, e, h⟩ := h
  rw [e, List.length_map]
  exact Paired.length h
theorem xps {ps : List (Int × Int)} (h : EstA tA σ H (AreP ps)) (hl : ps.length ≤ 1000) : Est (tTup tA) σ H (IsPs ps) := est_tupE h (AreP.pers ps) (fun vs _ e => by rw [e.len]; omega) fun p vs H' hp ⟨rs, e, h⟩ => ⟨p, rfl, rs, by rw [hp, e], h⟩
/-! views -/
theorem xv_table {t : Int} (h : Ev t1 σ H (.int t)) : Est (tTup (tCons (tC (.str "table")) (tCons t1 tNil))) σ H (IsV (.table t)) :=
  est_tupE (esta_2 (est_is _) (xi h) (Is.pers _) (Is.pers _)) (fun vs => Pers.ex fun a => Pers.ex fun b => (Pers.c _).and ((Is.pers _ a).and (Is.pers _ b))) (fun vs H' ⟨a, b, e, _⟩ => by rw [e]; exact le5 _ rfl (by show 2 ≤ 100000; omega)) fun p vs H' hp ⟨a, b, e, ea, eb⟩ => ⟨p, rfl, by rw [hp, e, show a = _ from ea, show b = _ from eb]⟩
theorem xv_once (h : Est t1 σ H (IsV v)) : Est (tTup (tCons (tC (.str "once")) (tCons t1 tNil))) σ H (IsV (.once v)) :=
  est_tupE (esta_2 (est_is _) h (Is.pers _) (IsV.pers v)) (fun vs => Pers.ex fun a => Pers.ex fun b => (Pers.c _).and ((Is.pers _ a).and (IsV.pers v b))) (fun vs H' ⟨a, b, e, _⟩ => by rw [e]; exact le5 _ rfl (by show 2 ≤ 100000; omega)) fun p vs H' hp ⟨a, b, e, ea, hb⟩ => ⟨p, b, rfl, by rw [hp, e, show a = _ from ea], hb⟩
theorem xv_reach (h : Est t1 σ H (IsV v)) : Est (tTup (tCons (tC (.str "reach")) (tCons t1 tNil))) σ H (IsV (.reach v)) :=
  est_tupE (esta_2 (est_is _) h (Is.pers _) (IsV.pers v)) (fun vs => Pers.ex fun a => Pers.ex fun b => (Pers.c _).and ((Is.pers _ a).and (IsV.pers v b))) (fun vs H' ⟨a, b, e, _⟩ => by rw [e]; exact le5 _ rfl (by show 2 ≤ 100000; omega)) fun p vs H' hp ⟨a, b, e, ea, hb⟩ => ⟨p, b, rfl, by rw [hp, e, show a = _ from ea], hb⟩
theorem xv_columns {cs : List Int} (h : Est t1 σ H (IsV v)) (hc : Est t2 σ H (IsC cs)) : Est (tTup (tCons (tC (.str "columns")) (tCons t1 (tCons t2 tNil)))) σ H (IsV (.columns v cs)) :=
  est_tupE (esta_3 (est_is _) h hc (Is.pers _) (IsV.pers v) (IsC.pers cs)) (fun vs => Pers.ex fun a => Pers.ex fun b => Pers.ex fun c => (Pers.c _).and ((Is.pers _ a).and ((IsV.pers v b).and (IsC.pers cs c)))) (fun vs H' ⟨a, b, c, e, _⟩ => by rw [e]; exact le5 _ rfl (by show 3 ≤ 100000; omega)) fun p vs H' hp ⟨a, b, c, e, ea, hb, q, ec, hq⟩ => ⟨p, b, q, rfl, by rw [hp, e, show a = _ from ea, ec], hb, hq⟩
theorem xv_both (h : Est t1 σ H (IsV v)) (h2 : Est t2 σ H (IsV u)) : Est (tTup (tCons (tC (.str "both")) (tCons t1 (tCons t2 tNil)))) σ H (IsV (.both v u)) :=
  est_tupE (esta_3 (est_is _) h h2 (Is.pers _) (IsV.pers v) (IsV.pers u)) (fun vs => Pers.ex fun a => Pers.ex fun b => Pers.ex fun c => (Pers.c _).and ((Is.pers _ a).and ((IsV.pers v b).and (IsV.pers u c)))) (fun vs H' ⟨a, b, c, e, _⟩ => by rw [e]; exact le5 _ rfl (by show 3 ≤ 100000; omega)) fun p vs H' hp ⟨a, b, c, e, ea, hb, hc⟩ => ⟨p, b, c, rfl, by rw [hp, e, show a = _ from ea], hb, hc⟩
theorem xv_less (h : Est t1 σ H (IsV v)) (h2 : Est t2 σ H (IsV u)) : Est (tTup (tCons (tC (.str "less")) (tCons t1 (tCons t2 tNil)))) σ H (IsV (.less v u)) :=
  est_tupE (esta_3 (est_is _) h h2 (Is.pers _) (IsV.pers v) (IsV.pers u)) (fun vs => Pers.ex fun a => Pers.ex fun b => Pers.ex fun c => (Pers.c _).and ((Is.pers _ a).and ((IsV.pers v b).and (IsV.pers u c)))) (fun vs H' ⟨a, b, c, e, _⟩ => by rw [e]; exact le5 _ rfl (by show 3 ≤ 100000; omega)) fun p vs H' hp ⟨a, b, c, e, ea, hb, hc⟩ => ⟨p, b, c, rfl, by rw [hp, e, show a = _ from ea], hb, hc⟩
theorem xv_within {c a b : Int} (h : Est t1 σ H (IsV v)) (h2 : Ev t2 σ H (.int c)) (h3 : Ev t3 σ H (.int a)) (h4 : Ev t4 σ H (.int b)) : Est (tTup (tCons (tC (.str "within")) (tCons t1 (tCons t2 (tCons t3 (tCons t4 tNil)))))) σ H (IsV (.within v c (.int a) (.int b))) :=
  est_tupE (esta_5 (est_is _) h (xi h2) (xi h3) (xi h4) (Is.pers _) (IsV.pers v) (Is.pers _) (Is.pers _) (Is.pers _)) (fun vs => Pers.ex fun x => Pers.ex fun y => Pers.ex fun z => Pers.ex fun f => Pers.ex fun g => (Pers.c _).and ((Is.pers _ x).and ((IsV.pers v y).and ((Is.pers _ z).and ((Is.pers _ f).and (Is.pers _ g)))))) (fun vs H' ⟨_, _, _, _, _, e, _⟩ => by rw [e]; exact le5 _ rfl (by show 5 ≤ 100000; omega))
    fun p vs H' hp ⟨x, y, z, f, g, e, e1, hy, e2, e3, e4⟩ => ⟨p, y, rfl, by rw [hp, e, show x = _ from e1, show z = _ from e2, show f = _ from e3, show g = _ from e4], hy, .inr ⟨_, rfl⟩, .inr ⟨_, rfl⟩⟩
theorem xv_meet {ps : List (Int × Int)} (h : Est t1 σ H (IsV v)) (h2 : Est t2 σ H (IsV u)) (h3 : Est t3 σ H (IsPs ps)) : Est (tTup (tCons (tC (.str "meet")) (tCons t1 (tCons t2 (tCons t3 tNil))))) σ H (IsV (.meet v u ps)) :=
  est_tupE (esta_4 (est_is _) h h2 h3 (Is.pers _) (IsV.pers v) (IsV.pers u) (IsPs.pers ps)) (fun vs => Pers.ex fun a => Pers.ex fun b => Pers.ex fun c => Pers.ex fun f => (Pers.c _).and ((Is.pers _ a).and ((IsV.pers v b).and ((IsV.pers u c).and (IsPs.pers ps f))))) (fun vs H' ⟨_, _, _, _, e, _⟩ => by rw [e]; exact le5 _ rfl (by show 4 ≤ 100000; omega)) fun p vs H' hp ⟨a, b, c, f, e, ea, hb, hc, q, eq, hq⟩ => ⟨p, b, c, q, rfl, by rw [hp, e, show a = _ from ea, eq], hb, hc, hq⟩
theorem xv_sums {cs : List Int} {c : Int} (h : Est t1 σ H (IsV v)) (h2 : Est t2 σ H (IsC cs)) (h3 : Ev t3 σ H (.int c)) : Est (tTup (tCons (tC (.str "sums")) (tCons t1 (tCons t2 (tCons t3 tNil))))) σ H (IsV (.sums v cs c)) :=
  est_tupE (esta_4 (est_is _) h h2 (xi h3) (Is.pers _) (IsV.pers v) (IsC.pers cs) (Is.pers _)) (fun vs => Pers.ex fun a => Pers.ex fun b => Pers.ex fun z => Pers.ex fun f => (Pers.c _).and ((Is.pers _ a).and ((IsV.pers v b).and ((IsC.pers cs z).and (Is.pers _ f))))) (fun vs H' ⟨_, _, _, _, e, _⟩ => by rw [e]; exact le5 _ rfl (by show 4 ≤ 100000; omega)) fun p vs H' hp ⟨a, b, z, f, e, ea, hb, ⟨q, eq, hq⟩, ef⟩ => ⟨p, b, q, rfl, by rw [hp, e, show a = _ from ea, eq, show f = _ from ef], hb, hq⟩
/-! lists of things of a kind -/
def IsLs (Z : V → Hp → Prop) (n : Nat) (v : V) (H : Hp) : Prop := ∃ (p : Addr) (vs : List V), v = .ref p ∧ H p = some (.lst vs) ∧ AllZ Z n vs H
theorem IsLs.pers {n : Nat} (pz : ∀ v, Pers (Z v)) (v : V) : Pers (IsLs Z n v) := fun H H' e ⟨p, vs, a, b, c⟩ => ⟨p, vs, a, e _ _ b, AllZ.pers pz _ _ _ e c⟩
theorem est_ls {n : Nat} (pz : ∀ v, Pers (Z v)) (h : EstA tA σ H (AllZ Z n)) (hn : n ≤ 1000) : Est (tLst tA) σ H (IsLs Z n) := est_lstE h (AllZ.pers pz) (fun vs H' ⟨l, _⟩ => by omega) fun p vs H' _ hp ha => ⟨p, vs, rfl, hp, ha⟩
theorem est_catLs {n m : Nat} (pz : ∀ v, Pers (Z v)) (hv : σ[i]? = some (some x)) (h : IsLs Z n x H) (h2 : EstA tA σ H (AllZ Z m)) (hn : n + m ≤ 1000) : Est (tOp rCat (tVar i) (tLst tA)) σ H (IsLs Z (n + m)) := fun H1 e Q q => by
  obtain ⟨p, vs, rfl, hp, ha⟩ := h
  refine ⟨.ref p, hv, h2 H1 e _ fun ws H2 e2 hb => ⟨sz_of (by have := hb.1; omega), fun l hl => ?_⟩⟩
  have e3 := (e.trans e2).trans (Ex.new (o := .lst ws) hl)
  refine ⟨p, l, vs, ws, rfl, rfl, e3 _ _ hp, upd_same, sz_of (by rw [ha.1, hb.1]; omega), fun r hr => ?_⟩
  have e4 := Ex.new (o := .lst (vs ++ ws)) hr
  refine q _ _ ((e2.trans (Ex.new hl)).trans e4) ⟨r, vs ++ ws, rfl, upd_same, by rw [List.length_append, ha.1, hb.1], fun z hz => (List.mem_append.mp hz).elim (fun y => pz z _ _ (e3.trans e4) (ha.2 z y)) fun y => pz z _ _ ((Ex.new hl).trans e4) (hb.2 z y)⟩
theorem est_ixL {n : Nat} {k : Int} (pz : ∀ v, Pers (Z v)) (h : Est t1 σ H (IsLs Z n)) (hk : Ev t2 σ H (.int k)) (h0 : 0 ≤ k) (h1 : k < n) : Est (tOp (rIxL K) t1 t2) σ H Z := fun H1 e Q q => h H1 e _ fun y H2 e2 ⟨p, vs, ey, hp, hl, ha⟩ => hk H2 (e.trans e2) _ fun H3 e3 => by
  have lt : k.toNat < vs.length := by omega
  have z := atI_nat (xs := vs) (j := k.toNat) (List.getElem?_eq_getElem lt)
  rw [show ((k.toNat : Nat) : Int) = k by omega] at z
  exact ⟨p, vs, k, _, ey, rfl, sq_of (e3 _ _ hp), z, q _ _ (e2.trans e3) (pz _ _ _ e3 (ha _ (List.getElem_mem lt)))⟩
end
end KB

namespace K08
open PySem PySem.Spec PyProof.Rows L2 Evl KB KH KS
def topS (i : Nat) : Stmt := PySem.Challenge.pw_changeview_k08_views_put.main.body.getD i (.Pass ⟨0, 0, 0, 0⟩)
def methS (i j : Nat) : Stmt := match topS i with
  | .ClassDef (body := b) .. => b.getD j (.Pass ⟨0, 0, 0, 0⟩)
  | _ => .Pass ⟨0, 0, 0, 0⟩
abbrev sheaped : Stmt := topS 9
abbrev Nheaped : List Str := ["pairs", "totals", "row", "count", "total"]
abbrev Pheaped : List Str := ["pairs"]
theorem scheaped : FnScope Nheaped Pheaped (defScope sheaped) := ⟨rfl, rfl, rfl, by decide +kernel, rfl, by decide +kernel, by decide +kernel⟩
abbrev slisted : Stmt := topS 10
abbrev Nlisted : List Str := ["heap"]
abbrev Plisted : List Str := ["heap"]
theorem sclisted : FnScope Nlisted Plisted (defScope slisted) := ⟨rfl, rfl, rfl, by decide +kernel, rfl, by decide +kernel, by decide +kernel⟩
abbrev sadded : Stmt := topS 11
abbrev Nadded : List Str := ["one", "other"]
abbrev Padded : List Str := ["one", "other"]
theorem scadded : FnScope Nadded Padded (defScope sadded) := ⟨rfl, rfl, rfl, by decide +kernel, rfl, by decide +kernel, by decide +kernel⟩
abbrev sturned : Stmt := topS 12
abbrev Nturned : List Str := ["heap", "row", "count"]
abbrev Pturned : List Str := ["heap"]
theorem scturned : FnScope Nturned Pturned (defScope sturned) := ⟨rfl, rfl, rfl, by decide +kernel, rfl, by decide +kernel, by decide +kernel⟩
abbrev swithin : Stmt := topS 14
abbrev Nwithin : List Str := ["heap", "column", "low", "high", "row", "count"]
abbrev Pwithin : List Str := ["heap", "column", "low", "high"]
theorem scwithin : FnScope Nwithin Pwithin (defScope swithin) := ⟨rfl, rfl, rfl, by decide +kernel, rfl, by decide +kernel, by decide +kernel⟩
abbrev scolumns : Stmt := topS 15
abbrev Ncolumns : List Str := ["heap", "picked", "row", "count"]
abbrev Pcolumns : List Str := ["heap", "picked"]
theorem sccolumns : FnScope Ncolumns Pcolumns (defScope scolumns) := ⟨rfl, rfl, rfl, by decide +kernel, rfl, by decide +kernel, by decide +kernel⟩
abbrev smeet : Stmt := topS 16
abbrev Nmeet : List Str := ["one", "other", "pairs", "left", "_", "lefts", "right", "rights", "places", "row", "count", "behind", "times"]
abbrev Pmeet : List Str := ["one", "other", "pairs"]
theorem scmeet : FnScope Nmeet Pmeet (defScope smeet) := ⟨rfl, rfl, rfl, by decide +kernel, rfl, by decide +kernel, by decide +kernel⟩
abbrev sonce : Stmt := topS 17
abbrev Nonce : List Str := ["heap", "row", "count"]
abbrev Ponce : List Str := ["heap"]
theorem sconce : FnScope Nonce Ponce (defScope sonce) := ⟨rfl, rfl, rfl, by decide +kernel, rfl, by decide +kernel, by decide +kernel⟩
abbrev ssums : Stmt := topS 18
abbrev Nsums : List Str := ["heap", "keys", "column", "groups", "row", "count", "group", "times", "total", "numbers", "told"]
abbrev Psums : List Str := ["heap", "keys", "column"]
theorem scsums : FnScope Nsums Psums (defScope ssums) := ⟨rfl, rfl, rfl, by decide +kernel, rfl, by decide +kernel, by decide +kernel⟩
abbrev sreach : Stmt := topS 19
abbrev Nreach : List Str := ["heap", "steps", "start", "end"]
abbrev Preach : List Str := ["heap"]
theorem screach : FnScope Nreach Preach (defScope sreach) := ⟨rfl, rfl, rfl, by decide +kernel, rfl, by decide +kernel, by decide +kernel⟩
abbrev s_lies_within : Stmt := topS 20
abbrev N_lies_within : List Str := ["number", "low", "high"]
abbrev P_lies_within : List Str := ["number", "low", "high"]
theorem sc_lies_within : FnScope N_lies_within P_lies_within (defScope s_lies_within) := ⟨rfl, rfl, rfl, by decide +kernel, rfl, by decide +kernel, by decide +kernel⟩
abbrev s_picked_numbers : Stmt := topS 21
abbrev N_picked_numbers : List Str := ["row", "picked", "column"]
abbrev P_picked_numbers : List Str := ["row", "picked"]
theorem sc_picked_numbers : FnScope N_picked_numbers P_picked_numbers (defScope s_picked_numbers) := ⟨rfl, rfl, rfl, by decide +kernel, rfl, by decide +kernel, by decide +kernel⟩
abbrev s_placed : Stmt := topS 22
abbrev N_placed : List Str := ["heap", "picked", "places", "row", "count"]
abbrev P_placed : List Str := ["heap", "picked"]
theorem sc_placed : FnScope N_placed P_placed (defScope s_placed) := ⟨rfl, rfl, rfl, by decide +kernel, rfl, by decide +kernel, by decide +kernel⟩
abbrev s_reached_from : Stmt := topS 23
abbrev N_reached_from : List Str := ["start", "steps", "found", "waiting", "at", "end"]
abbrev P_reached_from : List Str := ["start", "steps"]
theorem sc_reached_from : FnScope N_reached_from P_reached_from (defScope s_reached_from) := ⟨rfl, rfl, rfl, by decide +kernel, rfl, by decide +kernel, by decide +kernel⟩
abbrev swidth_of : Stmt := topS 26
abbrev Nwidth_of : List Str := ["view", "widths", "width"]
abbrev Pwidth_of : List Str := ["view", "widths"]
theorem scwidth_of : FnScope Nwidth_of Pwidth_of (defScope swidth_of) := ⟨rfl, rfl, rfl, by decide +kernel, rfl, by decide +kernel, by decide +kernel⟩
abbrev sanswered : Stmt := topS 27
abbrev Nanswered : List Str := ["view", "heaps", "number", "inner", "column", "low", "high", "picked", "one", "other", "first", "second", "pairs", "keys"]
abbrev Panswered : List Str := ["view", "heaps"]
theorem scanswered : FnScope Nanswered Panswered (defScope sanswered) := ⟨rfl, rfl, rfl, by decide +kernel, rfl, by decide +kernel, by decide +kernel⟩
abbrev s_told_width : Stmt := topS 28
abbrev N_told_width : List Str := ["view", "widths", "number", "inner", "column", "picked", "one", "other", "pairs", "keys"]
abbrev P_told_width : List Str := ["view", "widths"]
theorem sc_told_width : FnScope N_told_width P_told_width (defScope s_told_width) := ⟨rfl, rfl, rfl, by decide +kernel, rfl, by decide +kernel, by decide +kernel⟩
abbrev s_table_width : Stmt := topS 29
abbrev N_table_width : List Str := ["number", "widths"]
abbrev P_table_width : List Str := ["number", "widths"]
theorem sc_table_width : FnScope N_table_width P_table_width (defScope s_table_width) := ⟨rfl, rfl, rfl, by decide +kernel, rfl, by decide +kernel, by decide +kernel⟩
abbrev s_width_with : Stmt := topS 30
abbrev N_width_with : List Str := ["view", "picked", "widths", "width"]
abbrev P_width_with : List Str := ["view", "picked", "widths"]
theorem sc_width_with : FnScope N_width_with P_width_with (defScope s_width_with) := ⟨rfl, rfl, rfl, by decide +kernel, rfl, by decide +kernel, by decide +kernel⟩
abbrev s_columns_width : Stmt := topS 31
abbrev N_columns_width : List Str := ["view", "picked", "widths"]
abbrev P_columns_width : List Str := ["view", "picked", "widths"]
theorem sc_columns_width : FnScope N_columns_width P_columns_width (defScope s_columns_width) := ⟨rfl, rfl, rfl, by decide +kernel, rfl, by decide +kernel, by decide +kernel⟩
abbrev s_like_width : Stmt := topS 32
abbrev N_like_width : List Str := ["one", "other", "widths", "width", "second"]
abbrev P_like_width : List Str := ["one", "other", "widths"]
theorem sc_like_width : FnScope N_like_width P_like_width (defScope s_like_width) := ⟨rfl, rfl, rfl, by decide +kernel, rfl, by decide +kernel, by decide +kernel⟩
abbrev s_meet_width : Stmt := topS 33
abbrev N_meet_width : List Str := ["one", "other", "pairs", "widths", "first", "second", "left", "_", "right"]
abbrev P_meet_width : List Str := ["one", "other", "pairs", "widths"]
theorem sc_meet_width : FnScope N_meet_width P_meet_width (defScope s_meet_width) := ⟨rfl, rfl, rfl, by decide +kernel, rfl, by decide +kernel, by decide +kernel⟩
abbrev s_reach_width : Stmt := topS 34
abbrev N_reach_width : List Str := ["view", "widths", "width"]
abbrev P_reach_width : List Str := ["view", "widths"]
theorem sc_reach_width : FnScope N_reach_width P_reach_width (defScope s_reach_width) := ⟨rfl, rfl, rfl, by decide +kernel, rfl, by decide +kernel, by decide +kernel⟩
abbrev s_check_columns : Stmt := topS 35
abbrev N_check_columns : List Str := ["picked", "width"]
abbrev P_check_columns : List Str := ["picked", "width"]
theorem sc_check_columns : FnScope N_check_columns P_check_columns (defScope s_check_columns) := ⟨rfl, rfl, rfl, by decide +kernel, rfl, by decide +kernel, by decide +kernel⟩
abbrev s_two_widths : Stmt := topS 36
abbrev N_two_widths : List Str := ["one", "other", "widths", "width"]
abbrev P_two_widths : List Str := ["one", "other", "widths"]
theorem sc_two_widths : FnScope N_two_widths P_two_widths (defScope s_two_widths) := ⟨rfl, rfl, rfl, by decide +kernel, rfl, by decide +kernel, by decide +kernel⟩
abbrev s_two_answers : Stmt := topS 37
abbrev N_two_answers : List Str := ["one", "other", "heaps", "heap"]
abbrev P_two_answers : List Str := ["one", "other", "heaps"]
theorem sc_two_answers : FnScope N_two_answers P_two_answers (defScope s_two_answers) := ⟨rfl, rfl, rfl, by decide +kernel, rfl, by decide +kernel, by decide +kernel⟩
abbrev sM__init__ : Stmt := methS 40 0
abbrev NM__init__ : List Str := ["self", "widths", "_"]
abbrev PM__init__ : List Str := ["self", "widths"]
theorem scM__init__ : FnScope NM__init__ PM__init__ (defScope sM__init__) := ⟨rfl, rfl, rfl, by decide +kernel, rfl, by decide +kernel, by decide +kernel⟩
abbrev sMput : Stmt := methS 40 1
abbrev NMput : List Str := ["self", "view"]
abbrev PMput : List Str := ["self", "view"]
theorem scMput : FnScope NMput PMput (defScope sMput) := ⟨rfl, rfl, rfl, by decide +kernel, rfl, by decide +kernel, by decide +kernel⟩
abbrev sMchange : Stmt := methS 40 2
abbrev NMchange : List Str := ["self", "table", "pairs", "told", "number"]
abbrev PMchange : List Str := ["self", "table", "pairs"]
theorem scMchange : FnScope NMchange PMchange (defScope sMchange) := ⟨rfl, rfl, rfl, by decide +kernel, rfl, by decide +kernel, by decide +kernel⟩
abbrev sManswer : Stmt := methS 40 3
abbrev NManswer : List Str := ["self", "number"]
abbrev PManswer : List Str := ["self", "number"]
theorem scManswer : FnScope NManswer PManswer (defScope sManswer) := ⟨rfl, rfl, rfl, by decide +kernel, rfl, by decide +kernel, by decide +kernel⟩
abbrev sMtable : Stmt := methS 40 4
abbrev NMtable : List Str := ["self", "table"]
abbrev PMtable : List Str := ["self", "table"]
theorem scMtable : FnScope NMtable PMtable (defScope sMtable) := ⟨rfl, rfl, rfl, by decide +kernel, rfl, by decide +kernel, by decide +kernel⟩
abbrev sM_check_table : Stmt := methS 40 5
abbrev NM_check_table : List Str := ["self", "table"]
abbrev PM_check_table : List Str := ["self", "table"]
theorem scM_check_table : FnScope NM_check_table PM_check_table (defScope sM_check_table) := ⟨rfl, rfl, rfl, by decide +kernel, rfl, by decide +kernel, by decide +kernel⟩
abbrev sM_changed : Stmt := methS 40 6
abbrev NM_changed : List Str := ["self", "table", "pairs", "heap", "width"]
abbrev PM_changed : List Str := ["self", "table", "pairs"]
theorem scM_changed : FnScope NM_changed PM_changed (defScope sM_changed) := ⟨rfl, rfl, rfl, by decide +kernel, rfl, by decide +kernel, by decide +kernel⟩
abbrev sM_renewed : Stmt := methS 40 7
abbrev NM_renewed : List Str := ["self", "number", "ahead", "now"]
abbrev PM_renewed : List Str := ["self", "number"]
theorem scM_renewed : FnScope NM_renewed PM_renewed (defScope sM_renewed) := ⟨rfl, rfl, rfl, by decide +kernel, rfl, by decide +kernel, by decide +kernel⟩
abbrev sL_whole : Stmt := topS 42
abbrev NL_whole : List Str := ["_law_found"]
abbrev PL_whole : List Str := ["_law_found"]
theorem scL_whole : FnScope NL_whole PL_whole (defScope sL_whole) := ⟨rfl, rfl, rfl, by decide +kernel, rfl, by decide +kernel, by decide +kernel⟩
abbrev sL_at : Stmt := topS 43
abbrev NL_at : List Str := ["_law_script", "_law_k"]
abbrev PL_at : List Str := ["_law_script", "_law_k"]
theorem scL_at : FnScope NL_at PL_at (defScope sL_at) := ⟨rfl, rfl, rfl, by decide +kernel, rfl, by decide +kernel, by decide +kernel⟩
abbrev sL_value : Stmt := topS 44
abbrev NL_value : List Str := ["_law_cell"]
abbrev PL_value : List Str := ["_law_cell"]
theorem scL_value : FnScope NL_value PL_value (defScope sL_value) := ⟨rfl, rfl, rfl, by decide +kernel, rfl, by decide +kernel, by decide +kernel⟩
abbrev sL_row : Stmt := topS 45
abbrev NL_row : List Str := ["_law_cell", "_law_width", "_law_k"]
abbrev PL_row : List Str := ["_law_cell", "_law_width"]
theorem scL_row : FnScope NL_row PL_row (defScope sL_row) := ⟨rfl, rfl, rfl, by decide +kernel, rfl, by decide +kernel, by decide +kernel⟩
abbrev sL_put : Stmt := topS 46
abbrev NL_put : List Str := ["_law_heap", "_law_row_here", "_law_count", "_law_total"]
abbrev PL_put : List Str := ["_law_heap", "_law_row_here", "_law_count"]
theorem scL_put : FnScope NL_put PL_put (defScope sL_put) := ⟨rfl, rfl, rfl, by decide +kernel, rfl, by decide +kernel, by decide +kernel⟩
abbrev sL_heap_of : Stmt := topS 47
abbrev NL_heap_of : List Str := ["_law_found", "_law_heap", "_law_last", "_law_pair", "_law_value_here"]
abbrev PL_heap_of : List Str := ["_law_found"]
theorem scL_heap_of : FnScope NL_heap_of PL_heap_of (defScope sL_heap_of) := ⟨rfl, rfl, rfl, by decide +kernel, rfl, by decide +kernel, by decide +kernel⟩
abbrev sL_word : Stmt := topS 48
abbrev NL_word : List Str := ["_law_e", "_law_truths", "_law_told"]
abbrev PL_word : List Str := ["_law_e"]
theorem scL_word : FnScope NL_word PL_word (defScope sL_word) := ⟨rfl, rfl, rfl, by decide +kernel, rfl, by decide +kernel, by decide +kernel⟩
abbrev sL_said : Stmt := topS 49
abbrev NL_said : List Str := ["_law_keeper", "_law_view", "_law_e"]
abbrev PL_said : List Str := ["_law_keeper", "_law_view"]
theorem scL_said : FnScope NL_said PL_said (defScope sL_said) := ⟨rfl, rfl, rfl, by decide +kernel, rfl, by decide +kernel, by decide +kernel⟩
abbrev sL_no_view : Stmt := topS 50
abbrev NL_no_view : List Str := ["_law_keeper", "_law_number", "_law_e"]
abbrev PL_no_view : List Str := ["_law_keeper", "_law_number"]
theorem scL_no_view : FnScope NL_no_view PL_no_view (defScope sL_no_view) := ⟨rfl, rfl, rfl, by decide +kernel, rfl, by decide +kernel, by decide +kernel⟩
abbrev sL_wrong : Stmt := topS 51
abbrev NL_wrong : List Str := ["_law_cell", "_law_view", "_law_beyond", "_law_far", "_law_width", "_law_more", "_law_some_here", "_law_view_wrong", "_law_turn", "_law_wrong_here"]
abbrev PL_wrong : List Str := ["_law_cell", "_law_view", "_law_beyond", "_law_far", "_law_width"]
theorem scL_wrong : FnScope NL_wrong PL_wrong (defScope sL_wrong) := ⟨rfl, rfl, rfl, by decide +kernel, rfl, by decide +kernel, by decide +kernel⟩
abbrev sL_some : Stmt := topS 52
abbrev NL_some : List Str := ["_law_cell", "_law_widths_here", "_law_table", "_law_column", "_law_far", "_law_beyond"]
abbrev PL_some : List Str := ["_law_cell", "_law_widths_here"]
theorem scL_some : FnScope NL_some PL_some (defScope sL_some) := ⟨rfl, rfl, rfl, by decide +kernel, rfl, by decide +kernel, by decide +kernel⟩
abbrev sL_answer : Stmt := topS 53
abbrev NL_answer : List Str := ["_law_view", "_law_tables", "_law_heap", "_law_found", "_law_row_here"]
abbrev PL_answer : List Str := ["_law_view", "_law_tables"]
theorem scL_answer : FnScope NL_answer PL_answer (defScope sL_answer) := ⟨rfl, rfl, rfl, by decide +kernel, rfl, by decide +kernel, by decide +kernel⟩
abbrev sL_widths : Stmt := topS 54
abbrev NL_widths : List Str := ["_law_script", "_law_head", "_law_many", "_law_wide", "_law_k"]
abbrev PL_widths : List Str := ["_law_script"]
theorem scL_widths : FnScope NL_widths PL_widths (defScope sL_widths) := ⟨rfl, rfl, rfl, by decide +kernel, rfl, by decide +kernel, by decide +kernel⟩
abbrev sL : Stmt := topS 55
abbrev NL : List Str := ["_law_script", "_law_widths_here", "_law_keeper", "_law_width", "_law_tables", "_law_k", "_law_table", "_law_row_here", "_law_views", "_law_cells", "_law_cell", "_law_view", "_law_due", "_law_found", "_law_far"]
abbrev PL : List Str := ["_law_script"]
theorem scL : FnScope NL PL (defScope sL) := ⟨rfl, rfl, rfl, by decide +kernel, rfl, by decide +kernel, by decide +kernel⟩
/-- built-in names that the top leaves alone -/
structure B8 (mg : Str → Option Value) : Prop where
  len : mg "len" = none
  range : mg "range" = none
  tuple : mg "tuple" = none
  list : mg "list" = none
  int : mg "int" = none
  bool : mg "bool" = none
  isinstance : mg "isinstance" = none
  sorted : mg "sorted" = none
  any : mg "any" = none
section
variable {P : Program} {w : World} {K : PySem.W.Frag} {mg : Str → Option Value} {base : Heap} {σ : L2.St} {H H' : Hp}
/-! ### heaped -/
/-- a list of pairs of a row and a number -/
def PairsL (K : PySem.W.Frag) (H : Hp) (p : Addr) (ps : Rows) : Prop := ∃ ts : List Addr, SqL K H p (ts.map V.ref) ∧ Paired (fun (t : Addr) (z : List Int × Int) => ∃ q, SqT K H t [.ref q, .int z.2] ∧ H q = some (.tup (z.1.map V.int))) ts ps
def sumL (ps : Rows) : Rows := ps.foldl (fun L z => putI L z.1 ((valI L z.1).getD 0 + z.2)) []
def heapedL (ps : Rows) : Rows := pick (fun p => if p.2 ≠ 0 then some p.2 else none) (sumL ps)
theorem put_keys {L : Rows} {n : List Int} {c : Int} (nd : (L.map (·.1)).Nodup) : ((putI L n c).map (·.1)).Nodup := by
  unfold putI
  by_cases h : hasI L n = true
  · rw [if_pos h, List.map_map]
    have : (L.map ((fun p : List Int × Int => p.1) ∘ fun p => if p.1 = n then (p.1, c) else p)) = L.map (·.1) := by
      congr 1
      funext p
      show (if p.1 = n then (p.1, c) else p).1 = p.1
      split <;> rfl
    rw [this]
    exact nd
  · rw [if_neg h, List.map_append]
    refine List.nodup_append.mpr ⟨nd, List.nodup_cons.mpr ⟨by simp, List.nodup_nil⟩, fun a ha b hb e => ?_⟩
    rw [List.map_cons, List.map_nil, List.mem_singleton] at hb
    refine h ?_
    obtain ⟨p, hp, e2⟩ := List.mem_map.mp ha
    exact List.any_eq_true.mpr ⟨p, hp, decide_eq_true (by rw [e2, e, hb])⟩
theorem put_len (L : Rows) (n : List Int) (c : Int) : (putI L n c).length ≤ L.length + 1 := by
  unfold putI
  split
  · rw [List.length_map]; omega
  · rw [List.length_append]; exact Nat.le_refl _
theorem sum_take {ps : Rows} {i : Nat} {z : List Int × Int} (h : ps[i]? = some z) : sumL (ps.take (i + 1)) = putI (sumL (ps.take i)) z.1 ((valI (sumL (ps.take i)) z.1).getD 0 + z.2) := by
  unfold sumL
  rw [List.take_add_one, h, List.foldl_append]
  rfl
theorem sum_ok : ∀ ps : Rows, ((sumL ps).map (·.1)).Nodup ∧ (sumL ps).length ≤ ps.length := by
  intro ps
  have : ∀ (qs : Rows) (L : Rows), (L.map (·.1)).Nodup → ((qs.foldl (fun L z => putI L z.1 ((valI L z.1).getD 0 + z.2)) L).map (·.1)).Nodup ∧ (qs.foldl (fun L z => putI L z.1 ((valI L z.1).getD 0 + z.2)) L).length ≤ L.length + qs.length := by
    intro qs
    induction qs with
    | nil => intro L h; exact ⟨h, Nat.le_refl _⟩
    | cons z r ih =>
      intro L h
      obtain ⟨a, b⟩ := ih _ (put_keys (n := z.1) (c := (valI L z.1).getD 0 + z.2) h)
      refine ⟨a, Nat.le_trans b ?_⟩
      have := put_len L z.1 ((valI L z.1).getD 0 + z.2)
      rw [List.length_cons]
      omega
  obtain ⟨a, b⟩ := this ps [] List.nodup_nil
  exact ⟨a, by unfold sumL; simpa using b⟩
def spHeaped (K : PySem.W.Frag) : Sp := fun vs H Q _ => ∃ (p : Addr) (ps : Rows), vs = [.ref p] ∧ PairsL K H p ps ∧ ps.length ≤ 1000 ∧ ∀ H' d, Ex H H' → H d = none → HeapAt H' d (heapedL ps) → Q (.ref d) H'
theorem get_at {L : Rows} {d q : Addr} {n : List Int} (hd : HeapAt H d L) (hq : H q = some (.tup (n.map V.int))) : DGet H d (.ref q) ((valI L n).map V.int) := by
  rw [← valV_ent]
  exact DGet.t hd (by rw [hq, ints_inl])
theorem put_at {L : Rows} {d q : Addr} {n : List Int} {c : Int} (hd : HeapAt H d L) (hq : H q = some (.tup (n.map V.int))) (hl : L.length < 10000) : DPut H d (.ref q) (.int c) (upd H d (.dT ((putI L n c).map entI))) := by
  rw [← putK_ent]
  exact DPut.t hd (by rw [hq, ints_inl]) (by rw [List.length_map]; exact sz_lt (by omega))
theorem ok_heaped {f : Addr} {fd : FuncData} {k : Nat} (A : FnAt K mg "heaped" sheaped Pheaped f fd) : FnOk P w K mg base CX0 (k + 1) f fd Pheaped (spHeaped K) := by
  refine A.F.ok scheaped (fun vs H Q E h => ?_) (fun cdv A' outer s H vs Q E hr h => ?_)
  · obtain ⟨_, _, rfl, _⟩ := h
    rfl
  obtain ⟨p, ps, rfl, ⟨ts, hts, hp⟩, hl, q⟩ := h
  have hu : (A'.deeper (envOfC "heaped" (defScope sheaped) s.heap.objs.size f cdv)).units + 1 < cLine := by have := hr.un; omega
  refine ⟨_, (pss_cons (ps_set (i := 1) scheaped.nd rfl (.inl rfl) pe_dnewT)
  (pss_cons (ps_for PassesOwn.never rfl (pi_list (pv 0)) (pg_tup rfl (pgs_cons (pg_name (i := 2) scheaped.nd rfl (.inl rfl)) (pgs_cons (pg_name (i := 3) scheaped.nd rfl (.inl rfl)) pgs_nil)))
    (pss_one (ps_dput hu (pv 1) (pv 2) (pe_op op_add (pe_dget2 hu (pv 1) (pv 2) pe_int ⟨rfl, rfl, rfl, rfl⟩) (pv 3)) rfl)))
  (pss_one (ps_ret (pe_lock (KD.pe_dcG (O := .dT []) (St := KH.StT) (own := [("row", 2), ("total", 4)]) (g := (gTup K 2 (gCons (gName 2) (gCons (gName 4) gNil)))) (tt := _) (KH.dk_tup hu) rfl scheaped.nd (KD.pi_itemsT (pv 1)) (blkOk_by (N := Nheaped) (sc := defScope sheaped) (by decide +kernel)) (fun _ _ _ _ _ => (pg_tup rfl (pgs_cons (pg_name (i := 2) scheaped.nd rfl (.inl rfl)) (pgs_cons (pg_name (i := 4) scheaped.nd rfl (.inl rfl)) pgs_nil)))) (fun _ _ _ _ _ => pts_one (pt_cmpR op_ne (pv 4) pe_int (nomark _))) (fun _ _ _ _ _ => (pv 2)) (fun _ _ _ _ _ => (pv 4)))))))), ?_⟩
  refine fun o no => ?_
  refine ⟨.ref p, rfl, p, rfl, ⟨_, ex_l (Ex.new no) hts⟩, for_list (xs := ts.map V.ref) (fun i σ H2 => ∃ y2 y3, σ = [some (.ref p), some (.ref o), y2, y3, none] ∧ Ex H H2 ∧ HeapAt H2 o (sumL (ps.take i))) ⟨none, none, rfl, Ex.new no, upd_same⟩ (fun i σ H2 _ ⟨_, _, _, e2, _⟩ => ex_l e2 hts) ?_ ?_⟩
  · rintro i x σ H2 hx ⟨y2, y3, rfl, e2, ho⟩
    rw [List.getElem?_map] at hx
    cases ht : ts[i]? with
    | none => rw [ht] at hx; cases hx
    | some t =>
      rw [ht] at hx
      cases hx
      obtain ⟨z, hz, qr, h1, h2⟩ := KD.paired_at hp ht
      have lt : (sumL (ps.take i)).length < 10000 := by
        have := (sum_ok (ps.take i)).2
        rw [List.length_take] at this
        omega
      refine ⟨t, _, rfl, ex_t e2 h1, rfl, _, _, rfl, _, _, rfl, rfl, ?_⟩
      refine ⟨_, rfl, o, rfl, .inr ⟨_, .inl ho⟩, _, rfl, _, get_at ho (e2 _ _ h2), ?_⟩
      have gd : ((valI (sumL (ps.take i)) z.1).map V.int).getD (.int 0) = .int ((valI (sumL (ps.take i)) z.1).getD 0) := by cases valI (sumL (ps.take i)) z.1 <;> rfl
      rw [gd]
      refine ⟨_, rfl, _, _, rfl, rfl, _, rfl, _, rfl, o, _, rfl, put_at ho (e2 _ _ h2) lt, ?_⟩
      exact ⟨_, _, rfl, Ex.mut e2 no, by rw [sum_take hz]; exact upd_same⟩
  · rintro σ H2 ⟨y2, y3, rfl, e2, ho⟩
    have hlen : ts.length = ps.length := Paired.length hp
    rw [List.length_map, hlen, List.take_length] at ho
    refine ev_dc (fun p => if p.2 ≠ 0 then some p.2 else none) rfl ho (sum_ok ps).1 (Nat.le_trans (sum_ok ps).2 hl) (by intro _ _; rfl) (by intro _ _; rfl) (fun p qa H1 Q1 h => ?_) (fun p c qa H1 Q1 hc h => ?_) _ fun d H3 hd e3 h3 => q H3 d (e2.trans e3) (fresh_back e2 hd) h3
    · refine ⟨_, rfl, ?_⟩
      have e : (!decide (V.int p.2 = V.int 0)) = (if p.2 ≠ 0 then some p.2 else none).isSome := by by_cases e : p.2 = 0 <;> simp [e]
      (repeat (first | (refine ⟨_, rfl, ?_⟩) | (refine ⟨_, _, rfl, rfl, ?_⟩) | (refine ⟨⟨by decide, by decide⟩, ?_⟩) | (refine ⟨(by show (0 : Int) < _; decide), ?_⟩) | (refine ⟨rfl, ?_⟩) | (refine ⟨(by show _ ≠ (0 : Int); omega), ?_⟩) | (refine ⟨.inl ⟨by decide, by decide⟩, ?_⟩) | (refine ⟨(by assumption : CDivN _ _), ?_⟩)))
      rw [e]
      exact h
    · refine ⟨_, rfl, ?_⟩
      by_cases e : p.2 = 0
      · rw [if_neg (by simp [e])] at hc
        cases hc
      · rw [if_pos e] at hc
        cases hc
        exact h
theorem dictTy {d : Addr} {kvs : List (List Key × V)} (h : H d = some (.dT kvs)) : tyV K "dict" (.ref d) H := .inr (.inr (.inl ⟨rfl, .inr ⟨_, h⟩⟩))
/-! ### turned, once -/
def spTurned : Sp := fun vs H Q _ => ∃ (d : Addr) (L : Rows), vs = [.ref d] ∧ HeapAt H d L ∧ (L.map (·.1)).Nodup ∧ L.length ≤ 1000 ∧ ∀ H' d', Ex H H' → H d' = none → HeapAt H' d' (pick (fun p => some (-p.2)) L) → Q (.ref d') H'
theorem ok_turned {f : Addr} {fd : FuncData} {k : Nat} (A : FnAt K mg "turned" sturned Pturned f fd) : FnOk P w K mg base CX0 (k + 1) f fd Pturned spTurned := by
  refine A.F.ok scturned (fun vs H Q E h => ?_) (fun cdv A' outer s H vs Q E hr h => ?_)
  · obtain ⟨_, _, rfl, _⟩ := h
    rfl
  obtain ⟨d, L, rfl, hd, nd, hl, q⟩ := h
  have hu : (A'.deeper (envOfC "turned" (defScope sturned) s.heap.objs.size f cdv)).units + 1 < cLine := by have := hr.un; omega
  refine ⟨_, (pss_one (ps_ret (pe_lock (KD.pe_dcG (O := .dT []) (St := KH.StT) (own := [("row", 1), ("count", 2)]) (g := (gTup K 2 (gCons (gName 1) (gCons (gName 2) gNil)))) (tt := tYes) (KH.dk_tup hu) rfl scturned.nd (KD.pi_itemsT (pv 0)) (blkOk_by (N := Nturned) (sc := defScope sturned) (by decide +kernel)) (fun _ _ _ _ _ => (pg_tup rfl (pgs_cons (pg_name (i := 1) scturned.nd rfl (.inl rfl)) (pgs_cons (pg_name (i := 2) scturned.nd rfl (.inl rfl)) pgs_nil)))) (fun _ _ _ _ _ => pts_nil) (fun _ _ _ _ _ => (pv 1)) (fun _ _ _ _ _ => (pe_un un_neg (pv 2))))))), ?_⟩
  refine ev_dc (fun p => some (-p.2)) rfl hd nd hl (by intro _ _; rfl) (by intro _ _; rfl) (fun p qa H1 Q1 h => h) (fun p c qa H1 Q1 hc h => ?_) _ fun d' H3 hd' e3 h3 => q H3 d' e3 hd' h3
  cases hc
  (repeat (first | (refine ⟨_, rfl, ?_⟩) | (refine ⟨_, _, rfl, rfl, ?_⟩) | (refine ⟨⟨by decide, by decide⟩, ?_⟩) | (refine ⟨(by show (0 : Int) < _; decide), ?_⟩) | (refine ⟨rfl, ?_⟩) | (refine ⟨(by show _ ≠ (0 : Int); omega), ?_⟩) | (refine ⟨.inl ⟨by decide, by decide⟩, ?_⟩) | (refine ⟨(by assumption : CDivN _ _), ?_⟩)))
  exact h
def onceL (L : Rows) : Rows := pick (fun p => if 0 < p.2 then some 1 else none) L
def spOnce : Sp := fun vs H Q _ => ∃ (d : Addr) (L : Rows), vs = [.ref d] ∧ HeapAt H d L ∧ (L.map (·.1)).Nodup ∧ L.length ≤ 1000 ∧ ∀ H' d', Ex H H' → H d' = none → HeapAt H' d' (onceL L) → Q (.ref d') H'
theorem ok_once {f : Addr} {fd : FuncData} {k : Nat} (A : FnAt K mg "once" sonce Ponce f fd) : FnOk P w K mg base CX0 (k + 1) f fd Ponce spOnce := by
  refine A.F.ok sconce (fun vs H Q E h => ?_) (fun cdv A' outer s H vs Q E hr h => ?_)
  · obtain ⟨_, _, rfl, _⟩ := h
    rfl
  obtain ⟨d, L, rfl, hd, nd, hl, q⟩ := h
  have hu : (A'.deeper (envOfC "once" (defScope sonce) s.heap.objs.size f cdv)).units + 1 < cLine := by have := hr.un; omega
  refine ⟨_, (pss_one (ps_ret (pe_lock (KD.pe_dcG (O := .dT []) (St := KH.StT) (own := [("row", 1), ("count", 2)]) (g := (gTup K 2 (gCons (gName 1) (gCons (gName 2) gNil)))) (tt := _) (KH.dk_tup hu) rfl sconce.nd (KD.pi_itemsT (pv 0)) (blkOk_by (N := Nonce) (sc := defScope sonce) (by decide +kernel)) (fun _ _ _ _ _ => (pg_tup rfl (pgs_cons (pg_name (i := 1) sconce.nd rfl (.inl rfl)) (pgs_cons (pg_name (i := 2) sconce.nd rfl (.inl rfl)) pgs_nil)))) (fun _ _ _ _ _ => pts_one (pt_cmpR op_gt (pv 2) pe_int (nomark _))) (fun _ _ _ _ _ => (pv 1)) (fun _ _ _ _ _ => pe_int))))), ?_⟩
  refine ev_dc (fun p => if 0 < p.2 then some 1 else none) rfl hd nd hl (by intro _ _; rfl) (by intro _ _; rfl) (fun p qa H1 Q1 h => ?_) (fun p c qa H1 Q1 hc h => ?_) _ fun d' H3 hd' e3 h3 => q H3 d' e3 hd' h3
  · have e : decide (0 < p.2) = (if 0 < p.2 then some (1 : Int) else none).isSome := by by_cases e : 0 < p.2 <;> simp [e]
    (repeat (first | (refine ⟨_, rfl, ?_⟩) | (refine ⟨_, _, rfl, rfl, ?_⟩) | (refine ⟨⟨by decide, by decide⟩, ?_⟩) | (refine ⟨(by show (0 : Int) < _; decide), ?_⟩) | (refine ⟨rfl, ?_⟩) | (refine ⟨(by show _ ≠ (0 : Int); omega), ?_⟩) | (refine ⟨.inl ⟨by decide, by decide⟩, ?_⟩) | (refine ⟨(by assumption : CDivN _ _), ?_⟩)))
    rw [e]
    exact h
  · have e : c = 1 := by
      by_cases e : 0 < p.2
      · rw [if_pos e] at hc
        exact (Option.some.inj hc).symm
      · rw [if_neg e] at hc
        cases hc
    rw [e] at h
    exact h
/-! ### listed, added -/
/-- the list of a heap: pairs of its rows, rising -/
def spListed : Sp := fun vs H Q _ => ∃ (d : Addr) (L : Rows), vs = [.ref d] ∧ HeapAt H d L ∧ (L.map (·.1)).Nodup ∧ L.length < 64 ∧ ∀ (H' : Hp) (l : Addr) (as : List Addr) (M : Rows), Ex H H' → H l = none → M.Perm L → M.Pairwise (fun x y => HT.lexLt x.1 y.1 = true) → H' l = some (.lst (as.map V.ref)) → KD.PairsOf H' as (M.map entI) → Q (.ref l) H'
theorem ok_listed {f : Addr} {fd : FuncData} {k : Nat} (A : FnAt K mg "listed" slisted Plisted f fd) (B : B8 mg) : FnOk P w K mg base CX0 (k + 1) f fd Plisted spListed := by
  refine A.F.ok sclisted (fun vs H Q E h => ?_) (fun cdv A' outer s H vs Q E hr h => ?_)
  · obtain ⟨_, _, rfl, _⟩ := h
    rfl
  obtain ⟨d, L, rfl, hd, nd, hl, q⟩ := h
  have hu64 : (A'.deeper (envOfC "listed" (defScope slisted) s.heap.objs.size f cdv)).units + 64 < cLine := by have := hr.un; omega
  refine ⟨_, (pss_one (ps_ret (pe_callB (KS.cr_sortRows rfl hu64) (by rfl) B.sorted (by decide +kernel) (pa_cons (pe_bm0 PySem.F.plainAttrs_dict PySem.F.slot_dict_items PySem.F.type_dict_items L2.DX.mt_itemsT (pv 0)) pa_nil)))), ?_⟩
  refine ⟨_, rfl, dictTy hd, d, _, rfl, rfl, hd, fun p hp => ?_⟩
  have e := Ex.new (o := L2.DX.itemsO p d) hp
  exact ⟨p, d, L, rfl, upd_same, e _ _ hd, hl, nd, fun H' l as M e' hl' pm so g1 g2 => q H' l as M (e.trans e') (fresh_back e hl') pm so g1 g2⟩
def addedL (L M : Rows) : Rows := heapedL (L ++ M)
def spAdded : Sp := fun vs H Q _ => ∃ (a b : Addr) (L M : Rows), vs = [.ref a, .ref b] ∧ HeapAt H a L ∧ HeapAt H b M ∧ L.length ≤ 400 ∧ M.length ≤ 400 ∧ ∀ H' d, Ex H H' → H d = none → HeapAt H' d (addedL L M) → Q (.ref d) H'
theorem pairs_of {as : List Addr} {L : Rows} (h : KD.PairsOf H as (L.map entI)) : Paired (fun (t : Addr) (z : List Int × Int) => ∃ q, SqT K H t [.ref q, .int z.2] ∧ H q = some (.tup (z.1.map V.int))) as L := by
  induction L generalizing as with
  | nil =>
    cases as with
    | nil => exact .nil
    | cons => cases h
  | cons z r ih =>
    cases h with
    | cons x t =>
      obtain ⟨q, h1, h2⟩ := x
      exact .cons ⟨q, st_of h2, by rw [h1, ints_inl]⟩ (ih t)
theorem pairs_ex {as : List Addr} {ps : Rows} (e : Ex H H') (h : Paired (fun (t : Addr) (z : List Int × Int) => ∃ q, SqT K H t [.ref q, .int z.2] ∧ H q = some (.tup (z.1.map V.int))) as ps) : Paired (fun (t : Addr) (z : List Int × Int) => ∃ q, SqT K H' t [.ref q, .int z.2] ∧ H' q = some (.tup (z.1.map V.int))) as ps :=
  L2.Paired.mapP h fun _ _ ⟨q, a, b⟩ => ⟨q, ex_t e a, e _ _ b⟩
theorem paired_app {α β : Type} {F : α → β → Prop} : ∀ {as bs : List α} {xs ys : List β}, Paired F as xs → Paired F bs ys → Paired F (as ++ bs) (xs ++ ys)
  | _, _, _, _, .nil, h => h
  | _, _, _, _, .cons x t, h => .cons x (paired_app t h)
theorem ok_added {f f1 : Addr} {fd fd1 : FuncData} {k : Nat} (A : FnAt K mg "added" sadded Padded f fd) (Aheaped : FnAt K mg "heaped" sheaped Pheaped f1 fd1) (B : B8 mg) : FnOk P w K mg base CX0 (k + 2) f fd Padded spAdded := by
  refine A.F.ok scadded (fun vs H Q E h => ?_) (fun cdv A' outer s H vs Q E hr h => ?_)
  · obtain ⟨_, _, _, _, rfl, _⟩ := h
    rfl
  obtain ⟨a, b, L, M, rfl, ha, hb, ll, lm, q⟩ := h
  have hr1 : Room 1 _ := hr.mono (by omega)
  have Gheaped : FnOk P w K mg base CX0 1 f1 fd1 Pheaped (spHeaped K) := ok_heaped Aheaped
  refine ⟨_, (pss_one (ps_ret (pe_call Gheaped hr1 (by rfl) Aheaped.g Aheaped.F.kp Aheaped.b .nil pass0 (pa_cons (pe_op op_cat (pe_callTy (KD.cr_listIt rfl) (by rfl) B.list (by decide +kernel) (pa_cons (pe_bm0 PySem.F.plainAttrs_dict PySem.F.slot_dict_items PySem.F.type_dict_items L2.DX.mt_itemsT (pv 0)) pa_nil)) (pe_callTy (KD.cr_listIt rfl) (by rfl) B.list (by decide +kernel) (pa_cons (pe_bm0 PySem.F.plainAttrs_dict PySem.F.slot_dict_items PySem.F.type_dict_items L2.DX.mt_itemsT (pv 1)) pa_nil))) pa_nil)))), ?_⟩
  refine ⟨_, rfl, dictTy ha, a, _, rfl, rfl, ha, fun p hp => ?_⟩
  have e1 := Ex.new (o := L2.DX.itemsO p a) hp
  refine ⟨p, a, L.map entI, rfl, upd_same, e1 _ _ ha, fun H2 l1 as e2 hl1 g1 g2 => ?_⟩
  have e02 := e1.trans e2
  refine ⟨_, rfl, dictTy (e02 _ _ hb), b, _, rfl, rfl, e02 _ _ hb, fun p2 hp2 => ?_⟩
  have e3 := Ex.new (o := L2.DX.itemsO p2 b) hp2
  have e03 := e02.trans e3
  refine ⟨p2, b, M.map entI, rfl, upd_same, e03 _ _ hb, fun H4 l2 bs e4 hl2 g3 g4 => ?_⟩
  have e04 := e03.trans e4
  have e24 := e3.trans e4
  have la : as.length = L.length := by have := Paired.length g2; rwa [List.length_map] at this
  have lb : bs.length = M.length := by have := Paired.length g4; rwa [List.length_map] at this
  refine ⟨l1, l2, _, _, rfl, rfl, e24 _ _ g1, g3, by rw [List.length_map, List.length_map]; exact sz_of (by omega), fun l3 hl3 => ?_⟩
  have e5 := Ex.new (o := .lst (as.map V.ref ++ bs.map V.ref)) hl3
  refine ⟨l3, L ++ M, rfl, ⟨as ++ bs, by rw [List.map_append]; exact sq_of upd_same, paired_app (pairs_ex (e24.trans e5) (pairs_of g2)) (pairs_ex e5 (pairs_of g4))⟩, by rw [List.length_append]; omega, fun H' d e6 hd h6 => q H' d ((e04.trans e5).trans e6) (fresh_back (e04.trans e5) hd) h6⟩
end
end K08

namespace K08
open PySem PySem.Spec PyProof.Rows L2 Evl KB KH KS
section
variable {P : Program} {w : World} {K : PySem.W.Frag} {mg : Str → Option Value} {base : Heap} {σ : L2.St} {H H' : Hp}
/-! ### columns -/
def atN (n : List Int) (c : Int) : Int := n.getD c.toNat 0
def pickN (n cs : List Int) : List Int := cs.map (atN n)
def spPicked : Sp := fun vs H Q _ => ∃ (a b : Addr) (n cs : List Int), vs = [.ref a, .ref b] ∧ H a = some (.tup (n.map V.int)) ∧ H b = some (.tup (cs.map V.int)) ∧ cs.length ≤ 1000 ∧ (∀ c ∈ cs, 0 ≤ c ∧ c < n.length) ∧ ∀ H' t, Ex H H' → H' t = some (.tup ((pickN n cs).map V.int)) → Q (.ref t) H'
theorem at_n {n : List Int} {c : Int} (h0 : 0 ≤ c) (h1 : c < n.length) : atI (n.map V.int) c = some (.int (atN n c)) := by
  have lt : c.toNat < n.length := by omega
  have := atI_nat (xs := n.map V.int) (j := c.toNat) (v := V.int n[c.toNat]) (by rw [List.getElem?_map, List.getElem?_eq_getElem lt]; rfl)
  rw [show ((c.toNat : Nat) : Int) = c by omega] at this
  rw [this]
  unfold atN
  rw [List.getD_eq_getElem?_getD, List.getElem?_eq_getElem lt]
  rfl
theorem ok_picked {f : Addr} {fd : FuncData} {k : Nat} (A : FnAt K mg "_picked_numbers" s_picked_numbers P_picked_numbers f fd) (B : B8 mg) : FnOk P w K mg base CX0 (k + 1) f fd P_picked_numbers spPicked := by
  refine A.F.ok sc_picked_numbers (fun vs H Q E h => ?_) (fun cdv A' outer s H vs Q E hr h => ?_)
  · obtain ⟨_, _, _, _, rfl, _⟩ := h
    rfl
  obtain ⟨a, b, n, cs, rfl, ha, hb, hl, hc, q⟩ := h
  refine ⟨_, (pss_one (ps_ret (pe_callTy call_tuple_of (by rfl) B.tuple (by decide +kernel) (pa_cons (pe_lc (own := [("column", 2)]) (g := gName 2) (tt := tYes) rfl sc_picked_numbers.nd (pi_tup (pv 1)) (blkOk_by (N := N_picked_numbers) (sc := defScope s_picked_numbers) (by decide +kernel)) (fun _ _ _ _ _ => pg_name (i := 2) sc_picked_numbers.nd rfl (.inl rfl)) (fun _ _ _ _ _ => pts_nil) (fun _ _ _ _ _ => (pe_ix (r := rIxT K) ix_tup (pv 0) (pv 2) (fun _ _ => rfl)))) pa_nil)))), ?_⟩
  refine ⟨_, rfl, b, rfl, ⟨_, st_of hb⟩, fun D hD => lc_tup (xs := cs.map V.int) (fun i H' => Ex H H' ∧ H' D = some (.lst (((cs.take i).map (atN n)).map V.int))) ⟨Ex.new hD, upd_same⟩ (fun i H' _ p => ex_t p.1 (st_of hb)) (fun i x H' hi ⟨p1, p2⟩ => ?_) (fun H' ⟨p1, p2⟩ => ?_)⟩
  · rw [List.getElem?_map] at hi
    cases e : cs[i]? with
    | none => rw [e] at hi; cases hi
    | some c =>
      rw [e] at hi
      cases hi
      have lt : i < cs.length := (List.getElem?_eq_some_iff.mp e).1
      obtain ⟨h0, h1⟩ := hc c (List.mem_of_getElem? e)
      refine ⟨rfl, ?_⟩
      refine ⟨_, rfl, _, rfl, a, _, c, _, rfl, rfl, ex_t p1 (st_of ha), at_n h0 h1, _, p2, sz_lt (by rw [List.length_map, List.length_map, List.length_take]; omega), Ex.mut p1 hD, ?_⟩
      rw [upd_same, List.take_add_one, e, List.map_append, List.map_append]
      rfl
  · refine ⟨D, ((cs.take cs.length).map (atN n)).map V.int, rfl, .inl ⟨sq_of (by rw [List.length_map] at p2; exact p2), fun l hl => ?_⟩⟩
    rw [List.take_length]
    exact q _ l (p1.trans (Ex.new hl)) upd_same
def colF (c : Int) (p : List Int × Int) : List Int × Int := (pickN p.1 [c], p.2)
def spColumns : Sp := fun vs H Q _ => ∃ (d b : Addr) (L : Rows) (c : Int), vs = [.ref d, .ref b] ∧ HeapAt H d L ∧ L.length ≤ 1000 ∧ H b = some (.tup [.int c]) ∧ 0 ≤ c ∧ (∀ p ∈ L, c < (p.1.length : Int)) ∧ ∀ H' d', Ex H H' → H d' = none → HeapAt H' d' (heapedL (L.map (colF c))) → Q (.ref d') H'
theorem pairsL_of {l : Addr} {ts : List Addr} {ps : Rows} (hl : H l = some (.lst (ts.map V.ref))) (h : Paired (KH.PairAt H) ts ps) : PairsL K H l ps := ⟨ts, sq_of hl, L2.Paired.mapP h fun _ _ ⟨q, a, b⟩ => ⟨q, st_of a, b⟩⟩
theorem ok_columns {f f1 f2 : Addr} {fd fd1 fd2 : FuncData} {k : Nat} (A : FnAt K mg "columns" scolumns Pcolumns f fd) (Aheaped : FnAt K mg "heaped" sheaped Pheaped f1 fd1) (Apicked : FnAt K mg "_picked_numbers" s_picked_numbers P_picked_numbers f2 fd2) (B : B8 mg) : FnOk P w K mg base CX0 (k + 2) f fd Pcolumns spColumns := by
  refine A.F.ok sccolumns (fun vs H Q E h => ?_) (fun cdv A' outer s H vs Q E hr h => ?_)
  · obtain ⟨_, _, _, _, rfl, _⟩ := h
    rfl
  obtain ⟨d, b, L, c, rfl, hd, ll, hb, h0, hc, q⟩ := h
  have hr1 : Room 1 _ := hr.mono (by omega)
  have Gheaped : FnOk P w K mg base CX0 1 f1 fd1 Pheaped (spHeaped K) := ok_heaped Aheaped
  have Gpicked : FnOk P w K mg base CX0 1 f2 fd2 P_picked_numbers spPicked := ok_picked Apicked B
  refine ⟨_, (pss_one (ps_ret (pe_call Gheaped hr1 (by rfl) Aheaped.g Aheaped.F.kp Aheaped.b .nil pass0 (pa_cons (pe_lock (pe_lc (own := [("row", 2), ("count", 3)]) (g := (gTup K 2 (gCons (gName 2) (gCons (gName 3) gNil)))) (tt := tYes) rfl sccolumns.nd (KD.pi_itemsT (pv 0)) (blkOk_by (N := Ncolumns) (sc := defScope scolumns) (by decide +kernel)) (fun _ _ _ _ _ => (pg_tup rfl (pgs_cons (pg_name (i := 2) sccolumns.nd rfl (.inl rfl)) (pgs_cons (pg_name (i := 3) sccolumns.nd rfl (.inl rfl)) pgs_nil)))) (fun _ _ _ _ _ => pts_nil) (fun _ _ _ _ _ => (pe_tup (pa_cons (pe_call Gpicked hr1 (by rfl) Apicked.g Apicked.F.kp Apicked.b .nil pass0 (pa_cons (pv 2) (pa_cons (pv 1) pa_nil))) (pa_cons (pv 3) pa_nil)))))) pa_nil)))), ?_⟩
  refine KH.ev_lc (colF c) rfl hd ll (by intro _ _; rfl) (fun p qa H1 Q1 hp hq tu h => ?_) _ fun l ts H2 hl e2 g1 g2 => ?_
  · refine ⟨_, rfl, _, rfl, qa, b, p.1, [c], rfl, hq, tu _ _ hb, (show 1 ≤ 1000 by omega), fun z hz => ?_, fun H3 t e3 h3 => ?_⟩
    · rw [List.mem_singleton.mp hz]
      exact ⟨h0, hc p hp⟩
    · refine ⟨_, rfl, by show 2 ≤ sizeLine; decide, fun l hl => ?_⟩
      have e4 := Ex.new (o := .tup [.ref t, .int p.2]) hl
      exact h l _ (e3.trans e4) ⟨t, upd_same, e4 _ _ h3⟩
  · exact ⟨l, L.map (colF c), rfl, pairsL_of g1 g2, by rw [List.length_map]; exact ll, fun H' d' e hd' h' => q H' d' (e2.trans e) (fresh_back e2 hd') h'⟩
end
end K08

namespace K08
open PySem PySem.Spec PyProof.Rows L2 Evl KB KH KS
theorem ite_y {c A B : Prop} [Decidable c] (h : c) (a : A) : if c then A else B := by rw [if_pos h]; exact a
theorem ite_n {c A B : Prop} [Decidable c] (h : ¬ c) (b : B) : if c then A else B := by rw [if_neg h]; exact b
section
variable {H : Hp}
theorem wo_le {ws : List Int} (hw : ∀ c ∈ ws, 1 ≤ c ∧ c ≤ 6) : ∀ (v : View) (n : Int), widthOf ws v = some n → n ≤ 40 := by
  intro v
  induction v with
  | table t =>
    intro n h
    unfold widthOf at h
    split at h
    · have := hw n (List.mem_of_getElem? h); omega
    · cases h
  | within v c lo hi ih =>
    intro n h
    obtain ⟨a, ha, h⟩ := Option.bind_eq_some_iff.mp h
    split at h
    · cases h; exact ih _ ha
    · cases h
  | columns v cs ih =>
    intro n h
    obtain ⟨a, ha, h⟩ := Option.bind_eq_some_iff.mp h
    split at h
    · unfold cap at h
      split at h
      · cases h; assumption
      · cases h
    · cases h
  | both v w ih1 ih2 =>
    intro n h
    obtain ⟨a, ha, h⟩ := Option.bind_eq_some_iff.mp h
    obtain ⟨b, hb, h⟩ := Option.bind_eq_some_iff.mp h
    split at h
    · cases h; exact ih1 _ ha
    · cases h
  | less v w ih1 ih2 =>
    intro n h
    obtain ⟨a, ha, h⟩ := Option.bind_eq_some_iff.mp h
    obtain ⟨b, hb, h⟩ := Option.bind_eq_some_iff.mp h
    split at h
    · cases h; exact ih1 _ ha
    · cases h
  | meet v w ps ih1 ih2 =>
    intro n h
    obtain ⟨a, ha, h⟩ := Option.bind_eq_some_iff.mp h
    obtain ⟨b, hb, h⟩ := Option.bind_eq_some_iff.mp h
    split at h
    · unfold cap at h
      split at h
      · cases h; assumption
      · cases h
    · cases h
  | once v ih => exact ih
  | sums v ks c ih =>
    intro n h
    obtain ⟨a, ha, h⟩ := Option.bind_eq_some_iff.mp h
    split at h
    · unfold cap at h
      split at h
      · cases h; assumption
      · cases h
    · cases h
  | reach v ih =>
    intro n h
    obtain ⟨a, ha, h⟩ := Option.bind_eq_some_iff.mp h
    split at h
    · cases h; omega
    · cases h
  | odd x v w ih1 ih2 =>
    intro n h
    cases h
theorem pairs_len {H : Hp} {rs : List Addr} {ps : List (Int × Int)} (h : Paired (fun (r : Addr) (p : Int × Int) => H r = some (.tup [.int p.1, .int p.2])) rs ps) : rs.length = ps.length := by
  induction h with
  | nil => rfl
  | cons _ _ ih => rw [List.length_cons, List.length_cons, ih]
theorem pairs_at {H : Hp} {rs : List Addr} {ps : List (Int × Int)} (h : Paired (fun (r : Addr) (p : Int × Int) => H r = some (.tup [.int p.1, .int p.2])) rs ps) : ∀ (i : Nat) (x : V), (rs.map V.ref)[i]? = some x → ∃ r p, x = .ref r ∧ ps[i]? = some p ∧ H r = some (.tup [.int p.1, .int p.2]) := by
  induction h with
  | nil => intro i x hx; cases hx
  | @cons r p rs ps hr _ ih =>
    intro i x hx
    cases i with
    | zero => cases hx; exact ⟨r, p, rfl, rfl, hr⟩
    | succ i => exact ih i x hx
end
section
variable {P : Program} {w : World} {K : PySem.W.Frag} {mg : Str → Option Value} {base : Heap} {σ : L2.St} {H H' : Hp} {t1 t2 t3 : TE} {tA : TA} {i j : Nat} {v : V} {d : Nat} {Z : V → Hp → Prop} {C P0 : Addr} {tk : Tok}
/-- BadView as it is raised; two names of the top -/
structure Rs (K : PySem.W.Frag) (mg : Str → Option Value) (C : Addr) (tk : Tok) : Prop where
  g : mg "BadView" = some (.ref C)
  x : PySem.W.excIn K C [.type "ValueError", .type "Exception", .type "BaseException", .type "object"] "ValueError.__new__" = true
  k : PySem.W.keepIn K (.ref C) = true
  b : PySem.W.subIn K (.ref C) (.type "BaseException") = some true
  t : PySem.W.typeIn K (.ref C) = some (.type "type")
  any : mg "any" = none
  wide : mg "WIDEST" = some (.int 40 tk)
/-- a width, or the refusal -/
abbrev Out (C : Addr) (r : Option Int) (H : Hp) (Q : VK) (E : XK) : Prop := (∀ m, r = some m → ∀ H', XT H H' → Q (.int m) H') ∧ (r = none → ∀ H', XT H H' → E (.ref C) none H')
theorem Out.yes {r : Option Int} {Q : VK} {E : XK} {m : Int} (h : Out C r H Q E) (e : XT H H') (hr : r = some m) : Q (.int m) H' := h.1 m hr H' e
theorem Out.no {r : Option Int} {Q : VK} {E : XK} (h : Out C r H Q E) (e : XT H H') (hr : r = none) : E (.ref C) none H' := h.2 hr H' e
/-! ### columns that are there -/
theorem out_in (m c : Int) : KG.out m c = !inW m c := by
  unfold KG.out inW
  by_cases h1 : c < 0 <;> by_cases h2 : m ≤ c <;> simp [h1, h2] <;> omega
theorem any_out (m : Int) : ∀ cs : List Int, cs.any (KG.out m) = !(cs.all (inW m))
  | [] => rfl
  | c :: r => by
    rw [List.any_cons, List.all_cons, any_out m r, out_in]
    cases inW m c <;> cases r.all (inW m) <;> rfl
def spCheck (K : PySem.W.Frag) (C P0 : Addr) : Sp := fun vs H Q E => ∃ (p : Addr) (cs : List Int) (m : Int), vs = [.ref p, .int m] ∧ (SqL K H p (cs.map V.int) ∨ SqT K H p (cs.map V.int)) ∧ GxR.TabG H P0 ∧ (cs.all (inW m) = true → ∀ H', XT H H' → Q .non H') ∧ (cs.all (inW m) = false → ∀ H', XT H H' → E (.ref C) none H')
theorem ok_check {f c : Addr} {oc kV doc pm ct : Value} {od an : Option Addr} {osl : Array (Option Value)} {k : Nat} (lk : K.lookup f = some ⟨oc, od, .func (PySem.W.fnOf "_check_columns" "_check_columns" (defArgs s_check_columns) (defBody s_check_columns) (defScope s_check_columns) .none kV doc pm an (.ref c) ct), osl⟩)
    (hcd : PySem.W.codeIn K (.ref c) "_check_columns" = true) (TB : GxR.TabB base mg c P0) (R : Rs K mg C tk) :
    FnOk P w K mg base (L2N.CX P w) (k + 1) f (PySem.W.fnOf "_check_columns" "_check_columns" (defArgs s_check_columns) (defBody s_check_columns) (defScope s_check_columns) .none kV doc pm an (.ref c) ct) P_check_columns (spCheck K C P0) := by
  refine okNC lk hcd sc_check_columns (fun vs H Q E h => ?_) (fun A' outer s H vs Q E hr1 h => ?_)
  · obtain ⟨p, cs, m, rfl, _⟩ := h
    rfl
  obtain ⟨p, cs, m, rfl, hS, hT, q1, q2⟩ := h
  have GS : GxR.GenS (envOfC "_check_columns" (defScope s_check_columns) s.heap.objs.size f (.ref c)) ⟨.function, [(".0", .local), ("column", .local), ("width", .free)], true, false, []⟩ "column" := ⟨rfl, rfl, by decide, rfl, rfl, fun y hy hf => by
    simp only [List.mem_cons, List.not_mem_nil, or_false] at hy
    rcases hy with rfl | rfl | rfl
    · cases hf
    · cases hf
    · exact ⟨_, rfl⟩⟩
  have HYC : ∀ d, (envOfC "_check_columns" (defScope s_check_columns) s.heap.objs.size f (.ref c)).cells.lookup ("width" : Str) = some d → (cloFrom (envOfC "_check_columns" (defScope s_check_columns) s.heap.objs.size f (.ref c)).cells [(".0", NameKind.local), ("column", .local), ("width", .free)] []).lookup ("width" : Str) = some d := fun d h => by
    cases h
    rfl
  refine ⟨_, (pss_one (ps_if (pt_val (KG.pe_anyI (iy := 1) hr1 rfl R.any TB rfl GS (pv 0) rfl rfl HYC (KG.elt_out rfl rfl rfl) (fun _ => rfl))) (pss_one (L2N.ps_raise rfl (L2N.takes_of rfl rfl rfl rfl) (L2N.pmk_own PySem.F.excBase_ValueError R.x R.g R.k (raises_own R.b R.t) rfl))) pss_nil)), ?_⟩
  refine ⟨.ref p, rfl, p, cs, m, rfl, hS, rfl, hT, fun Hb hb => ⟨_, rfl, ?_⟩⟩
  have e := XT.of_tab hT hb
  rw [any_out]
  cases ha : cs.all (inW m) with
  | true => exact q1 ha Hb e
  | false => exact q2 ha Hb e
/-! ### a table's width -/
def tabW (ws : List Int) (t : Int) : Option Int := if 0 ≤ t ∧ t < ws.length then ws[t.toNat]? else none
def spTab (C : Addr) : Sp := fun vs H Q E => ∃ (t : Int) (wl : Addr) (ws : List Int), vs = [.int t, .ref wl] ∧ H wl = some (.lst (ws.map V.int)) ∧ Out C (tabW ws t) H Q E
theorem ok_tab {f : Addr} {fd : FuncData} {k : Nat} (A : FnAt K mg "_table_width" s_table_width P_table_width f fd) (B : Bt mg) (R : Rs K mg C tk) : FnOk P w K mg base (L2N.CX P w) (k + 1) f fd P_table_width (spTab C) := by
  refine okXN A.F sc_table_width (fun vs H Q E h => ?_) (fun cdv A' outer s H vs Q E hr h => ?_)
  · obtain ⟨_, _, _, rfl, _⟩ := h
    rfl
  obtain ⟨t, wl, ws, rfl, hwl, q⟩ := h
  have none' : ¬ (0 ≤ t ∧ t < ws.length) → tabW ws t = none := fun h => if_neg h
  refine ⟨_, (pss_cons (ps_if (PW.pt (pw_or (pt_cmpR op_lt (pv 0) pe_int (nomark _)) (pw_or1 (pt_cmpR op_ge (pv 0) (pe_callB call_len_seq (by rfl) B.len (by decide +kernel) (pa_cons (pv 1) pa_nil)) (nomark _))))) (pss_one (L2N.ps_raise rfl (L2N.takes_of rfl rfl rfl rfl) (L2N.pmk_own PySem.F.excBase_ValueError R.x R.g R.k (raises_own R.b R.t) rfl))) pss_nil)
  (pss_one (ps_ret (pe_ix (r := rIxL K) ix_list (pv 1) (pv 0) (fun _ _ => rfl))))), ?_⟩
  (repeat (first | (refine ⟨_, _, _, _, rfl, rfl, st_of hp, rfl, ?_⟩) | (refine ⟨_, rfl, ?_⟩) | (refine ⟨_, _, rfl, rfl, ?_⟩) | (refine ⟨⟨by decide, by decide⟩, ?_⟩) | (refine ⟨(by show (0 : Int) < _; decide), ?_⟩) | (refine ⟨rfl, ?_⟩) | (refine ⟨(by show _ ≠ (0 : Int); omega), ?_⟩) | (refine ⟨.inl ⟨by decide, by decide⟩, ?_⟩) | (refine ⟨(by assumption : CDivN _ _), ?_⟩) | (refine ite_y (by decide) ?_) | (refine ite_n (by decide) ?_) | (refine ite_y rfl ?_) | (refine ite_n Bool.false_ne_true ?_)))
  refine ite2 (fun hd => ?_) (fun hd0 => ?_)
  · have : t < 0 := of_decide_eq_true hd
    refine ite_y rfl ?_
    exact Out.no q (XT.refl H) (none' fun z => by omega)
  · (repeat (first | (refine ⟨_, _, _, _, rfl, rfl, st_of hp, rfl, ?_⟩) | (refine ⟨_, rfl, ?_⟩) | (refine ⟨_, _, rfl, rfl, ?_⟩) | (refine ⟨⟨by decide, by decide⟩, ?_⟩) | (refine ⟨(by show (0 : Int) < _; decide), ?_⟩) | (refine ⟨rfl, ?_⟩) | (refine ⟨(by show _ ≠ (0 : Int); omega), ?_⟩) | (refine ⟨.inl ⟨by decide, by decide⟩, ?_⟩) | (refine ⟨(by assumption : CDivN _ _), ?_⟩) | (refine ite_y (by decide) ?_) | (refine ite_n (by decide) ?_) | (refine ite_y rfl ?_) | (refine ite_n Bool.false_ne_true ?_)))
    refine ⟨wl, ws.map V.int, rfl, .inl (sq_of hwl), ?_⟩
    rw [List.length_map]
    (repeat (first | (refine ⟨_, _, _, _, rfl, rfl, st_of hp, rfl, ?_⟩) | (refine ⟨_, rfl, ?_⟩) | (refine ⟨_, _, rfl, rfl, ?_⟩) | (refine ⟨⟨by decide, by decide⟩, ?_⟩) | (refine ⟨(by show (0 : Int) < _; decide), ?_⟩) | (refine ⟨rfl, ?_⟩) | (refine ⟨(by show _ ≠ (0 : Int); omega), ?_⟩) | (refine ⟨.inl ⟨by decide, by decide⟩, ?_⟩) | (refine ⟨(by assumption : CDivN _ _), ?_⟩) | (refine ite_y (by decide) ?_) | (refine ite_n (by decide) ?_) | (refine ite_y rfl ?_) | (refine ite_n Bool.false_ne_true ?_)))
    refine ite2 (fun hd => ?_) (fun hd1 => ?_)
    · have : (ws.length : Int) ≤ t := of_decide_eq_true hd
      exact Out.no q (XT.refl H) (none' fun z => by omega)
    · have h0 : 0 ≤ t := by have : ¬ t < 0 := fun z => hd0 (decide_eq_true z); omega
      have h1 : t < ws.length := by have : ¬ (ws.length : Int) ≤ t := fun z => hd1 (decide_eq_true z); omega
      have hlt : t.toNat < ws.length := by omega
      (repeat (first | (refine ⟨_, _, _, _, rfl, rfl, st_of hp, rfl, ?_⟩) | (refine ⟨_, rfl, ?_⟩) | (refine ⟨_, _, rfl, rfl, ?_⟩) | (refine ⟨⟨by decide, by decide⟩, ?_⟩) | (refine ⟨(by show (0 : Int) < _; decide), ?_⟩) | (refine ⟨rfl, ?_⟩) | (refine ⟨(by show _ ≠ (0 : Int); omega), ?_⟩) | (refine ⟨.inl ⟨by decide, by decide⟩, ?_⟩) | (refine ⟨(by assumption : CDivN _ _), ?_⟩) | (refine ite_y (by decide) ?_) | (refine ite_n (by decide) ?_) | (refine ite_y rfl ?_) | (refine ite_n Bool.false_ne_true ?_)))
      have hat := atI_nat (xs := ws.map V.int) (j := t.toNat) (v := V.int ws[t.toNat]) (by rw [List.getElem?_map, List.getElem?_eq_getElem hlt]; rfl)
      rw [show ((t.toNat : Nat) : Int) = t by omega] at hat
      exact ⟨wl, ws.map V.int, t, _, rfl, rfl, sq_of hwl, hat, Out.yes q (XT.refl H) (by unfold tabW; rw [if_pos ⟨h0, h1⟩, List.getElem?_eq_getElem hlt])⟩
/-! ### the width, all columns being there -/
def spWof (C P0 : Addr) (N : Nat) : Sp := fun vs H Q E => ∃ (x : V) (wl : Addr) (v : View) (ws : List Int), vs = [x, .ref wl] ∧ VOk N v ∧ VAt H v x ∧ H wl = some (.lst (ws.map V.int)) ∧ (∀ c ∈ ws, 1 ≤ c ∧ c ≤ 6) ∧ GxR.TabG H P0 ∧ Out C (widthOf ws v) H Q E
def withW (ws : List Int) (v : View) (cs : List Int) : Option Int := (widthOf ws v).bind fun m => if cs.all (inW m) = true then some m else none
def spWith (K : PySem.W.Frag) (C P0 : Addr) (N : Nat) : Sp := fun vs H Q E => ∃ (x : V) (p wl : Addr) (v : View) (cs ws : List Int), vs = [x, .ref p, .ref wl] ∧ VOk N v ∧ VAt H v x ∧ (SqL K H p (cs.map V.int) ∨ SqT K H p (cs.map V.int)) ∧ H wl = some (.lst (ws.map V.int)) ∧ (∀ c ∈ ws, 1 ≤ c ∧ c ≤ 6) ∧ GxR.TabG H P0 ∧ Out C (withW ws v cs) H Q E
theorem ok_with {f f1 f2 : Addr} {fd fd1 fd2 : FuncData} {M N : Nat} (A : FnAt K mg "_width_with" s_width_with P_width_with f fd) (Awof : FnAt K mg "width_of" swidth_of Pwidth_of f1 fd1) (Acheck : FnAt K mg "_check_columns" s_check_columns P_check_columns f2 fd2) (hM : 1 ≤ M)
    (Gwof : FnOk P w K mg base (L2N.CX P w) M f1 fd1 Pwidth_of (spWof C P0 N)) (Gcheck : FnOk P w K mg base (L2N.CX P w) 1 f2 fd2 P_check_columns (spCheck K C P0)) (R : Rs K mg C tk) :
    FnOk P w K mg base (L2N.CX P w) (M + 1) f fd P_width_with (spWith K C P0 N) := by
  refine okXN A.F sc_width_with (fun vs H Q E h => ?_) (fun cdv A' outer s H vs Q E hrF h => ?_)
  · obtain ⟨_, _, _, _, _, _, rfl, _⟩ := h
    rfl
  obtain ⟨x, p, wl, v, cs, ws, rfl, hok, hv, hp, hwl, hws, hT, q⟩ := h
  have hr1 : Room 1 _ := hrF.mono hM
  refine ⟨_, (pss_cons (ps_set (i := 3) sc_width_with.nd rfl (.inl rfl) (pe_callS Gwof hrF rfl Awof.g Awof.F.kp Awof.b (fun σ => L2N.passAt (L2N.takes_of rfl rfl rfl rfl) σ) (pa_cons (pv 0) (pa_cons (pv 2) pa_nil))))
  (pss_cons (ps_expr (pe_callS Gcheck hr1 rfl Acheck.g Acheck.F.kp Acheck.b (fun σ => L2N.passAt (L2N.takes_of rfl rfl rfl rfl) σ) (pa_cons (pv 1) (pa_cons (pv 3) pa_nil))))
  (pss_one (ps_ret (pv 3))))), ?_⟩
  (repeat (first | (refine ⟨_, _, _, _, rfl, rfl, st_of hp, rfl, ?_⟩) | (refine ⟨_, rfl, ?_⟩) | (refine ⟨_, _, rfl, rfl, ?_⟩) | (refine ⟨⟨by decide, by decide⟩, ?_⟩) | (refine ⟨(by show (0 : Int) < _; decide), ?_⟩) | (refine ⟨rfl, ?_⟩) | (refine ⟨(by show _ ≠ (0 : Int); omega), ?_⟩) | (refine ⟨.inl ⟨by decide, by decide⟩, ?_⟩) | (refine ⟨(by assumption : CDivN _ _), ?_⟩) | (refine ite_y (by decide) ?_) | (refine ite_n (by decide) ?_) | (refine ite_y rfl ?_) | (refine ite_n Bool.false_ne_true ?_)))
  refine ⟨x, wl, v, ws, rfl, hok, hv, hwl, hws, hT, fun m hm H1 e1 => ?_, fun hn H1 e1 => Out.no q e1 (by unfold withW; rw [hn]; rfl)⟩
  (repeat (first | (refine ⟨_, _, _, _, rfl, rfl, st_of hp, rfl, ?_⟩) | (refine ⟨_, rfl, ?_⟩) | (refine ⟨_, _, rfl, rfl, ?_⟩) | (refine ⟨⟨by decide, by decide⟩, ?_⟩) | (refine ⟨(by show (0 : Int) < _; decide), ?_⟩) | (refine ⟨rfl, ?_⟩) | (refine ⟨(by show _ ≠ (0 : Int); omega), ?_⟩) | (refine ⟨.inl ⟨by decide, by decide⟩, ?_⟩) | (refine ⟨(by assumption : CDivN _ _), ?_⟩) | (refine ite_y (by decide) ?_) | (refine ite_n (by decide) ?_) | (refine ite_y rfl ?_) | (refine ite_n Bool.false_ne_true ?_)))
  refine ⟨p, cs, m, rfl, e1.sq hp, e1.tab _ hT, fun ha H2 e2 => ?_, fun ha H2 e2 => Out.no q (e1.trans e2) (by unfold withW; rw [hm]; exact if_neg (by rw [ha]; exact Bool.false_ne_true))⟩
  exact ⟨_, rfl, Out.yes q (e1.trans e2) (by unfold withW; rw [hm]; exact if_pos ha)⟩
/-! ### columns -/
def colW (ws : List Int) (v : View) (cs : List Int) : Option Int := (withW ws v cs).bind fun _ => if cs = [] then none else some cs.length
def spColw (C P0 : Addr) (N : Nat) : Sp := fun vs H Q E => ∃ (x : V) (p wl : Addr) (v : View) (cs ws : List Int), vs = [x, .ref p, .ref wl] ∧ VOk N v ∧ VAt H v x ∧ H p = some (.tup (cs.map V.int)) ∧ H wl = some (.lst (ws.map V.int)) ∧ (∀ c ∈ ws, 1 ≤ c ∧ c ≤ 6) ∧ GxR.TabG H P0 ∧ Out C (colW ws v cs) H Q E
theorem ok_colw {f f1 : Addr} {fd fd1 : FuncData} {M N : Nat} (A : FnAt K mg "_columns_width" s_columns_width P_columns_width f fd) (Awith : FnAt K mg "_width_with" s_width_with P_width_with f1 fd1) (B : Bt mg)
    (Gwith : FnOk P w K mg base (L2N.CX P w) M f1 fd1 P_width_with (spWith K C P0 N)) (R : Rs K mg C tk) : FnOk P w K mg base (L2N.CX P w) (M + 1) f fd P_columns_width (spColw C P0 N) := by
  refine okXN A.F sc_columns_width (fun vs H Q E h => ?_) (fun cdv A' outer s H vs Q E hrW h => ?_)
  · obtain ⟨_, _, _, _, _, _, rfl, _⟩ := h
    rfl
  obtain ⟨x, p, wl, v, cs, ws, rfl, hok, hv, hp, hwl, hws, hT, q⟩ := h
  refine ⟨_, (pss_cons (ps_expr (pe_callS Gwith hrW rfl Awith.g Awith.F.kp Awith.b (fun σ => L2N.passAt (L2N.takes_of rfl rfl rfl rfl) σ) (pa_cons (pv 0) (pa_cons (pv 1) (pa_cons (pv 2) pa_nil)))))
  (pss_cons (ps_if (pt_cmpR op_eq (pe_callB call_len_seq (by rfl) B.len (by decide +kernel) (pa_cons (pv 1) pa_nil)) pe_int (nomark _)) (pss_one (L2N.ps_raise rfl (L2N.takes_of rfl rfl rfl rfl) (L2N.pmk_own PySem.F.excBase_ValueError R.x R.g R.k (raises_own R.b R.t) rfl))) pss_nil)
  (pss_one (ps_ret (pe_callB call_len_seq (by rfl) B.len (by decide +kernel) (pa_cons (pv 1) pa_nil)))))), ?_⟩
  (repeat (first | (refine ⟨_, _, _, _, rfl, rfl, st_of hp, rfl, ?_⟩) | (refine ⟨_, rfl, ?_⟩) | (refine ⟨_, _, rfl, rfl, ?_⟩) | (refine ⟨⟨by decide, by decide⟩, ?_⟩) | (refine ⟨(by show (0 : Int) < _; decide), ?_⟩) | (refine ⟨rfl, ?_⟩) | (refine ⟨(by show _ ≠ (0 : Int); omega), ?_⟩) | (refine ⟨.inl ⟨by decide, by decide⟩, ?_⟩) | (refine ⟨(by assumption : CDivN _ _), ?_⟩) | (refine ite_y (by decide) ?_) | (refine ite_n (by decide) ?_) | (refine ite_y rfl ?_) | (refine ite_n Bool.false_ne_true ?_)))
  refine ⟨x, p, wl, v, cs, ws, rfl, hok, hv, .inr (st_of hp), hwl, hws, hT, fun m hm H1 e1 => ?_, fun hn H1 e1 => Out.no q e1 (by unfold colW; rw [hn]; rfl)⟩
  (repeat (first | (refine ⟨_, _, _, _, rfl, rfl, st_of hp, rfl, ?_⟩) | (refine ⟨_, rfl, ?_⟩) | (refine ⟨_, _, rfl, rfl, ?_⟩) | (refine ⟨⟨by decide, by decide⟩, ?_⟩) | (refine ⟨(by show (0 : Int) < _; decide), ?_⟩) | (refine ⟨rfl, ?_⟩) | (refine ⟨(by show _ ≠ (0 : Int); omega), ?_⟩) | (refine ⟨.inl ⟨by decide, by decide⟩, ?_⟩) | (refine ⟨(by assumption : CDivN _ _), ?_⟩) | (refine ite_y (by decide) ?_) | (refine ite_n (by decide) ?_) | (refine ite_y rfl ?_) | (refine ite_n Bool.false_ne_true ?_)))
  refine ⟨p, cs.map V.int, rfl, .inr (st_of (e1.tup hp)), ?_⟩
  rw [List.length_map]
  (repeat (first | (refine ⟨_, _, _, _, rfl, rfl, st_of hp, rfl, ?_⟩) | (refine ⟨_, rfl, ?_⟩) | (refine ⟨_, _, rfl, rfl, ?_⟩) | (refine ⟨⟨by decide, by decide⟩, ?_⟩) | (refine ⟨(by show (0 : Int) < _; decide), ?_⟩) | (refine ⟨rfl, ?_⟩) | (refine ⟨(by show _ ≠ (0 : Int); omega), ?_⟩) | (refine ⟨.inl ⟨by decide, by decide⟩, ?_⟩) | (refine ⟨(by assumption : CDivN _ _), ?_⟩) | (refine ite_y (by decide) ?_) | (refine ite_n (by decide) ?_) | (refine ite_y rfl ?_) | (refine ite_n Bool.false_ne_true ?_)))
  refine ite2 (fun hd => ?_) (fun hd => ?_)
  · have hne : cs = [] := List.eq_nil_of_length_eq_zero (by have := V.int.inj (of_decide_eq_true hd); omega)
    exact Out.no q e1 (by unfold colW; rw [hm]; exact if_pos hne)
  · have hne : ¬ cs = [] := fun z => hd (by rw [z]; rfl)
    (repeat (first | (refine ⟨_, _, _, _, rfl, rfl, st_of hp, rfl, ?_⟩) | (refine ⟨_, rfl, ?_⟩) | (refine ⟨_, _, rfl, rfl, ?_⟩) | (refine ⟨⟨by decide, by decide⟩, ?_⟩) | (refine ⟨(by show (0 : Int) < _; decide), ?_⟩) | (refine ⟨rfl, ?_⟩) | (refine ⟨(by show _ ≠ (0 : Int); omega), ?_⟩) | (refine ⟨.inl ⟨by decide, by decide⟩, ?_⟩) | (refine ⟨(by assumption : CDivN _ _), ?_⟩) | (refine ite_y (by decide) ?_) | (refine ite_n (by decide) ?_) | (refine ite_y rfl ?_) | (refine ite_n Bool.false_ne_true ?_)))
    refine ⟨p, cs.map V.int, rfl, .inr (st_of (e1.tup hp)), ?_⟩
    rw [List.length_map]
    exact Out.yes q e1 (by unfold colW; rw [hm]; exact if_neg hne)
/-! ### two widths -/
def spTwo2 (C P0 : Addr) (N : Nat) : Sp := fun vs H Q E => ∃ (x y : V) (wl : Addr) (v u : View) (ws : List Int), vs = [x, y, .ref wl] ∧ VOk N v ∧ VOk N u ∧ VAt H v x ∧ VAt H u y ∧ H wl = some (.lst (ws.map V.int)) ∧ (∀ c ∈ ws, 1 ≤ c ∧ c ≤ 6) ∧ GxR.TabG H P0 ∧
  (∀ a b, widthOf ws v = some a → widthOf ws u = some b → ∀ p H', XT H H' → H' p = some (.tup [.int a, .int b]) → Q (.ref p) H') ∧ ((widthOf ws v).bind (fun _ => widthOf ws u) = none → ∀ H', XT H H' → E (.ref C) none H')
theorem ok_two2 {f f1 : Addr} {fd fd1 : FuncData} {M N : Nat} (A : FnAt K mg "_two_widths" s_two_widths P_two_widths f fd) (Awof : FnAt K mg "width_of" swidth_of Pwidth_of f1 fd1) (hN : N ≤ 40)
    (Gwof : FnOk P w K mg base (L2N.CX P w) M f1 fd1 Pwidth_of (spWof C P0 N)) (R : Rs K mg C tk) : FnOk P w K mg base (L2N.CX P w) (M + 1) f fd P_two_widths (spTwo2 C P0 N) := by
  refine okXN A.F sc_two_widths (fun vs H Q E h => ?_) (fun cdv A' outer s H vs Q E hr h => ?_)
  · obtain ⟨_, _, _, _, _, _, rfl, _⟩ := h
    rfl
  obtain ⟨x, y, wl, v, u, ws, rfl, hok, hok2, hv, hu, hwl, hws, hT, q1, q2⟩ := h
  have hrF : Room M _ := hr
  refine ⟨_, (pss_cons (ps_set (i := 3) sc_two_widths.nd rfl (.inl rfl) (pe_callS Gwof hrF rfl Awof.g Awof.F.kp Awof.b (fun σ => L2N.passAt (L2N.takes_of rfl rfl rfl rfl) σ) (pa_cons (pv 0) (pa_cons (pv 2) pa_nil))))
  (pss_cons (ps_if (pt_cmpR (op_eqD hr.units) (pv 0) (pv 1) (nomark _)) (pss_one (ps_ret (pe_tup (pa_cons (pv 3) (pa_cons (pv 3) pa_nil))))) pss_nil)
  (pss_one (ps_ret (pe_tup (pa_cons (pv 3) (pa_cons (pe_callS Gwof hrF rfl Awof.g Awof.F.kp Awof.b (fun σ => L2N.passAt (L2N.takes_of rfl rfl rfl rfl) σ) (pa_cons (pv 1) (pa_cons (pv 2) pa_nil))) pa_nil))))))), ?_⟩
  (repeat (first | (refine ⟨_, _, _, _, rfl, rfl, st_of hp, rfl, ?_⟩) | (refine ⟨_, rfl, ?_⟩) | (refine ⟨_, _, rfl, rfl, ?_⟩) | (refine ⟨⟨by decide, by decide⟩, ?_⟩) | (refine ⟨(by show (0 : Int) < _; decide), ?_⟩) | (refine ⟨rfl, ?_⟩) | (refine ⟨(by show _ ≠ (0 : Int); omega), ?_⟩) | (refine ⟨.inl ⟨by decide, by decide⟩, ?_⟩) | (refine ⟨(by assumption : CDivN _ _), ?_⟩) | (refine ite_y (by decide) ?_) | (refine ite_n (by decide) ?_) | (refine ite_y rfl ?_) | (refine ite_n Bool.false_ne_true ?_)))
  refine ⟨x, wl, v, ws, rfl, hok, hv, hwl, hws, hT, fun a ha H1 e1 => ?_, fun hn H1 e1 => q2 (by rw [hn]; rfl) H1 e1⟩
  (repeat (first | (refine ⟨_, _, _, _, rfl, rfl, st_of hp, rfl, ?_⟩) | (refine ⟨_, rfl, ?_⟩) | (refine ⟨_, _, rfl, rfl, ?_⟩) | (refine ⟨⟨by decide, by decide⟩, ?_⟩) | (refine ⟨(by show (0 : Int) < _; decide), ?_⟩) | (refine ⟨rfl, ?_⟩) | (refine ⟨(by show _ ≠ (0 : Int); omega), ?_⟩) | (refine ⟨.inl ⟨by decide, by decide⟩, ?_⟩) | (refine ⟨(by assumption : CDivN _ _), ?_⟩) | (refine ite_y (by decide) ?_) | (refine ite_n (by decide) ?_) | (refine ite_y rfl ?_) | (refine ite_n Bool.false_ne_true ?_)))
  refine ⟨dataV v, dataV u, dp_view v x (e1.view v x hv), dp_view u y (e1.view u y hu), shaped_view hok hN (fine_of v x hv), shaped_view hok2 hN (fine_of u y hu), ?_⟩
  (repeat (first | (refine ⟨_, _, _, _, rfl, rfl, st_of hp, rfl, ?_⟩) | (refine ⟨_, rfl, ?_⟩) | (refine ⟨_, _, rfl, rfl, ?_⟩) | (refine ⟨⟨by decide, by decide⟩, ?_⟩) | (refine ⟨(by show (0 : Int) < _; decide), ?_⟩) | (refine ⟨rfl, ?_⟩) | (refine ⟨(by show _ ≠ (0 : Int); omega), ?_⟩) | (refine ⟨.inl ⟨by decide, by decide⟩, ?_⟩) | (refine ⟨(by assumption : CDivN _ _), ?_⟩) | (refine ite_y (by decide) ?_) | (refine ite_n (by decide) ?_) | (refine ite_y rfl ?_) | (refine ite_n Bool.false_ne_true ?_)))
  refine ite2 (fun hd => ?_) (fun hd => ?_)
  · have hs := same_width ws v u (fine_of v x hv) (fine_of u y hu) hd
    (repeat (first | (refine ⟨_, _, _, _, rfl, rfl, st_of hp, rfl, ?_⟩) | (refine ⟨_, rfl, ?_⟩) | (refine ⟨_, _, rfl, rfl, ?_⟩) | (refine ⟨⟨by decide, by decide⟩, ?_⟩) | (refine ⟨(by show (0 : Int) < _; decide), ?_⟩) | (refine ⟨rfl, ?_⟩) | (refine ⟨(by show _ ≠ (0 : Int); omega), ?_⟩) | (refine ⟨.inl ⟨by decide, by decide⟩, ?_⟩) | (refine ⟨(by assumption : CDivN _ _), ?_⟩) | (refine ite_y (by decide) ?_) | (refine ite_n (by decide) ?_) | (refine ite_y rfl ?_) | (refine ite_n Bool.false_ne_true ?_)))
    refine ⟨by show 2 ≤ sizeLine; decide, fun l hl => ?_⟩
    exact q1 a a ha (hs ▸ ha) l _ (e1.trans (XT.of_ex (Ex.new hl))) upd_same
  · (repeat (first | (refine ⟨_, _, _, _, rfl, rfl, st_of hp, rfl, ?_⟩) | (refine ⟨_, rfl, ?_⟩) | (refine ⟨_, _, rfl, rfl, ?_⟩) | (refine ⟨⟨by decide, by decide⟩, ?_⟩) | (refine ⟨(by show (0 : Int) < _; decide), ?_⟩) | (refine ⟨rfl, ?_⟩) | (refine ⟨(by show _ ≠ (0 : Int); omega), ?_⟩) | (refine ⟨.inl ⟨by decide, by decide⟩, ?_⟩) | (refine ⟨(by assumption : CDivN _ _), ?_⟩) | (refine ite_y (by decide) ?_) | (refine ite_n (by decide) ?_) | (refine ite_y rfl ?_) | (refine ite_n Bool.false_ne_true ?_)))
    refine ⟨y, wl, u, ws, rfl, hok2, e1.view u y hu, e1.lst hwl, hws, e1.tab _ hT, fun b hb H2 e2 => ?_, fun hn H2 e2 => q2 (by rw [ha]; exact hn) H2 (e1.trans e2)⟩
    refine ⟨by show 2 ≤ sizeLine; decide, fun l hl => ?_⟩
    exact q1 a b ha hb l _ ((e1.trans e2).trans (XT.of_ex (Ex.new hl))) upd_same
def likeW (ws : List Int) (v u : View) : Option Int := (widthOf ws v).bind fun a => (widthOf ws u).bind fun b => if a = b then some a else none
def spLike (C P0 : Addr) (N : Nat) : Sp := fun vs H Q E => ∃ (x y : V) (wl : Addr) (v u : View) (ws : List Int), vs = [x, y, .ref wl] ∧ VOk N v ∧ VOk N u ∧ VAt H v x ∧ VAt H u y ∧ H wl = some (.lst (ws.map V.int)) ∧ (∀ c ∈ ws, 1 ≤ c ∧ c ≤ 6) ∧ GxR.TabG H P0 ∧ Out C (likeW ws v u) H Q E
theorem two_none {ws : List Int} {v u : View} {f : Int → Int → Option Int} (h : (widthOf ws v).bind (fun _ => widthOf ws u) = none) : ((widthOf ws v).bind fun a => (widthOf ws u).bind fun b => f a b) = none := by
  cases e : widthOf ws v with
  | none => rfl
  | some a =>
    rw [e] at h
    have h2 : widthOf ws u = none := h
    show (widthOf ws u).bind _ = none
    rw [h2]
    rfl
theorem ok_like {f f1 : Addr} {fd fd1 : FuncData} {M N : Nat} (A : FnAt K mg "_like_width" s_like_width P_like_width f fd) (Atwo2 : FnAt K mg "_two_widths" s_two_widths P_two_widths f1 fd1)
    (Gtwo2 : FnOk P w K mg base (L2N.CX P w) M f1 fd1 P_two_widths (spTwo2 C P0 N)) (R : Rs K mg C tk) : FnOk P w K mg base (L2N.CX P w) (M + 1) f fd P_like_width (spLike C P0 N) := by
  refine okXN A.F sc_like_width (fun vs H Q E h => ?_) (fun cdv A' outer s H vs Q E hrW h => ?_)
  · obtain ⟨_, _, _, _, _, _, rfl, _⟩ := h
    rfl
  obtain ⟨x, y, wl, v, u, ws, rfl, hok, hok2, hv, hu, hwl, hws, hT, q⟩ := h
  refine ⟨_, (pss_cons (ps_asg (pe_callS Gtwo2 hrW rfl Atwo2.g Atwo2.F.kp Atwo2.b (fun σ => L2N.passAt (L2N.takes_of rfl rfl rfl rfl) σ) (pa_cons (pv 0) (pa_cons (pv 1) (pa_cons (pv 2) pa_nil)))) (pg_tup rfl (pgs_cons (pg_name (i := 3) sc_like_width.nd rfl (.inl rfl)) (pgs_cons (pg_name (i := 4) sc_like_width.nd rfl (.inl rfl)) pgs_nil))))
  (pss_cons (ps_if (pt_cmpR op_ne (pv 3) (pv 4) (nomark _)) (pss_one (L2N.ps_raise rfl (L2N.takes_of rfl rfl rfl rfl) (L2N.pmk_own PySem.F.excBase_ValueError R.x R.g R.k (raises_own R.b R.t) rfl))) pss_nil)
  (pss_one (ps_ret (pv 3))))), ?_⟩
  (repeat (first | (refine ⟨_, _, _, _, rfl, rfl, st_of hp, rfl, ?_⟩) | (refine ⟨_, rfl, ?_⟩) | (refine ⟨_, _, rfl, rfl, ?_⟩) | (refine ⟨⟨by decide, by decide⟩, ?_⟩) | (refine ⟨(by show (0 : Int) < _; decide), ?_⟩) | (refine ⟨rfl, ?_⟩) | (refine ⟨(by show _ ≠ (0 : Int); omega), ?_⟩) | (refine ⟨.inl ⟨by decide, by decide⟩, ?_⟩) | (refine ⟨(by assumption : CDivN _ _), ?_⟩) | (refine ite_y (by decide) ?_) | (refine ite_n (by decide) ?_) | (refine ite_y rfl ?_) | (refine ite_n Bool.false_ne_true ?_)))
  refine ⟨x, y, wl, v, u, ws, rfl, hok, hok2, hv, hu, hwl, hws, hT, fun a b ha hb p H1 e1 hp => ?_, fun hn H1 e1 => Out.no q e1 (two_none hn)⟩
  refine ⟨p, _, rfl, st_of hp, rfl, _, _, rfl, _, _, rfl, rfl, ?_⟩
  (repeat (first | (refine ⟨_, _, _, _, rfl, rfl, st_of hp, rfl, ?_⟩) | (refine ⟨_, rfl, ?_⟩) | (refine ⟨_, _, rfl, rfl, ?_⟩) | (refine ⟨⟨by decide, by decide⟩, ?_⟩) | (refine ⟨(by show (0 : Int) < _; decide), ?_⟩) | (refine ⟨rfl, ?_⟩) | (refine ⟨(by show _ ≠ (0 : Int); omega), ?_⟩) | (refine ⟨.inl ⟨by decide, by decide⟩, ?_⟩) | (refine ⟨(by assumption : CDivN _ _), ?_⟩) | (refine ite_y (by decide) ?_) | (refine ite_n (by decide) ?_) | (refine ite_y rfl ?_) | (refine ite_n Bool.false_ne_true ?_)))
  by_cases h2 : a = b
  · refine ite_n (by rw [h2, decide_eq_true rfl]; decide) ?_
    exact ⟨_, rfl, Out.yes q e1 (by unfold likeW; rw [ha, hb]; exact if_pos h2)⟩
  · refine ite_y (by rw [decide_eq_false fun z => h2 (V.int.inj z)]; rfl) ?_
    exact Out.no q e1 (by unfold likeW; rw [ha, hb]; exact if_neg h2)
/-! ### meet, reach -/
theorem el_lcP {a : Addr} {rs : List Addr} {ps : List (Int × Int)} {tl : TE} {vs : List Nat} {i1 i2 ix : Nat} (f : Int × Int → Int) (h : Ev tl σ H (.ref a)) (hx : SqT K H a (rs.map V.ref)) (hr : Paired (fun (r : Addr) (p : Int × Int) => H r = some (.tup [.int p.1, .int p.2])) rs ps) (hz : ps.length ≤ 1000)
    (hw : ∀ x y, wipe (((wipe σ vs).set i1 (some x)).set i2 (some y)) vs = wipe σ vs) (he : ∀ p : Int × Int, (((wipe σ vs).set i1 (some (.int p.1))).set i2 (some (.int p.2)))[ix]? = some (some (.int (f p)))) :
    EvL (tLc (iTup K tl) (gTup K 2 (gCons (gName i1) (gCons (gName i2) gNil))) tYes (tVar ix) vs) σ H ((ps.map f).map V.int) := fun H0 e Q q => h H0 e _ fun H1 e1 => ⟨a, rfl, ⟨rs.map V.ref, ex_t (e.trans e1) hx⟩, fun Dl hD =>
  lc_tup (xs := rs.map V.ref) (fun i H' => Ex H1 H' ∧ H' Dl = some (.lst (((ps.take i).map f).map V.int))) ⟨Ex.new hD, upd_same⟩ (fun i H' _ p => ex_t ((e.trans e1).trans p.1) hx) (fun i x H' hi ⟨p1, p2⟩ => by
    obtain ⟨r, pr, rfl, hpi, hr'⟩ := pairs_at hr i x hi
    have lt : i < ps.length := (List.getElem?_eq_some_iff.mp hpi).1
    refine ⟨r, _, rfl, st_of (((e.trans e1).trans p1) _ _ hr'), rfl, _, _, rfl, _, _, rfl, rfl, hw _ _, _, he pr, _, p2, sz_lt (by rw [List.length_map, List.length_map, List.length_take]; omega), Ex.mut p1 hD, ?_⟩
    rw [upd_same, List.take_add_one, hpi, List.map_append, List.map_append]
    rfl) (fun H' ⟨p1, p2⟩ => q _ H' (fresh_back e1 hD) (e1.trans p1) (by rw [p2, List.length_map, pairs_len hr, List.take_length]))⟩
theorem drop_call {sp : Sp} {F : L2.St → XK} {te : TE} {tr : TA} {tz : TS} {D : Ends} {xs : List V} (h : EvL te σ H xs) (k : ∀ p H2, H p = none → Ex H H2 → H2 p = some (.lst xs) → tr σ H2 fun vs H3 => sp (.ref p :: vs) H3 (fun _ H4 => tz D σ H4) (F σ)) : tSeq (tDrop (tCallS sp F (tCons te tr))) tz D σ H := h H (Ex.refl H) _ fun p H2 hn e hp => k p H2 hn e hp
def meetW (ws : List Int) (v u : View) (ps : List (Int × Int)) : Option Int := (widthOf ws v).bind fun a => (widthOf ws u).bind fun b => if (ps.map (·.1)).all (inW a) = true ∧ (ps.map (·.2)).all (inW b) = true then some (a + b) else none
def spMeet (C P0 : Addr) (N : Nat) : Sp := fun vs H Q E => ∃ (x y : V) (qa wl : Addr) (v u : View) (ps : List (Int × Int)) (ws : List Int), vs = [x, y, .ref qa, .ref wl] ∧ VOk N v ∧ VOk N u ∧ ps.length ≤ 1000 ∧ VAt H v x ∧ VAt H u y ∧ PairsAt H qa ps ∧ H wl = some (.lst (ws.map V.int)) ∧ (∀ c ∈ ws, 1 ≤ c ∧ c ≤ 6) ∧ GxR.TabG H P0 ∧ Out C (meetW ws v u ps) H Q E
theorem XT.prs {rs : List Addr} {ps : List (Int × Int)} (e : XT H H') (h : Paired (fun (r : Addr) (p : Int × Int) => H r = some (.tup [.int p.1, .int p.2])) rs ps) : Paired (fun (r : Addr) (p : Int × Int) => H' r = some (.tup [.int p.1, .int p.2])) rs ps := L2.Paired.mapP h fun _ _ z => e.tup z
theorem ok_meet {f f1 f2 : Addr} {fd fd1 fd2 : FuncData} {M N : Nat} (A : FnAt K mg "_meet_width" s_meet_width P_meet_width f fd) (Atwo2 : FnAt K mg "_two_widths" s_two_widths P_two_widths f1 fd1) (Acheck : FnAt K mg "_check_columns" s_check_columns P_check_columns f2 fd2) (hM : 1 ≤ M)
    (Gtwo2 : FnOk P w K mg base (L2N.CX P w) M f1 fd1 P_two_widths (spTwo2 C P0 N)) (Gcheck : FnOk P w K mg base (L2N.CX P w) 1 f2 fd2 P_check_columns (spCheck K C P0)) (R : Rs K mg C tk) : FnOk P w K mg base (L2N.CX P w) (M + 1) f fd P_meet_width (spMeet C P0 N) := by
  refine okXN A.F sc_meet_width (fun vs H Q E h => ?_) (fun cdv A' outer s H vs Q E hrW h => ?_)
  · obtain ⟨_, _, _, _, _, _, _, _, rfl, _⟩ := h
    rfl
  obtain ⟨x, y, qa, wl, v, u, ps, ws, rfl, hok, hok2, hl, hv, hu, ⟨rs, hq, hpr⟩, hwl, hws, hT, q⟩ := h
  have hr1 : Room 1 _ := hrW.mono hM
  refine ⟨_, (pss_cons (ps_asg (pe_callS Gtwo2 hrW rfl Atwo2.g Atwo2.F.kp Atwo2.b (fun σ => L2N.passAt (L2N.takes_of rfl rfl rfl rfl) σ) (pa_cons (pv 0) (pa_cons (pv 1) (pa_cons (pv 3) pa_nil)))) (pg_tup rfl (pgs_cons (pg_name (i := 4) sc_meet_width.nd rfl (.inl rfl)) (pgs_cons (pg_name (i := 5) sc_meet_width.nd rfl (.inl rfl)) pgs_nil))))
  (pss_cons (ps_expr (pe_callS Gcheck hr1 rfl Acheck.g Acheck.F.kp Acheck.b (fun σ => L2N.passAt (L2N.takes_of rfl rfl rfl rfl) σ) (pa_cons (pe_lc (own := [("left", 6), ("_", 7)]) (g := (gTup K 2 (gCons (gName 6) (gCons (gName 7) gNil)))) (tt := tYes) rfl sc_meet_width.nd (pi_tup (pv 2)) (blkOk_by (N := N_meet_width) (sc := defScope s_meet_width) (by decide +kernel)) (fun _ _ _ _ _ => (pg_tup rfl (pgs_cons (pg_name (i := 6) sc_meet_width.nd rfl (.inl rfl)) (pgs_cons (pg_name (i := 7) sc_meet_width.nd rfl (.inl rfl)) pgs_nil)))) (fun _ _ _ _ _ => pts_nil) (fun _ _ _ _ _ => (pv 6))) (pa_cons (pv 4) pa_nil))))
  (pss_cons (ps_expr (pe_callS Gcheck hr1 rfl Acheck.g Acheck.F.kp Acheck.b (fun σ => L2N.passAt (L2N.takes_of rfl rfl rfl rfl) σ) (pa_cons (pe_lc (own := [("_", 7), ("right", 8)]) (g := (gTup K 2 (gCons (gName 7) (gCons (gName 8) gNil)))) (tt := tYes) rfl sc_meet_width.nd (pi_tup (pv 2)) (blkOk_by (N := N_meet_width) (sc := defScope s_meet_width) (by decide +kernel)) (fun _ _ _ _ _ => (pg_tup rfl (pgs_cons (pg_name (i := 7) sc_meet_width.nd rfl (.inl rfl)) (pgs_cons (pg_name (i := 8) sc_meet_width.nd rfl (.inl rfl)) pgs_nil)))) (fun _ _ _ _ _ => pts_nil) (fun _ _ _ _ _ => (pv 8))) (pa_cons (pv 5) pa_nil))))
  (pss_one (ps_ret (pe_op op_add (pv 4) (pv 5))))))), ?_⟩
  (repeat (first | (refine ⟨_, _, _, _, rfl, rfl, st_of hp, rfl, ?_⟩) | (refine ⟨_, rfl, ?_⟩) | (refine ⟨_, _, rfl, rfl, ?_⟩) | (refine ⟨⟨by decide, by decide⟩, ?_⟩) | (refine ⟨(by show (0 : Int) < _; decide), ?_⟩) | (refine ⟨rfl, ?_⟩) | (refine ⟨(by show _ ≠ (0 : Int); omega), ?_⟩) | (refine ⟨.inl ⟨by decide, by decide⟩, ?_⟩) | (refine ⟨(by assumption : CDivN _ _), ?_⟩) | (refine ite_y (by decide) ?_) | (refine ite_n (by decide) ?_) | (refine ite_y rfl ?_) | (refine ite_n Bool.false_ne_true ?_)))
  refine ⟨x, y, wl, v, u, ws, rfl, hok, hok2, hv, hu, hwl, hws, hT, fun a b ha hb p H1 e1 hp => ?_, fun hn H1 e1 => Out.no q e1 (two_none hn)⟩
  refine ⟨p, _, rfl, st_of hp, rfl, _, _, rfl, _, _, rfl, rfl, ?_⟩
  dsimp only
  refine drop_call (el_lcP (σ := [some x, some y, some (.ref qa), some (.ref wl), some (.int a), some (.int b), none, none, none]) (i1 := 6) (i2 := 7) (f := (·.1)) (ev_var (i := 2) rfl) (st_of (e1.tup hq)) (XT.prs e1 hpr) hl (by intro _ _; rfl) (by intro _; rfl)) fun l1 H2 _ e2 hl1 => ?_
  (repeat (first | (refine ⟨_, _, _, _, rfl, rfl, st_of hp, rfl, ?_⟩) | (refine ⟨_, rfl, ?_⟩) | (refine ⟨_, _, rfl, rfl, ?_⟩) | (refine ⟨⟨by decide, by decide⟩, ?_⟩) | (refine ⟨(by show (0 : Int) < _; decide), ?_⟩) | (refine ⟨rfl, ?_⟩) | (refine ⟨(by show _ ≠ (0 : Int); omega), ?_⟩) | (refine ⟨.inl ⟨by decide, by decide⟩, ?_⟩) | (refine ⟨(by assumption : CDivN _ _), ?_⟩) | (refine ite_y (by decide) ?_) | (refine ite_n (by decide) ?_) | (refine ite_y rfl ?_) | (refine ite_n Bool.false_ne_true ?_)))
  have e02 := e1.trans (XT.of_ex e2)
  refine ⟨l1, ps.map (·.1), a, rfl, .inl (sq_of hl1), e02.tab _ hT, fun h1 H3 e3 => ?_, fun h1 H3 e3 => Out.no q (e02.trans e3) (by unfold meetW; rw [ha, hb]; exact if_neg fun z => by rw [h1] at z; exact Bool.false_ne_true z.1)⟩
  have e03 := e02.trans e3
  dsimp only
  refine drop_call (el_lcP (σ := [some x, some y, some (.ref qa), some (.ref wl), some (.int a), some (.int b), none, none, none]) (i1 := 7) (i2 := 8) (f := (·.2)) (ev_var (i := 2) rfl) (st_of (e03.tup hq)) (XT.prs e03 hpr) hl (by intro _ _; rfl) (by intro _; rfl)) fun l2 H4 _ e4 hl2 => ?_
  (repeat (first | (refine ⟨_, _, _, _, rfl, rfl, st_of hp, rfl, ?_⟩) | (refine ⟨_, rfl, ?_⟩) | (refine ⟨_, _, rfl, rfl, ?_⟩) | (refine ⟨⟨by decide, by decide⟩, ?_⟩) | (refine ⟨(by show (0 : Int) < _; decide), ?_⟩) | (refine ⟨rfl, ?_⟩) | (refine ⟨(by show _ ≠ (0 : Int); omega), ?_⟩) | (refine ⟨.inl ⟨by decide, by decide⟩, ?_⟩) | (refine ⟨(by assumption : CDivN _ _), ?_⟩) | (refine ite_y (by decide) ?_) | (refine ite_n (by decide) ?_) | (refine ite_y rfl ?_) | (refine ite_n Bool.false_ne_true ?_)))
  have e04 := e03.trans (XT.of_ex e4)
  refine ⟨l2, ps.map (·.2), b, rfl, .inl (sq_of hl2), e04.tab _ hT, fun h2 H5 e5 => ?_, fun h2 H5 e5 => Out.no q (e04.trans e5) (by unfold meetW; rw [ha, hb]; exact if_neg fun z => by rw [h2] at z; exact Bool.false_ne_true z.2)⟩
  (repeat (first | (refine ⟨_, _, _, _, rfl, rfl, st_of hp, rfl, ?_⟩) | (refine ⟨_, rfl, ?_⟩) | (refine ⟨_, _, rfl, rfl, ?_⟩) | (refine ⟨⟨by decide, by decide⟩, ?_⟩) | (refine ⟨(by show (0 : Int) < _; decide), ?_⟩) | (refine ⟨rfl, ?_⟩) | (refine ⟨(by show _ ≠ (0 : Int); omega), ?_⟩) | (refine ⟨.inl ⟨by decide, by decide⟩, ?_⟩) | (refine ⟨(by assumption : CDivN _ _), ?_⟩) | (refine ite_y (by decide) ?_) | (refine ite_n (by decide) ?_) | (refine ite_y rfl ?_) | (refine ite_n Bool.false_ne_true ?_)))
  exact Out.yes q (e04.trans e5) (by unfold meetW; rw [ha, hb]; exact if_pos ⟨h1, h2⟩)
def reachW (ws : List Int) (v : View) : Option Int := (widthOf ws v).bind fun m => if m = 2 then some 2 else none
def spReach (C P0 : Addr) (N : Nat) : Sp := fun vs H Q E => ∃ (x : V) (wl : Addr) (v : View) (ws : List Int), vs = [x, .ref wl] ∧ VOk N v ∧ VAt H v x ∧ H wl = some (.lst (ws.map V.int)) ∧ (∀ c ∈ ws, 1 ≤ c ∧ c ≤ 6) ∧ GxR.TabG H P0 ∧ Out C (reachW ws v) H Q E
theorem ok_reach {f f1 : Addr} {fd fd1 : FuncData} {M N : Nat} (A : FnAt K mg "_reach_width" s_reach_width P_reach_width f fd) (Awof : FnAt K mg "width_of" swidth_of Pwidth_of f1 fd1)
    (Gwof : FnOk P w K mg base (L2N.CX P w) M f1 fd1 Pwidth_of (spWof C P0 N)) (R : Rs K mg C tk) : FnOk P w K mg base (L2N.CX P w) (M + 1) f fd P_reach_width (spReach C P0 N) := by
  refine okXN A.F sc_reach_width (fun vs H Q E h => ?_) (fun cdv A' outer s H vs Q E hrF h => ?_)
  · obtain ⟨_, _, _, _, rfl, _⟩ := h
    rfl
  obtain ⟨x, wl, v, ws, rfl, hok, hv, hwl, hws, hT, q⟩ := h
  refine ⟨_, (pss_cons (ps_set (i := 2) sc_reach_width.nd rfl (.inl rfl) (pe_callS Gwof hrF rfl Awof.g Awof.F.kp Awof.b (fun σ => L2N.passAt (L2N.takes_of rfl rfl rfl rfl) σ) (pa_cons (pv 0) (pa_cons (pv 1) pa_nil))))
  (pss_cons (ps_if (pt_cmpR op_ne (pv 2) pe_int (nomark _)) (pss_one (L2N.ps_raise rfl (L2N.takes_of rfl rfl rfl rfl) (L2N.pmk_own PySem.F.excBase_ValueError R.x R.g R.k (raises_own R.b R.t) rfl))) pss_nil)
  (pss_one (ps_ret (pv 2))))), ?_⟩
  (repeat (first | (refine ⟨_, _, _, _, rfl, rfl, st_of hp, rfl, ?_⟩) | (refine ⟨_, rfl, ?_⟩) | (refine ⟨_, _, rfl, rfl, ?_⟩) | (refine ⟨⟨by decide, by decide⟩, ?_⟩) | (refine ⟨(by show (0 : Int) < _; decide), ?_⟩) | (refine ⟨rfl, ?_⟩) | (refine ⟨(by show _ ≠ (0 : Int); omega), ?_⟩) | (refine ⟨.inl ⟨by decide, by decide⟩, ?_⟩) | (refine ⟨(by assumption : CDivN _ _), ?_⟩) | (refine ite_y (by decide) ?_) | (refine ite_n (by decide) ?_) | (refine ite_y rfl ?_) | (refine ite_n Bool.false_ne_true ?_)))
  refine ⟨x, wl, v, ws, rfl, hok, hv, hwl, hws, hT, fun m hm H1 e1 => ?_, fun hn H1 e1 => Out.no q e1 (by unfold reachW; rw [hn]; rfl)⟩
  (repeat (first | (refine ⟨_, _, _, _, rfl, rfl, st_of hp, rfl, ?_⟩) | (refine ⟨_, rfl, ?_⟩) | (refine ⟨_, _, rfl, rfl, ?_⟩) | (refine ⟨⟨by decide, by decide⟩, ?_⟩) | (refine ⟨(by show (0 : Int) < _; decide), ?_⟩) | (refine ⟨rfl, ?_⟩) | (refine ⟨(by show _ ≠ (0 : Int); omega), ?_⟩) | (refine ⟨.inl ⟨by decide, by decide⟩, ?_⟩) | (refine ⟨(by assumption : CDivN _ _), ?_⟩) | (refine ite_y (by decide) ?_) | (refine ite_n (by decide) ?_) | (refine ite_y rfl ?_) | (refine ite_n Bool.false_ne_true ?_)))
  by_cases h2 : m = 2
  · refine ite_n (by rw [h2]; decide) ?_
    refine ⟨_, rfl, ?_⟩
    rw [h2]
    exact Out.yes q e1 (by unfold reachW; rw [hm, h2]; rfl)
  · refine ite_y (by rw [decide_eq_false fun z => h2 (V.int.inj z)]; rfl) ?_
    exact Out.no q e1 (by unfold reachW; rw [hm]; exact if_neg h2)
/-! ### by the word -/
def toldW (ws : List Int) : View → Option Int
  | .table t => tabW ws t
  | .within v c _ _ => withW ws v [c]
  | .columns v cs => colW ws v cs
  | .both v u => likeW ws v u
  | .less v u => likeW ws v u
  | .meet v u ps => meetW ws v u ps
  | .once v => widthOf ws v
  | .sums v ks c => (withW ws v (ks ++ [c])).bind fun _ => some (ks.length + 2)
  | .reach v => reachW ws v
  | .odd _ _ _ => none
theorem cap_same {r : Option Int} (h : ∀ n, r = some n → n ≤ 40) : r.bind cap = r := by
  cases r with
  | none => rfl
  | some n => exact if_pos (h n rfl)
theorem wide_told {ws : List Int} (hw : ∀ c ∈ ws, 1 ≤ c ∧ c ≤ 6) (v : View) : widthOf ws v = (toldW ws v).bind cap := by
  have same : toldW ws v = widthOf ws v → widthOf ws v = (toldW ws v).bind cap := fun h => by
    rw [h, cap_same (wo_le hw v)]
  cases v with
  | table t => exact same rfl
  | within v c lo hi =>
    refine same ?_
    show (widthOf ws v).bind _ = (widthOf ws v).bind _
    congr 1
    funext m
    rw [show [c].all (inW m) = inW m c by simp]
  | both v u => exact same rfl
  | less v u => exact same rfl
  | once v => exact same rfl
  | reach v => exact same rfl
  | odd o v u => rfl
  | columns v cs =>
    show (widthOf ws v).bind _ = ((((widthOf ws v).bind fun m => if cs.all (inW m) = true then some m else none).bind fun _ => if cs = [] then none else some (cs.length : Int)).bind cap)
    cases widthOf ws v with
    | none => rfl
    | some m =>
      show (if cs ≠ [] ∧ cs.all (inW m) = true then cap cs.length else none) = (((if cs.all (inW m) = true then some m else none).bind fun _ => if cs = [] then none else some (cs.length : Int)).bind cap)
      by_cases h1 : cs.all (inW m) = true
      · by_cases h2 : cs = []
        · rw [if_neg fun z => z.1 h2, if_pos h1]
          show none = (if cs = [] then none else some (cs.length : Int)).bind cap
          rw [if_pos h2]
          rfl
        · rw [if_pos ⟨h2, h1⟩, if_pos h1]
          show _ = (if cs = [] then none else some (cs.length : Int)).bind cap
          rw [if_neg h2]
          rfl
      · rw [if_neg fun z => h1 z.2, if_neg h1]
        rfl
  | meet v u ps =>
    show ((widthOf ws v).bind fun a => (widthOf ws u).bind fun b => _) = (((widthOf ws v).bind fun a => (widthOf ws u).bind fun b => _).bind cap)
    cases widthOf ws v with
    | none => rfl
    | some a =>
      show ((widthOf ws u).bind fun b => _) = (((widthOf ws u).bind fun b => _).bind cap)
      cases widthOf ws u with
      | none => rfl
      | some b =>
        show (if (ps.map (·.1)).all (inW a) = true ∧ (ps.map (·.2)).all (inW b) = true then cap (a + b) else none) = (if (ps.map (·.1)).all (inW a) = true ∧ (ps.map (·.2)).all (inW b) = true then some (a + b) else none).bind cap
        by_cases h : (ps.map (·.1)).all (inW a) = true ∧ (ps.map (·.2)).all (inW b) = true
        · rw [if_pos h, if_pos h]
          rfl
        · rw [if_neg h, if_neg h]
          rfl
  | sums v ks c =>
    show (widthOf ws v).bind _ = ((((widthOf ws v).bind fun m => if (ks ++ [c]).all (inW m) = true then some m else none).bind fun _ => some ((ks.length : Int) + 2)).bind cap)
    cases widthOf ws v with
    | none => rfl
    | some m =>
      show (if ks.all (inW m) = true ∧ inW m c = true then cap (ks.length + 2) else none) = (((if (ks ++ [c]).all (inW m) = true then some m else none).bind fun _ => some ((ks.length : Int) + 2)).bind cap)
      have e : (ks ++ [c]).all (inW m) = true ↔ ks.all (inW m) = true ∧ inW m c = true := by simp
      by_cases h : ks.all (inW m) = true ∧ inW m c = true
      · rw [if_pos h, if_pos (e.mpr h)]
        rfl
      · rw [if_neg h, if_neg fun z => h (e.mp z)]
        rfl
def spTold (C P0 : Addr) (N : Nat) : Sp := fun vs H Q E => ∃ (x : V) (wl : Addr) (v : View) (ws : List Int), vs = [x, .ref wl] ∧ VOk (N + 1) v ∧ VAt H v x ∧ H wl = some (.lst (ws.map V.int)) ∧ (∀ c ∈ ws, 1 ≤ c ∧ c ≤ 6) ∧ GxR.TabG H P0 ∧ Out C (toldW ws v) H Q E
theorem not_word {o k : Str} (h4 : o ∈ four) (hk : k ∈ nine) : ¬ decide (o = k) = true := fun h => four_nine h4 (by rw [of_decide_eq_true h]; exact hk)
theorem ok_told {f f1 f2 f3 f4 f5 f6 f7 : Addr} {fd fd1 fd2 fd3 fd4 fd5 fd6 fd7 : FuncData} {M N : Nat} (A : FnAt K mg "_told_width" s_told_width P_told_width f fd) (Awof : FnAt K mg "width_of" swidth_of Pwidth_of f1 fd1) (Atab : FnAt K mg "_table_width" s_table_width P_table_width f2 fd2) (Awith : FnAt K mg "_width_with" s_width_with P_width_with f3 fd3)
    (Acolw : FnAt K mg "_columns_width" s_columns_width P_columns_width f4 fd4) (Alike : FnAt K mg "_like_width" s_like_width P_like_width f5 fd5) (Ameet : FnAt K mg "_meet_width" s_meet_width P_meet_width f6 fd6) (Areach : FnAt K mg "_reach_width" s_reach_width P_reach_width f7 fd7) (B : Bt mg) (R : Rs K mg C tk)
    (Gwof : FnOk P w K mg base (L2N.CX P w) M f1 fd1 Pwidth_of (spWof C P0 N)) (Gtab : FnOk P w K mg base (L2N.CX P w) 1 f2 fd2 P_table_width (spTab C)) (Gwith : FnOk P w K mg base (L2N.CX P w) (M + 1) f3 fd3 P_width_with (spWith K C P0 N)) (Gcolw : FnOk P w K mg base (L2N.CX P w) (M + 2) f4 fd4 P_columns_width (spColw C P0 N))
    (Glike : FnOk P w K mg base (L2N.CX P w) (M + 2) f5 fd5 P_like_width (spLike C P0 N)) (Gmeet : FnOk P w K mg base (L2N.CX P w) (M + 2) f6 fd6 P_meet_width (spMeet C P0 N)) (Greach : FnOk P w K mg base (L2N.CX P w) (M + 1) f7 fd7 P_reach_width (spReach C P0 N)) :
    FnOk P w K mg base (L2N.CX P w) (M + 3) f fd P_told_width (spTold C P0 N) := by
  refine okXN A.F sc_told_width (fun vs H Q E h => ?_) (fun cdv A' outer s H vs Q E hrC h => ?_)
  · obtain ⟨_, _, _, _, rfl, _⟩ := h
    rfl
  obtain ⟨x, wl, v, ws, rfl, hok, hv, hwl, hws, hT, q⟩ := h
  have hr1 : Room 1 _ := hrC.mono (by omega)
  have hrW : Room (M + 1) _ := hrC.mono (by omega)
  have hrF : Room M _ := hrC.mono (by omega)
  refine ⟨_, (pss_one (KM.ps_match (pv 0) (KM.pm_seq (n := 1) rfl sc_told_width.nd KM.pp_str (KM.Caps.name (i := 2) rfl (.inl rfl) (.inl rfl) KM.Caps.nil) (pss_one (ps_ret (pe_callS Gtab hr1 rfl Atab.g Atab.F.kp Atab.b (fun σ => L2N.passAt (L2N.takes_of rfl rfl rfl rfl) σ) (pa_cons (pv 2) (pa_cons (pv 1) pa_nil)))))
    (KM.pm_seq (n := 4) rfl sc_told_width.nd KM.pp_str (KM.Caps.name (i := 3) rfl (.inl rfl) (.inl rfl) (KM.Caps.name (i := 4) rfl (.inl rfl) (.inl rfl) (KM.Caps.wild (KM.Caps.wild KM.Caps.nil)))) (pss_one (ps_ret (pe_callS Gwith hrW rfl Awith.g Awith.F.kp Awith.b (fun σ => L2N.passAt (L2N.takes_of rfl rfl rfl rfl) σ) (pa_cons (pv 3) (pa_cons (pe_lst (pa_cons (pv 4) pa_nil)) (pa_cons (pv 1) pa_nil))))))
    (KM.pm_seq (n := 2) rfl sc_told_width.nd KM.pp_str (KM.Caps.name (i := 3) rfl (.inl rfl) (.inl rfl) (KM.Caps.name (i := 5) rfl (.inl rfl) (.inl rfl) KM.Caps.nil)) (pss_one (ps_ret (pe_callS Gcolw hrC rfl Acolw.g Acolw.F.kp Acolw.b (fun σ => L2N.passAt (L2N.takes_of rfl rfl rfl rfl) σ) (pa_cons (pv 3) (pa_cons (pv 5) (pa_cons (pv 1) pa_nil))))))
    (KM.pm_seq (n := 2) rfl sc_told_width.nd (KM.pp_or2 KM.pp_str KM.pp_str) (KM.Caps.name (i := 6) rfl (.inl rfl) (.inl rfl) (KM.Caps.name (i := 7) rfl (.inl rfl) (.inl rfl) KM.Caps.nil)) (pss_one (ps_ret (pe_callS Glike hrC rfl Alike.g Alike.F.kp Alike.b (fun σ => L2N.passAt (L2N.takes_of rfl rfl rfl rfl) σ) (pa_cons (pv 6) (pa_cons (pv 7) (pa_cons (pv 1) pa_nil))))))
    (KM.pm_seq (n := 3) rfl sc_told_width.nd KM.pp_str (KM.Caps.name (i := 6) rfl (.inl rfl) (.inl rfl) (KM.Caps.name (i := 7) rfl (.inl rfl) (.inl rfl) (KM.Caps.name (i := 8) rfl (.inl rfl) (.inl rfl) KM.Caps.nil))) (pss_one (ps_ret (pe_callS Gmeet hrC rfl Ameet.g Ameet.F.kp Ameet.b (fun σ => L2N.passAt (L2N.takes_of rfl rfl rfl rfl) σ) (pa_cons (pv 6) (pa_cons (pv 7) (pa_cons (pv 8) (pa_cons (pv 1) pa_nil)))))))
    (KM.pm_seq (n := 1) rfl sc_told_width.nd KM.pp_str (KM.Caps.name (i := 3) rfl (.inl rfl) (.inl rfl) KM.Caps.nil) (pss_one (ps_ret (pe_callS Gwof hrF rfl Awof.g Awof.F.kp Awof.b (fun σ => L2N.passAt (L2N.takes_of rfl rfl rfl rfl) σ) (pa_cons (pv 3) (pa_cons (pv 1) pa_nil)))))
    (KM.pm_seq (n := 3) rfl sc_told_width.nd KM.pp_str (KM.Caps.name (i := 3) rfl (.inl rfl) (.inl rfl) (KM.Caps.name (i := 9) rfl (.inl rfl) (.inl rfl) (KM.Caps.name (i := 4) rfl (.inl rfl) (.inl rfl) KM.Caps.nil))) (pss_cons (ps_expr (pe_callS Gwith hrW rfl Awith.g Awith.F.kp Awith.b (fun σ => L2N.passAt (L2N.takes_of rfl rfl rfl rfl) σ) (pa_cons (pv 3) (pa_cons (pe_lst (StX.pa_star (pv 9) (pa_cons (pv 4) pa_nil))) (pa_cons (pv 1) pa_nil)))))
  (pss_one (ps_ret (pe_op op_add (pe_callB call_len_seq (by rfl) B.len (by decide +kernel) (pa_cons (pv 9) pa_nil)) pe_int))))
    (KM.pm_seq (n := 1) rfl sc_told_width.nd KM.pp_str (KM.Caps.name (i := 3) rfl (.inl rfl) (.inl rfl) KM.Caps.nil) (pss_one (ps_ret (pe_callS Greach hrW rfl Areach.g Areach.F.kp Areach.b (fun σ => L2N.passAt (L2N.takes_of rfl rfl rfl rfl) σ) (pa_cons (pv 3) (pa_cons (pv 1) pa_nil)))))
    (KM.pm_any (pss_one (L2N.ps_raise rfl (L2N.takes_of rfl rfl rfl rfl) (L2N.pmk_own PySem.F.excBase_ValueError R.x R.g R.k (raises_own R.b R.t) rfl)))))))))))))), ?_⟩
  refine ⟨_, rfl, ?_⟩
  cases v with
  | table t =>
    obtain ⟨p, rfl, hp⟩ := hv
    refine ⟨_, _, _, rfl, st_of hp, fun _ => ⟨_, _, rfl, rfl, ?_⟩, fun h => absurd ⟨rfl, by decide⟩ h⟩
    (repeat (first | (refine ⟨_, _, _, _, rfl, rfl, st_of hp, rfl, ?_⟩) | (refine ⟨_, rfl, ?_⟩) | (refine ⟨_, _, rfl, rfl, ?_⟩) | (refine ⟨⟨by decide, by decide⟩, ?_⟩) | (refine ⟨(by show (0 : Int) < _; decide), ?_⟩) | (refine ⟨rfl, ?_⟩) | (refine ⟨(by show _ ≠ (0 : Int); omega), ?_⟩) | (refine ⟨.inl ⟨by decide, by decide⟩, ?_⟩) | (refine ⟨(by assumption : CDivN _ _), ?_⟩) | (refine ite_y (by decide) ?_) | (refine ite_n (by decide) ?_) | (refine ite_y rfl ?_) | (refine ite_n Bool.false_ne_true ?_)))
    exact ⟨t, wl, ws, rfl, hwl, q⟩
  | within v1 c lo hi =>
    obtain ⟨p, y, rfl, hp, hy, _⟩ := hv
    refine ⟨_, _, _, rfl, st_of hp, fun h => absurd h.2 (by decide), fun _ => ?_⟩
    refine ⟨_, _, _, rfl, st_of hp, fun _ => ⟨_, _, rfl, _, _, rfl, _, _, rfl, _, _, rfl, rfl, ?_⟩, fun h => absurd ⟨rfl, by decide⟩ h⟩
    (repeat (first | (refine ⟨_, _, _, _, rfl, rfl, st_of hp, rfl, ?_⟩) | (refine ⟨_, rfl, ?_⟩) | (refine ⟨_, _, rfl, rfl, ?_⟩) | (refine ⟨⟨by decide, by decide⟩, ?_⟩) | (refine ⟨(by show (0 : Int) < _; decide), ?_⟩) | (refine ⟨rfl, ?_⟩) | (refine ⟨(by show _ ≠ (0 : Int); omega), ?_⟩) | (refine ⟨.inl ⟨by decide, by decide⟩, ?_⟩) | (refine ⟨(by assumption : CDivN _ _), ?_⟩) | (refine ite_y (by decide) ?_) | (refine ite_n (by decide) ?_) | (refine ite_y rfl ?_) | (refine ite_n Bool.false_ne_true ?_)))
    refine ⟨by show 1 ≤ sizeLine; decide, fun l hl => ?_⟩
    (repeat (first | (refine ⟨_, _, _, _, rfl, rfl, st_of hp, rfl, ?_⟩) | (refine ⟨_, rfl, ?_⟩) | (refine ⟨_, _, rfl, rfl, ?_⟩) | (refine ⟨⟨by decide, by decide⟩, ?_⟩) | (refine ⟨(by show (0 : Int) < _; decide), ?_⟩) | (refine ⟨rfl, ?_⟩) | (refine ⟨(by show _ ≠ (0 : Int); omega), ?_⟩) | (refine ⟨.inl ⟨by decide, by decide⟩, ?_⟩) | (refine ⟨(by assumption : CDivN _ _), ?_⟩) | (refine ite_y (by decide) ?_) | (refine ite_n (by decide) ?_) | (refine ite_y rfl ?_) | (refine ite_n Bool.false_ne_true ?_)))
    have e := XT.of_ex (Ex.new (o := .lst [.int c]) hl)
    exact ⟨y, l, wl, v1, [c], ws, rfl, hok, e.view v1 y hy, .inl (sq_of upd_same), e.lst hwl, hws, e.tab _ hT, fun m hm H' e' => Out.yes q (e.trans e') hm, fun hn H' e' => Out.no q (e.trans e') hn⟩
  | columns v1 cs =>
    obtain ⟨p, y, qa, rfl, hp, hy, hq⟩ := hv
    refine ⟨_, _, _, rfl, st_of hp, fun h => absurd h.2 (by decide), fun _ => ?_⟩
    refine ⟨_, _, _, rfl, st_of hp, fun h => absurd h.2 (by decide), fun _ => ?_⟩
    refine ⟨_, _, _, rfl, st_of hp, fun _ => ⟨_, _, rfl, _, _, rfl, rfl, ?_⟩, fun h => absurd ⟨rfl, by decide⟩ h⟩
    (repeat (first | (refine ⟨_, _, _, _, rfl, rfl, st_of hp, rfl, ?_⟩) | (refine ⟨_, rfl, ?_⟩) | (refine ⟨_, _, rfl, rfl, ?_⟩) | (refine ⟨⟨by decide, by decide⟩, ?_⟩) | (refine ⟨(by show (0 : Int) < _; decide), ?_⟩) | (refine ⟨rfl, ?_⟩) | (refine ⟨(by show _ ≠ (0 : Int); omega), ?_⟩) | (refine ⟨.inl ⟨by decide, by decide⟩, ?_⟩) | (refine ⟨(by assumption : CDivN _ _), ?_⟩) | (refine ite_y (by decide) ?_) | (refine ite_n (by decide) ?_) | (refine ite_y rfl ?_) | (refine ite_n Bool.false_ne_true ?_)))
    exact ⟨y, qa, wl, v1, cs, ws, rfl, hok.1, hy, hq, hwl, hws, hT, q⟩
  | both v1 v2 =>
    obtain ⟨p, y, z, rfl, hp, hy, hz⟩ := hv
    refine ⟨_, _, _, rfl, st_of hp, fun h => absurd h.2 (by decide), fun _ => ?_⟩
    refine ⟨_, _, _, rfl, st_of hp, fun h => absurd h.2 (by decide), fun _ => ?_⟩
    refine ⟨_, _, _, rfl, st_of hp, fun h => absurd h.2 (by decide), fun _ => ?_⟩
    refine ⟨_, _, _, rfl, st_of hp, fun _ => ⟨_, _, rfl, _, _, rfl, rfl, ?_⟩, fun h => absurd ⟨rfl, by decide⟩ h⟩
    (repeat (first | (refine ⟨_, _, _, _, rfl, rfl, st_of hp, rfl, ?_⟩) | (refine ⟨_, rfl, ?_⟩) | (refine ⟨_, _, rfl, rfl, ?_⟩) | (refine ⟨⟨by decide, by decide⟩, ?_⟩) | (refine ⟨(by show (0 : Int) < _; decide), ?_⟩) | (refine ⟨rfl, ?_⟩) | (refine ⟨(by show _ ≠ (0 : Int); omega), ?_⟩) | (refine ⟨.inl ⟨by decide, by decide⟩, ?_⟩) | (refine ⟨(by assumption : CDivN _ _), ?_⟩) | (refine ite_y (by decide) ?_) | (refine ite_n (by decide) ?_) | (refine ite_y rfl ?_) | (refine ite_n Bool.false_ne_true ?_)))
    exact ⟨y, z, wl, v1, v2, ws, rfl, hok.1, hok.2, hy, hz, hwl, hws, hT, q⟩
  | less v1 v2 =>
    obtain ⟨p, y, z, rfl, hp, hy, hz⟩ := hv
    refine ⟨_, _, _, rfl, st_of hp, fun h => absurd h.2 (by decide), fun _ => ?_⟩
    refine ⟨_, _, _, rfl, st_of hp, fun h => absurd h.2 (by decide), fun _ => ?_⟩
    refine ⟨_, _, _, rfl, st_of hp, fun h => absurd h.2 (by decide), fun _ => ?_⟩
    refine ⟨_, _, _, rfl, st_of hp, fun _ => ⟨_, _, rfl, _, _, rfl, rfl, ?_⟩, fun h => absurd ⟨rfl, by decide⟩ h⟩
    (repeat (first | (refine ⟨_, _, _, _, rfl, rfl, st_of hp, rfl, ?_⟩) | (refine ⟨_, rfl, ?_⟩) | (refine ⟨_, _, rfl, rfl, ?_⟩) | (refine ⟨⟨by decide, by decide⟩, ?_⟩) | (refine ⟨(by show (0 : Int) < _; decide), ?_⟩) | (refine ⟨rfl, ?_⟩) | (refine ⟨(by show _ ≠ (0 : Int); omega), ?_⟩) | (refine ⟨.inl ⟨by decide, by decide⟩, ?_⟩) | (refine ⟨(by assumption : CDivN _ _), ?_⟩) | (refine ite_y (by decide) ?_) | (refine ite_n (by decide) ?_) | (refine ite_y rfl ?_) | (refine ite_n Bool.false_ne_true ?_)))
    exact ⟨y, z, wl, v1, v2, ws, rfl, hok.1, hok.2, hy, hz, hwl, hws, hT, q⟩
  | meet v1 v2 ps =>
    obtain ⟨p, y, z, qa, rfl, hp, hy, hz, hq⟩ := hv
    refine ⟨_, _, _, rfl, st_of hp, fun h => absurd h.2 (by decide), fun _ => ?_⟩
    refine ⟨_, _, _, rfl, st_of hp, fun h => absurd h.2 (by decide), fun _ => ?_⟩
    refine ⟨_, _, _, rfl, st_of hp, fun h => absurd h.2 (by decide), fun _ => ?_⟩
    refine ⟨_, _, _, rfl, st_of hp, fun h => absurd h.2 (by decide), fun _ => ?_⟩
    refine ⟨_, _, _, rfl, st_of hp, fun _ => ⟨_, _, rfl, _, _, rfl, _, _, rfl, rfl, ?_⟩, fun h => absurd ⟨rfl, by decide⟩ h⟩
    (repeat (first | (refine ⟨_, _, _, _, rfl, rfl, st_of hp, rfl, ?_⟩) | (refine ⟨_, rfl, ?_⟩) | (refine ⟨_, _, rfl, rfl, ?_⟩) | (refine ⟨⟨by decide, by decide⟩, ?_⟩) | (refine ⟨(by show (0 : Int) < _; decide), ?_⟩) | (refine ⟨rfl, ?_⟩) | (refine ⟨(by show _ ≠ (0 : Int); omega), ?_⟩) | (refine ⟨.inl ⟨by decide, by decide⟩, ?_⟩) | (refine ⟨(by assumption : CDivN _ _), ?_⟩) | (refine ite_y (by decide) ?_) | (refine ite_n (by decide) ?_) | (refine ite_y rfl ?_) | (refine ite_n Bool.false_ne_true ?_)))
    exact ⟨y, z, qa, wl, v1, v2, ps, ws, rfl, hok.1, hok.2.1, hok.2.2, hy, hz, hq, hwl, hws, hT, q⟩
  | once v1 =>
    obtain ⟨p, y, rfl, hp, hy⟩ := hv
    refine ⟨_, _, _, rfl, st_of hp, fun h => absurd h.2 (by decide), fun _ => ?_⟩
    refine ⟨_, _, _, rfl, st_of hp, fun h => absurd h.2 (by decide), fun _ => ?_⟩
    refine ⟨_, _, _, rfl, st_of hp, fun h => absurd h.2 (by decide), fun _ => ?_⟩
    refine ⟨_, _, _, rfl, st_of hp, fun h => absurd h.2 (by decide), fun _ => ?_⟩
    refine ⟨_, _, _, rfl, st_of hp, fun h => absurd h.2 (by decide), fun _ => ?_⟩
    refine ⟨_, _, _, rfl, st_of hp, fun _ => ⟨_, _, rfl, rfl, ?_⟩, fun h => absurd ⟨rfl, by decide⟩ h⟩
    (repeat (first | (refine ⟨_, _, _, _, rfl, rfl, st_of hp, rfl, ?_⟩) | (refine ⟨_, rfl, ?_⟩) | (refine ⟨_, _, rfl, rfl, ?_⟩) | (refine ⟨⟨by decide, by decide⟩, ?_⟩) | (refine ⟨(by show (0 : Int) < _; decide), ?_⟩) | (refine ⟨rfl, ?_⟩) | (refine ⟨(by show _ ≠ (0 : Int); omega), ?_⟩) | (refine ⟨.inl ⟨by decide, by decide⟩, ?_⟩) | (refine ⟨(by assumption : CDivN _ _), ?_⟩) | (refine ite_y (by decide) ?_) | (refine ite_n (by decide) ?_) | (refine ite_y rfl ?_) | (refine ite_n Bool.false_ne_true ?_)))
    exact ⟨y, wl, v1, ws, rfl, hok, hy, hwl, hws, hT, q⟩
  | sums v1 ks c =>
    obtain ⟨p, y, qa, rfl, hp, hy, hq⟩ := hv
    refine ⟨_, _, _, rfl, st_of hp, fun h => absurd h.2 (by decide), fun _ => ?_⟩
    refine ⟨_, _, _, rfl, st_of hp, fun h => absurd h.2 (by decide), fun _ => ?_⟩
    refine ⟨_, _, _, rfl, st_of hp, fun h => absurd h.2 (by decide), fun _ => ?_⟩
    refine ⟨_, _, _, rfl, st_of hp, fun h => absurd h.2 (by decide), fun _ => ?_⟩
    refine ⟨_, _, _, rfl, st_of hp, fun h => absurd h.2 (by decide), fun _ => ?_⟩
    refine ⟨_, _, _, rfl, st_of hp, fun h => absurd h.2 (by decide), fun _ => ?_⟩
    refine ⟨_, _, _, rfl, st_of hp, fun _ => ⟨_, _, rfl, _, _, rfl, _, _, rfl, rfl, ?_⟩, fun h => absurd ⟨rfl, by decide⟩ h⟩
    (repeat (first | (refine ⟨_, _, _, _, rfl, rfl, st_of hp, rfl, ?_⟩) | (refine ⟨_, rfl, ?_⟩) | (refine ⟨_, _, rfl, rfl, ?_⟩) | (refine ⟨⟨by decide, by decide⟩, ?_⟩) | (refine ⟨(by show (0 : Int) < _; decide), ?_⟩) | (refine ⟨rfl, ?_⟩) | (refine ⟨(by show _ ≠ (0 : Int); omega), ?_⟩) | (refine ⟨.inl ⟨by decide, by decide⟩, ?_⟩) | (refine ⟨(by assumption : CDivN _ _), ?_⟩) | (refine ite_y (by decide) ?_) | (refine ite_n (by decide) ?_) | (refine ite_y rfl ?_) | (refine ite_n Bool.false_ne_true ?_)))
    refine ⟨qa, ks.map V.int, rfl, .inl (st_of hq), ?_⟩
    (repeat (first | (refine ⟨_, _, _, _, rfl, rfl, st_of hp, rfl, ?_⟩) | (refine ⟨_, rfl, ?_⟩) | (refine ⟨_, _, rfl, rfl, ?_⟩) | (refine ⟨⟨by decide, by decide⟩, ?_⟩) | (refine ⟨(by show (0 : Int) < _; decide), ?_⟩) | (refine ⟨rfl, ?_⟩) | (refine ⟨(by show _ ≠ (0 : Int); omega), ?_⟩) | (refine ⟨.inl ⟨by decide, by decide⟩, ?_⟩) | (refine ⟨(by assumption : CDivN _ _), ?_⟩) | (refine ite_y (by decide) ?_) | (refine ite_n (by decide) ?_) | (refine ite_y rfl ?_) | (refine ite_n Bool.false_ne_true ?_)))
    refine ⟨by show (ks.map V.int ++ [V.int c]).length ≤ sizeLine; rw [List.length_append, List.length_map]; exact sz_of (by have := hok.2; simp only [List.length_cons, List.length_nil]; omega), fun l hl => ?_⟩
    (repeat (first | (refine ⟨_, _, _, _, rfl, rfl, st_of hp, rfl, ?_⟩) | (refine ⟨_, rfl, ?_⟩) | (refine ⟨_, _, rfl, rfl, ?_⟩) | (refine ⟨⟨by decide, by decide⟩, ?_⟩) | (refine ⟨(by show (0 : Int) < _; decide), ?_⟩) | (refine ⟨rfl, ?_⟩) | (refine ⟨(by show _ ≠ (0 : Int); omega), ?_⟩) | (refine ⟨.inl ⟨by decide, by decide⟩, ?_⟩) | (refine ⟨(by assumption : CDivN _ _), ?_⟩) | (refine ite_y (by decide) ?_) | (refine ite_n (by decide) ?_) | (refine ite_y rfl ?_) | (refine ite_n Bool.false_ne_true ?_)))
    have e := XT.of_ex (Ex.new (o := .lst (ks.map V.int ++ [V.int c])) hl)
    refine ⟨y, l, wl, v1, ks ++ [c], ws, rfl, hok.1, e.view v1 y hy, .inl (sq_of (by rw [upd_same, List.map_append]; rfl)), e.lst hwl, hws, e.tab _ hT, fun m hm H1 e1 => ?_, fun hn H1 e1 => Out.no q (e.trans e1) (by show (withW ws v1 (ks ++ [c])).bind _ = none; rw [hn]; rfl)⟩
    (repeat (first | (refine ⟨_, _, _, _, rfl, rfl, st_of hp, rfl, ?_⟩) | (refine ⟨_, rfl, ?_⟩) | (refine ⟨_, _, rfl, rfl, ?_⟩) | (refine ⟨⟨by decide, by decide⟩, ?_⟩) | (refine ⟨(by show (0 : Int) < _; decide), ?_⟩) | (refine ⟨rfl, ?_⟩) | (refine ⟨(by show _ ≠ (0 : Int); omega), ?_⟩) | (refine ⟨.inl ⟨by decide, by decide⟩, ?_⟩) | (refine ⟨(by assumption : CDivN _ _), ?_⟩) | (refine ite_y (by decide) ?_) | (refine ite_n (by decide) ?_) | (refine ite_y rfl ?_) | (refine ite_n Bool.false_ne_true ?_)))
    refine ⟨qa, ks.map V.int, rfl, .inr (st_of ((e.trans e1).tup hq)), ?_⟩
    rw [List.length_map]
    (repeat (first | (refine ⟨_, _, _, _, rfl, rfl, st_of hp, rfl, ?_⟩) | (refine ⟨_, rfl, ?_⟩) | (refine ⟨_, _, rfl, rfl, ?_⟩) | (refine ⟨⟨by decide, by decide⟩, ?_⟩) | (refine ⟨(by show (0 : Int) < _; decide), ?_⟩) | (refine ⟨rfl, ?_⟩) | (refine ⟨(by show _ ≠ (0 : Int); omega), ?_⟩) | (refine ⟨.inl ⟨by decide, by decide⟩, ?_⟩) | (refine ⟨(by assumption : CDivN _ _), ?_⟩) | (refine ite_y (by decide) ?_) | (refine ite_n (by decide) ?_) | (refine ite_y rfl ?_) | (refine ite_n Bool.false_ne_true ?_)))
    exact Out.yes q (e.trans e1) (by show (withW ws v1 (ks ++ [c])).bind _ = _; rw [hm]; rfl)
  | reach v1 =>
    obtain ⟨p, y, rfl, hp, hy⟩ := hv
    refine ⟨_, _, _, rfl, st_of hp, fun h => absurd h.2 (by decide), fun _ => ?_⟩
    refine ⟨_, _, _, rfl, st_of hp, fun h => absurd h.2 (by decide), fun _ => ?_⟩
    refine ⟨_, _, _, rfl, st_of hp, fun h => absurd h.2 (by decide), fun _ => ?_⟩
    refine ⟨_, _, _, rfl, st_of hp, fun h => absurd h.2 (by decide), fun _ => ?_⟩
    refine ⟨_, _, _, rfl, st_of hp, fun h => absurd h.2 (by decide), fun _ => ?_⟩
    refine ⟨_, _, _, rfl, st_of hp, fun h => absurd h.2 (by decide), fun _ => ?_⟩
    refine ⟨_, _, _, rfl, st_of hp, fun h => absurd h.2 (by decide), fun _ => ?_⟩
    refine ⟨_, _, _, rfl, st_of hp, fun _ => ⟨_, _, rfl, rfl, ?_⟩, fun h => absurd ⟨rfl, by decide⟩ h⟩
    (repeat (first | (refine ⟨_, _, _, _, rfl, rfl, st_of hp, rfl, ?_⟩) | (refine ⟨_, rfl, ?_⟩) | (refine ⟨_, _, rfl, rfl, ?_⟩) | (refine ⟨⟨by decide, by decide⟩, ?_⟩) | (refine ⟨(by show (0 : Int) < _; decide), ?_⟩) | (refine ⟨rfl, ?_⟩) | (refine ⟨(by show _ ≠ (0 : Int); omega), ?_⟩) | (refine ⟨.inl ⟨by decide, by decide⟩, ?_⟩) | (refine ⟨(by assumption : CDivN _ _), ?_⟩) | (refine ite_y (by decide) ?_) | (refine ite_n (by decide) ?_) | (refine ite_y rfl ?_) | (refine ite_n Bool.false_ne_true ?_)))
    exact ⟨y, wl, v1, ws, rfl, hok, hy, hwl, hws, hT, q⟩
  | odd o v1 v2 =>
    obtain ⟨p, y, z, rfl, hp, _, _, h4⟩ := hv
    have no : ∀ {k : Str}, k ∈ nine → ¬ decide (o = k) = true := fun hk => not_word h4 hk
    refine ⟨_, _, _, rfl, st_of hp, fun h => absurd h.2 (no (by decide)), fun _ => ?_⟩
    refine ⟨_, _, _, rfl, st_of hp, fun h => absurd h.2 (no (by decide)), fun _ => ?_⟩
    refine ⟨_, _, _, rfl, st_of hp, fun h => absurd h.2 (no (by decide)), fun _ => ?_⟩
    refine ⟨_, _, _, rfl, st_of hp, fun h => absurd h.2 (fun z => (Bool.or_eq_true_iff.mp z).elim (no (by decide)) (no (by decide))), fun _ => ?_⟩
    refine ⟨_, _, _, rfl, st_of hp, fun h => absurd h.2 (no (by decide)), fun _ => ?_⟩
    refine ⟨_, _, _, rfl, st_of hp, fun h => absurd h.2 (no (by decide)), fun _ => ?_⟩
    refine ⟨_, _, _, rfl, st_of hp, fun h => absurd h.2 (no (by decide)), fun _ => ?_⟩
    refine ⟨_, _, _, rfl, st_of hp, fun h => absurd h.2 (no (by decide)), fun _ => ?_⟩
    exact Out.no q (XT.refl H) rfl
/-! ### the width -/
theorem ok_wof1 {f f1 : Addr} {fd fd1 : FuncData} {M N : Nat} (A : FnAt K mg "width_of" swidth_of Pwidth_of f fd) (Atold : FnAt K mg "_told_width" s_told_width P_told_width f1 fd1) (R : Rs K mg C tk)
    (Gtold : FnOk P w K mg base (L2N.CX P w) M f1 fd1 P_told_width (spTold C P0 N)) : FnOk P w K mg base (L2N.CX P w) (M + 1) f fd Pwidth_of (spWof C P0 (N + 1)) := by
  refine okXN A.F scwidth_of (fun vs H Q E h => ?_) (fun cdv A' outer s H vs Q E hrT h => ?_)
  · obtain ⟨_, _, _, _, rfl, _⟩ := h
    rfl
  obtain ⟨x, wl, v, ws, rfl, hok, hv, hwl, hws, hT, q⟩ := h
  have ew := wide_told hws v
  refine ⟨_, (pss_cons (ps_set (i := 2) scwidth_of.nd rfl (.inl rfl) (pe_callS Gtold hrT rfl Atold.g Atold.F.kp Atold.b (fun σ => L2N.passAt (L2N.takes_of rfl rfl rfl rfl) σ) (pa_cons (pv 0) (pa_cons (pv 1) pa_nil))))
  (pss_cons (ps_if (pt_cmpR op_gt (pv 2) (pe_glob (v := .int 40) rfl R.wide ⟨_, rfl⟩) (nomark _)) (pss_one (L2N.ps_raise rfl (L2N.takes_of rfl rfl rfl rfl) (L2N.pmk_own PySem.F.excBase_ValueError R.x R.g R.k (raises_own R.b R.t) rfl))) pss_nil)
  (pss_one (ps_ret (pv 2))))), ?_⟩
  (repeat (first | (refine ⟨_, _, _, _, rfl, rfl, st_of hp, rfl, ?_⟩) | (refine ⟨_, rfl, ?_⟩) | (refine ⟨_, _, rfl, rfl, ?_⟩) | (refine ⟨⟨by decide, by decide⟩, ?_⟩) | (refine ⟨(by show (0 : Int) < _; decide), ?_⟩) | (refine ⟨rfl, ?_⟩) | (refine ⟨(by show _ ≠ (0 : Int); omega), ?_⟩) | (refine ⟨.inl ⟨by decide, by decide⟩, ?_⟩) | (refine ⟨(by assumption : CDivN _ _), ?_⟩) | (refine ite_y (by decide) ?_) | (refine ite_n (by decide) ?_) | (refine ite_y rfl ?_) | (refine ite_n Bool.false_ne_true ?_)))
  refine ⟨x, wl, v, ws, rfl, hok, hv, hwl, hws, hT, fun m hm H1 e1 => ?_, fun hn H1 e1 => Out.no q e1 (by rw [ew, hn]; rfl)⟩
  (repeat (first | (refine ⟨_, _, _, _, rfl, rfl, st_of hp, rfl, ?_⟩) | (refine ⟨_, rfl, ?_⟩) | (refine ⟨_, _, rfl, rfl, ?_⟩) | (refine ⟨⟨by decide, by decide⟩, ?_⟩) | (refine ⟨(by show (0 : Int) < _; decide), ?_⟩) | (refine ⟨rfl, ?_⟩) | (refine ⟨(by show _ ≠ (0 : Int); omega), ?_⟩) | (refine ⟨.inl ⟨by decide, by decide⟩, ?_⟩) | (refine ⟨(by assumption : CDivN _ _), ?_⟩) | (refine ite_y (by decide) ?_) | (refine ite_n (by decide) ?_) | (refine ite_y rfl ?_) | (refine ite_n Bool.false_ne_true ?_)))
  refine ite2 (fun hd => ?_) (fun hd => ?_)
  · have : 40 < m := of_decide_eq_true hd
    exact Out.no q e1 (by rw [ew, hm]; exact if_neg (by omega))
  · have : ¬ 40 < m := fun z => hd (decide_eq_true z)
    exact ⟨_, rfl, Out.yes q e1 (by rw [ew, hm]; exact if_pos (by omega))⟩
theorem ok_wof {f f1 f2 f3 f4 f5 f6 f7 f8 f9 : Addr} {fd fd1 fd2 fd3 fd4 fd5 fd6 fd7 fd8 fd9 : FuncData} (A : FnAt K mg "width_of" swidth_of Pwidth_of f fd) (Atold : FnAt K mg "_told_width" s_told_width P_told_width f1 fd1) (Atab : FnAt K mg "_table_width" s_table_width P_table_width f2 fd2) (Awith : FnAt K mg "_width_with" s_width_with P_width_with f3 fd3)
    (Acolw : FnAt K mg "_columns_width" s_columns_width P_columns_width f4 fd4) (Alike : FnAt K mg "_like_width" s_like_width P_like_width f5 fd5) (Ameet : FnAt K mg "_meet_width" s_meet_width P_meet_width f6 fd6) (Areach : FnAt K mg "_reach_width" s_reach_width P_reach_width f7 fd7) (Acheck : FnAt K mg "_check_columns" s_check_columns P_check_columns f8 fd8)
    (Atwo2 : FnAt K mg "_two_widths" s_two_widths P_two_widths f9 fd9) (B : Bt mg) (R : Rs K mg C tk) (Gcheck : FnOk P w K mg base (L2N.CX P w) 1 f8 fd8 P_check_columns (spCheck K C P0)) : ∀ N : Nat, N ≤ 40 → FnOk P w K mg base (L2N.CX P w) (4 * N + 1) f fd Pwidth_of (spWof C P0 N)
  | 0, _ => by
    refine okXN (k := 0) A.F scwidth_of (fun vs H Q E h => ?_) (fun cdv A' outer s H vs Q E hr h => ?_)
    · obtain ⟨_, _, _, _, _, h, _⟩ := h
      exact h.elim
    · obtain ⟨_, _, _, _, _, h, _⟩ := h
      exact h.elim
  | N + 1, hN => by
    have Gw := ok_wof A Atold Atab Awith Acolw Alike Ameet Areach Acheck Atwo2 B R Gcheck N (by omega)
    have G1 := ok_with (M := 4 * N + 1) Awith A Acheck (by omega) Gw Gcheck R
    have G2 := ok_colw Acolw Awith B G1 R
    have G3 := ok_two2 Atwo2 A (by omega) Gw R
    have G4 := ok_like Alike Atwo2 G3 R
    have G5 := ok_meet Ameet Atwo2 Acheck (by omega) G3 Gcheck R
    have G6 := ok_reach Areach A Gw R
    have G7 := ok_told Atold A Atab Awith Acolw Alike Ameet Areach B R Gw (ok_tab (k := 0) Atab B R) G1 G2 G4 G5 G6
    exact ok_wof1 A Atold R G7
end
end K08

namespace K08
open PySem PySem.Spec PyProof.Rows L2 Evl KB KH KS
/-! ### heaps whose counts are above nought -/
def Clean (L : Rows) : Prop := (L.map (·.1)).Nodup ∧ ∀ p ∈ L, 0 < p.2
theorem valI_mem {L : Rows} {n : List Int} {c : Int} (h : valI L n = some c) : (n, c) ∈ L := by
  induction L with
  | nil => cases h
  | cons p r ih =>
    unfold valI at h
    by_cases e : p.1 = n
    · rw [if_pos e] at h
      cases h
      rw [← e]
      exact List.mem_cons_self
    · rw [if_neg e] at h
      exact List.mem_cons_of_mem _ (ih h)
theorem valI_none {L : Rows} {n : List Int} (h : n ∉ L.map (·.1)) : valI L n = none := by
  cases e : valI L n with
  | none => rfl
  | some c => exact (h (List.mem_map.mpr ⟨_, valI_mem e, rfl⟩)).elim
theorem put_mem {L : Rows} {n : List Int} {c : Int} {p : List Int × Int} (h : p ∈ putI L n c) : p = (n, c) ∨ p ∈ L := by
  unfold putI at h
  by_cases hh : hasI L n = true
  · rw [if_pos hh] at h
    obtain ⟨z, hz, e⟩ := List.mem_map.mp h
    by_cases e1 : z.1 = n
    · rw [if_pos e1] at e
      exact .inl (by rw [← e, e1])
    · rw [if_neg e1] at e
      exact .inr (by rw [← e]; exact hz)
  · rw [if_neg hh] at h
    rcases List.mem_append.mp h with z | z
    · exact .inr z
    · exact .inl (List.mem_singleton.mp z)
theorem put_clean {L : Rows} {n : List Int} {c : Int} (h : Clean L) (hc : 0 < c) : Clean (putI L n c) := ⟨put_keys h.1, fun p hp => (put_mem hp).elim (fun z => by rw [z]; exact hc) fun z => h.2 p z⟩
theorem plus_pos {L : Rows} {n : List Int} {c : Int} (h : Clean L) (hc : 0 < c) : 0 < (valI L n).getD 0 + c := by
  cases e : valI L n with
  | none => show 0 < 0 + c; omega
  | some x =>
    have : 0 < x := h.2 _ (valI_mem e)
    show 0 < x + c
    omega
def addI (L : Rows) (z : List Int × Int) : Rows := putI L z.1 ((valI L z.1).getD 0 + z.2)
theorem sum_foldl : ∀ (ps : Rows) (L : Rows), Clean L → (∀ p ∈ ps, 0 < p.2) → Clean (ps.foldl addI L)
  | [], L, h, _ => h
  | z :: r, L, h, hp => sum_foldl r _ (put_clean h (plus_pos h (hp z List.mem_cons_self))) fun p q => hp p (List.mem_cons_of_mem _ q)
theorem clean_nil : Clean [] := ⟨List.nodup_nil, fun p h => nomatch h⟩
theorem sum_clean {ps : Rows} (h : ∀ p ∈ ps, 0 < p.2) : Clean (sumL ps) := sum_foldl ps [] clean_nil h
theorem sum_self : ∀ (M L : Rows), ((L ++ M).map (·.1)).Nodup → M.foldl addI L = L ++ M
  | [], L, _ => (List.append_nil L).symm
  | z :: r, L, nd => by
    have nz : z.1 ∉ L.map (·.1) := fun h => by
      rw [List.map_append, List.nodup_append] at nd
      exact nd.2.2 _ h _ (List.mem_map.mpr ⟨z, List.mem_cons_self, rfl⟩) rfl
    show r.foldl addI (addI L z) = _
    have e : addI L z = L ++ [z] := by
      unfold addI
      rw [valI_none nz, put_new nz]
      show L ++ [(z.1, 0 + z.2)] = L ++ [z]
      rw [Int.zero_add]
    rw [e, sum_self r (L ++ [z]) (by rw [List.append_assoc]; exact nd), List.append_assoc]
    rfl
theorem sum_id {L : Rows} (h : (L.map (·.1)).Nodup) : sumL L = L := by
  have := sum_self L [] h
  rwa [List.nil_append] at this
theorem pick_all {f : List Int × Int → Option Int} {g : List Int × Int → Int} : ∀ {L : Rows}, (∀ p ∈ L, f p = some (g p)) → pick f L = L.map fun p => (p.1, g p)
  | [], _ => rfl
  | p :: r, h => by
    unfold pick
    rw [List.filterMap_cons, h p List.mem_cons_self, List.map_cons]
    show (p.1, g p) :: pick f r = _
    rw [pick_all fun q hq => h q (List.mem_cons_of_mem _ hq)]
theorem pick_id {L : Rows} (h : ∀ p ∈ L, p.2 ≠ 0) : pick (fun p => if p.2 ≠ 0 then some p.2 else none) L = L := by
  rw [pick_all (g := fun p => p.2) fun p hp => if_pos (h p hp)]
  conv => rhs; rw [← List.map_id L]
  rfl
theorem heaped_pos {ps : Rows} (h : ∀ p ∈ ps, 0 < p.2) : heapedL ps = sumL ps := pick_id fun p hp => by have := (sum_clean h).2 p hp; omega
theorem heaped_id {L : Rows} (h : Clean L) : heapedL L = L := by rw [heaped_pos h.2, sum_id h.1]
theorem heaped_keys (ps : Rows) : ((heapedL ps).map (·.1)).Nodup := by
  have k : ∀ (f : List Int × Int → Option Int) (L : Rows), (L.map (·.1)).Nodup → ((pick f L).map (·.1)).Nodup := by
    intro f L
    induction L with
    | nil => intro _; exact List.nodup_nil
    | cons p r ih =>
      intro nd
      rw [List.map_cons, List.nodup_cons] at nd
      have h := ih nd.2
      unfold pick
      rw [List.filterMap_cons]
      cases e : f p with
      | none => exact h
      | some c =>
        show (p.1 :: (pick f r).map (·.1)).Nodup
        exact List.nodup_cons.mpr ⟨fun z => nd.1 (pick_keys z), h⟩
  exact k _ _ (sum_ok ps).1
theorem heaped_len (ps : Rows) : (heapedL ps).length ≤ ps.length := Nat.le_trans (pick_len _) (sum_ok ps).2
theorem added_one {L : Rows} {n : List Int} {c : Int} (h : Clean L) (hc : 0 < c) : addedL L (heapedL [(n, c)]) = putI L n ((valI L n).getD 0 + c) := by
  have one : Clean [(n, c)] := ⟨List.nodup_cons.mpr ⟨by simp, List.nodup_nil⟩, fun p hp => by rw [List.mem_singleton.mp hp]; exact hc⟩
  unfold addedL
  rw [heaped_id one, heaped_pos fun p hp => (List.mem_append.mp hp).elim (h.2 p) (one.2 p)]
  show (L ++ [(n, c)]).foldl addI [] = _
  rw [List.foldl_append]
  show addI (L.foldl addI []) (n, c) = _
  rw [show L.foldl addI [] = L from sum_id h.1]
  rfl
theorem once_all {L : Rows} (h : Clean L) : onceL L = L.map fun p => (p.1, 1) := pick_all fun p hp => if_pos (h.2 p hp)
theorem once_clean {L : Rows} (h : Clean L) : Clean (L.map fun p => (p.1, (1 : Int))) := ⟨by rw [List.map_map]; exact h.1, fun p hp => by obtain ⟨z, _, e⟩ := List.mem_map.mp hp; rw [← e]; exact Int.one_pos⟩
theorem col_pos {L : Rows} {c : Int} (h : Clean L) : ∀ p ∈ L.map (colF c), 0 < p.2 := fun p hp => by
  obtain ⟨z, hz, e⟩ := List.mem_map.mp hp
  rw [← e]
  exact h.2 z hz
/-! ### what a view answers -/
def tabL (Ls : List Rows) (t : Int) : Rows := Ls.getD t.toNat []
def ansL (Ls : List Rows) : View → Rows
  | .table t => tabL Ls t
  | .once (.table t) => (tabL Ls t).map fun p => (p.1, 1)
  | .columns (.table t) [c] => sumL ((tabL Ls t).map (colF c))
  | _ => []
def GoodV (n : Nat) (W : Int → Int) : View → Prop
  | .table t => 0 ≤ t ∧ t < n
  | .once (.table t) => 0 ≤ t ∧ t < n
  | .columns (.table t) [c] => (0 ≤ t ∧ t < n) ∧ 0 ≤ c ∧ c < W t
  | _ => False
/-- rows as wide as W says, counts above nought, few -/
def Tabs (W : Int → Int) (Ls : List Rows) : Prop := ∀ t : Int, 0 ≤ t → t < Ls.length → Clean (tabL Ls t) ∧ (tabL Ls t).length ≤ 20 ∧ ∀ p ∈ tabL Ls t, (p.1.length : Int) = W t
theorem ans_ok {W : Int → Int} {Ls : List Rows} (T : Tabs W Ls) : ∀ v : View, GoodV Ls.length W v → Clean (ansL Ls v) ∧ (ansL Ls v).length ≤ 20 := by
  intro v g
  cases v with
  | table t =>
    obtain ⟨a, b, _⟩ := T t g.1 g.2
    exact ⟨a, b⟩
  | once v1 =>
    cases v1 with
    | table t =>
      obtain ⟨a, b, _⟩ := T t g.1 g.2
      exact ⟨once_clean a, by show ((tabL Ls t).map _).length ≤ 20; rw [List.length_map]; exact b⟩
    | _ => exact g.elim
  | columns v1 cs =>
    cases v1 with
    | table t =>
      match cs, g with
      | [c], g =>
        obtain ⟨a, b, _⟩ := T t g.1.1 g.1.2
        refine ⟨sum_clean (col_pos a), Nat.le_trans (sum_ok _).2 ?_⟩
        rw [List.length_map]
        exact b
    | _ => cases cs with
      | nil => exact g.elim
      | cons => exact g.elim
  | _ => exact g.elim
def HeapsAt (H : Hp) (hl : Addr) (has : List Addr) (Ls : List Rows) : Prop := H hl = some (.lst (has.map V.ref)) ∧ Paired (HeapAt H) has Ls
theorem heaps_at {H : Hp} {hl : Addr} {has : List Addr} {Ls : List Rows} (h : HeapsAt H hl has Ls) {t : Int} (h0 : 0 ≤ t) (h1 : t < Ls.length) : ∃ d, atI (has.map V.ref) t = some (.ref d) ∧ has[t.toNat]? = some d ∧ HeapAt H d (tabL Ls t) := by
  have lt : t.toNat < has.length := by rw [Paired.length h.2]; omega
  obtain ⟨L, hL, hd⟩ := KD.paired_at h.2 (List.getElem?_eq_getElem lt)
  refine ⟨has[t.toNat], ?_, List.getElem?_eq_getElem lt, ?_⟩
  · have := atI_nat (xs := has.map V.ref) (j := t.toNat) (v := V.ref has[t.toNat]) (by rw [List.getElem?_map, List.getElem?_eq_getElem lt]; rfl)
    rwa [show ((t.toNat : Nat) : Int) = t by omega] at this
  · unfold tabL
    rw [List.getD_eq_getElem?_getD, hL]
    exact hd
section
variable {P : Program} {w : World} {K : PySem.W.Frag} {mg : Str → Option Value} {base : Heap} {σ : L2.St} {H H' : Hp}
def spAns (good : View → Prop) : Sp := fun vs H Q _ => ∃ (x : V) (hl : Addr) (has : List Addr) (v : View) (Ls : List Rows) (W : Int → Int), vs = [x, .ref hl] ∧ good v ∧ GoodV Ls.length W v ∧ VAt H v x ∧ HeapsAt H hl has Ls ∧ Tabs W Ls ∧ ∀ H' d, Ex H H' → H d = none → HeapAt H' d (ansL Ls v) → Q (.ref d) H'
theorem heaps_ex {H H' : Hp} {hl : Addr} {has : List Addr} {Ls : List Rows} (e : Ex H H') (h : HeapsAt H hl has Ls) : HeapsAt H' hl has Ls := ⟨e _ _ h.1, L2.Paired.mapP h.2 fun _ _ z => e _ _ z⟩
def isTab : View → Prop
  | .table _ => True
  | _ => False
theorem ok_ansN {f f1 f2 f3 f4 : Addr} {fd fd1 fd2 fd3 fd4 : FuncData} {k : Nat} {good : View → Prop} {inner : View → Prop} (A : FnAt K mg "answered" sanswered Panswered f fd) (Aadded : FnAt K mg "added" sadded Padded f1 fd1) (Aheaped : FnAt K mg "heaped" sheaped Pheaped f2 fd2) (Aonce : FnAt K mg "once" sonce Ponce f3 fd3) (Acolumns : FnAt K mg "columns" scolumns Pcolumns f4 fd4)
    {f5 : Addr} {fd5 : FuncData} (Apicked : FnAt K mg "_picked_numbers" s_picked_numbers P_picked_numbers f5 fd5) (B : B8 mg) (hk : 2 ≤ k) (Gans : FnOk P w K mg base CX0 k f fd Panswered (spAns inner)) (hin : ∀ (n : Nat) (W : Int → Int) (v : View), good v → GoodV n W v → match v with | .table _ => True | .once v => inner v | .columns v _ => inner v | _ => True) : FnOk P w K mg base CX0 (k + 1) f fd Panswered (spAns good) := by
  have Aans := A
  refine A.F.ok scanswered (fun vs H Q E h => ?_) (fun cdv A' outer s H vs Q E hr h => ?_)
  · obtain ⟨_, _, _, _, _, _, rfl, _⟩ := h
    rfl
  obtain ⟨x, hl, has, v, Ls, W, rfl, gd, g, hv, hh, T, q⟩ := h
  have hr2 : Room 2 _ := hr.mono hk
  have hr1 : Room 1 _ := hr.mono (by omega)
  have hrA : Room k _ := hr
  have Gadded : FnOk P w K mg base CX0 2 f1 fd1 Padded (spAdded) := ok_added (k := 0) Aadded Aheaped B
  have Gonce : FnOk P w K mg base CX0 1 f3 fd3 Ponce spOnce := ok_once Aonce
  have Gcolumns : FnOk P w K mg base CX0 2 f4 fd4 Pcolumns spColumns := ok_columns (k := 0) Acolumns Aheaped Apicked B
  have hi := hin _ _ v gd g
  refine ⟨_, (pss_one (KM.ps_match (pv 0) (KM.pm_seq (n := 1) rfl scanswered.nd KM.pp_str (KM.Caps.name (i := 2) rfl (.inl rfl) (.inl rfl) KM.Caps.nil) (pss_one (ps_ret (pe_call Gadded hr2 (by rfl) Aadded.g Aadded.F.kp Aadded.b .nil pass0 (pa_cons (pe_ix (r := rIxL K) ix_list (pv 1) (pv 2) (fun _ _ => rfl)) (pa_cons pe_dnewT pa_nil)))))
    (KM.pm_seq (n := 4) rfl scanswered.nd KM.pp_str (KM.Caps.name (i := 3) rfl (.inl rfl) (.inl rfl) (KM.Caps.name (i := 4) rfl (.inl rfl) (.inl rfl) (KM.Caps.name (i := 5) rfl (.inl rfl) (.inl rfl) (KM.Caps.name (i := 6) rfl (.inl rfl) (.inl rfl) KM.Caps.nil)))) pss_never
    (KM.pm_seq (n := 2) rfl scanswered.nd KM.pp_str (KM.Caps.name (i := 3) rfl (.inl rfl) (.inl rfl) (KM.Caps.name (i := 7) rfl (.inl rfl) (.inl rfl) KM.Caps.nil)) (pss_one (ps_ret (pe_call Gcolumns hr2 (by rfl) Acolumns.g Acolumns.F.kp Acolumns.b .nil pass0 (pa_cons (pe_call Gans hrA (by rfl) Aans.g Aans.F.kp Aans.b .nil pass0 (pa_cons (pv 3) (pa_cons (pv 1) pa_nil))) (pa_cons (pv 7) pa_nil)))))
    (KM.pm_seq (n := 2) rfl scanswered.nd KM.pp_str (KM.Caps.name (i := 8) rfl (.inl rfl) (.inl rfl) (KM.Caps.name (i := 9) rfl (.inl rfl) (.inl rfl) KM.Caps.nil)) pss_never
    (KM.pm_seq (n := 2) rfl scanswered.nd KM.pp_str (KM.Caps.name (i := 8) rfl (.inl rfl) (.inl rfl) (KM.Caps.name (i := 9) rfl (.inl rfl) (.inl rfl) KM.Caps.nil)) pss_never
    (KM.pm_seq (n := 3) rfl scanswered.nd KM.pp_str (KM.Caps.name (i := 8) rfl (.inl rfl) (.inl rfl) (KM.Caps.name (i := 9) rfl (.inl rfl) (.inl rfl) (KM.Caps.name (i := 12) rfl (.inl rfl) (.inl rfl) KM.Caps.nil))) pss_never
    (KM.pm_seq (n := 1) rfl scanswered.nd KM.pp_str (KM.Caps.name (i := 3) rfl (.inl rfl) (.inl rfl) KM.Caps.nil) (pss_one (ps_ret (pe_call Gonce hr1 (by rfl) Aonce.g Aonce.F.kp Aonce.b .nil pass0 (pa_cons (pe_call Gans hrA (by rfl) Aans.g Aans.F.kp Aans.b .nil pass0 (pa_cons (pv 3) (pa_cons (pv 1) pa_nil))) pa_nil))))
    (KM.pm_seq (n := 3) rfl scanswered.nd KM.pp_str (KM.Caps.name (i := 3) rfl (.inl rfl) (.inl rfl) (KM.Caps.name (i := 13) rfl (.inl rfl) (.inl rfl) (KM.Caps.name (i := 4) rfl (.inl rfl) (.inl rfl) KM.Caps.nil))) pss_never
    (KM.pm_seq (n := 1) rfl scanswered.nd KM.pp_str (KM.Caps.name (i := 3) rfl (.inl rfl) (.inl rfl) KM.Caps.nil) pss_never
    (KM.pm_any pss_never)))))))))))), ?_⟩
  refine ⟨_, rfl, ?_⟩
  cases v with
  | table t =>
    obtain ⟨p, rfl, hp⟩ := hv
    obtain ⟨d, ha, _, hd⟩ := heaps_at hh g.1 g.2
    obtain ⟨cl, len, _⟩ := T t g.1 g.2
    refine ⟨_, _, _, rfl, st_of hp, fun _ => ⟨_, _, rfl, rfl, ?_⟩, fun h => absurd ⟨rfl, by decide⟩ h⟩
    refine ⟨_, rfl, _, rfl, hl, has.map V.ref, t, _, rfl, rfl, sq_of hh.1, ha, fun o ho => ?_⟩
    have e := Ex.new (o := .dT []) ho
    refine ⟨d, o, tabL Ls t, [], rfl, e _ _ hd, upd_same, by omega, by show 0 ≤ 400; omega, fun H' d' e' hd' h' => q H' d' (e.trans e') (fresh_back e hd') ?_⟩
    have : addedL (tabL Ls t) [] = tabL Ls t := by unfold addedL; rw [List.append_nil, heaped_id cl]
    rw [this] at h'
    exact h'
  | once v1 =>
    obtain ⟨p, y, rfl, hp, hy⟩ := hv
    have g1 : GoodV Ls.length W v1 := by cases v1 <;> first | exact g | exact g.elim
    obtain ⟨cl, len⟩ := ans_ok T v1 g1
    have ea : onceL (ansL Ls v1) = ansL Ls (.once v1) := by
      cases v1 with
      | table t => exact once_all cl
      | _ => exact g.elim
    refine ⟨_, _, _, rfl, st_of hp, fun h => absurd h.2 (by decide), fun _ => ?_⟩
    refine ⟨_, _, _, rfl, st_of hp, fun h => absurd h.2 (by decide), fun _ => ?_⟩
    refine ⟨_, _, _, rfl, st_of hp, fun h => absurd h.2 (by decide), fun _ => ?_⟩
    refine ⟨_, _, _, rfl, st_of hp, fun h => absurd h.2 (by decide), fun _ => ?_⟩
    refine ⟨_, _, _, rfl, st_of hp, fun h => absurd h.2 (by decide), fun _ => ?_⟩
    refine ⟨_, _, _, rfl, st_of hp, fun h => absurd h.2 (by decide), fun _ => ?_⟩
    refine ⟨_, _, _, rfl, st_of hp, fun _ => ⟨_, _, rfl, rfl, ?_⟩, fun h => absurd ⟨rfl, by decide⟩ h⟩
    refine ⟨_, rfl, _, rfl, y, hl, has, v1, Ls, W, rfl, hi, g1, hy, hh, T, fun H1 d e1 hd h1 => ?_⟩
    exact ⟨d, _, rfl, h1, cl.1, by omega, fun H' d' e' hd' h' => q H' d' (e1.trans e') (fresh_back e1 hd') (by rw [← ea]; exact h')⟩
  | columns v1 cs =>
    obtain ⟨p, y, qa, rfl, hp, hy, hq⟩ := hv
    obtain ⟨c, t, rfl, rfl⟩ : ∃ c t, cs = [c] ∧ v1 = .table t := by
      match v1, cs, g with
      | .table t, [c], _ => exact ⟨c, t, rfl, rfl⟩
    obtain ⟨cl, len, wid⟩ := T t g.1.1 g.1.2
    refine ⟨_, _, _, rfl, st_of hp, fun h => absurd h.2 (by decide), fun _ => ?_⟩
    refine ⟨_, _, _, rfl, st_of hp, fun h => absurd h.2 (by decide), fun _ => ?_⟩
    refine ⟨_, _, _, rfl, st_of hp, fun _ => ⟨_, _, rfl, _, _, rfl, rfl, ?_⟩, fun h => absurd ⟨rfl, by decide⟩ h⟩
    refine ⟨_, rfl, _, rfl, y, hl, has, .table t, Ls, W, rfl, hi, g.1, hy, hh, T, fun H1 d e1 hd h1 => ?_⟩
    refine ⟨_, rfl, d, qa, tabL Ls t, c, rfl, h1, by omega, e1 _ _ hq, g.2.1, fun p hp => by rw [wid p hp]; exact g.2.2, fun H' d' e' hd' h' => q H' d' (e1.trans e') (fresh_back e1 hd') ?_⟩
    rw [heaped_pos (col_pos cl)] at h'
    exact h'
  | _ => exact g.elim
theorem ok_ans {f f1 f2 f3 f4 : Addr} {fd fd1 fd2 fd3 fd4 : FuncData} (A : FnAt K mg "answered" sanswered Panswered f fd) (Aadded : FnAt K mg "added" sadded Padded f1 fd1) (Aheaped : FnAt K mg "heaped" sheaped Pheaped f2 fd2) (Aonce : FnAt K mg "once" sonce Ponce f3 fd3) (Acolumns : FnAt K mg "columns" scolumns Pcolumns f4 fd4)
    {f5 : Addr} {fd5 : FuncData} (Apicked : FnAt K mg "_picked_numbers" s_picked_numbers P_picked_numbers f5 fd5) (B : B8 mg) : FnOk P w K mg base CX0 4 f fd Panswered (spAns fun _ => True) := by
  have G0 : FnOk P w K mg base CX0 2 f fd Panswered (spAns fun _ => False) := by
    refine A.F.ok (k := 1) scanswered (fun vs H Q E h => ?_) (fun cdv A' outer s H vs Q E hr h => ?_)
    · obtain ⟨_, _, _, _, _, _, rfl, _⟩ := h
      rfl
    · obtain ⟨_, _, _, _, _, _, _, h, _⟩ := h
      exact h.elim
  have G1 := ok_ansN (good := isTab) (inner := fun _ => False) A Aadded Aheaped Aonce Acolumns Apicked B (by omega) G0 (fun n W v h _ => by cases v <;> first | exact trivial | exact h)
  exact ok_ansN (good := fun v => True) (inner := isTab) A Aadded Aheaped Aonce Acolumns Apicked B (by omega) G1 (fun n W v _ h => by
    match v, h with
    | .table t, _ => exact trivial
    | .once (.table t), _ => exact trivial
    | .columns (.table t) [c], _ => exact trivial)
end
end K08

namespace K08
open PySem PySem.Spec PyProof.Rows L2 Evl KB KH KS
/-! ### the keeper -/
/-- the class: its facts -/
structure ClsF (K : PySem.W.Frag) (C : Addr) : Prop where
  cl : Cls K C
  nw : NoAttr K C "_widths"
  nh : NoAttr K C "_heaps"
  nv : NoAttr K C "_views"
  na : NoAttr K C "_answers"
abbrev Flds (wl hl vl al : Addr) : List (Str × V) := [("_widths", .ref wl), ("_heaps", .ref hl), ("_views", .ref vl), ("_answers", .ref al)]
structure KAt (C : Addr) (H : Hp) (k wl hl vl al : Addr) (ws : List Int) (has : List Addr) (Ls : List Rows) (vxs : List V) (vs : List View) (aas : List Addr) (As : List Rows) : Prop where
  ins : ∃ dx, H k = some (.ins C dx (Flds wl hl vl al))
  w : H wl = some (.lst (ws.map V.int))
  h : HeapsAt H hl has Ls
  v : H vl = some (.lst vxs)
  vw : Paired (fun x v => VAt H v x) vxs vs
  a : HeapsAt H al aas As
  la : As.length = vs.length
  n1 : hl ≠ al
  n2 : hl ≠ vl
  n3 : vl ≠ al
  n4 : wl ≠ hl
  n5 : wl ≠ vl
  n6 : wl ≠ al
section
variable {P : Program} {w : World} {K : PySem.W.Frag} {mg : Str → Option Value} {base : Heap} {σ : L2.St} {H H' : Hp} {C : Addr} {k wl hl vl al : Addr} {ws : List Int} {has : List Addr} {Ls : List Rows} {vxs : List V} {vs : List View} {aas : List Addr} {As : List Rows}
theorem KAt.keep (e : XT H H') (h : KAt C H k wl hl vl al ws has Ls vxs vs aas As) : KAt C H' k wl hl vl al ws has Ls vxs vs aas As where
  ins := let ⟨dx, z⟩ := h.ins; ⟨dx, e.at_ _ _ (fun _ z => nomatch z) z⟩
  w := e.lst h.w
  h := ⟨e.lst h.h.1, L2.Paired.mapP h.h.2 fun _ _ z => e.at_ _ _ (fun _ z => nomatch z) z⟩
  v := e.lst h.v
  vw := L2.Paired.mapP h.vw fun _ _ z => e.view _ _ z
  a := ⟨e.lst h.a.1, L2.Paired.mapP h.a.2 fun _ _ z => e.at_ _ _ (fun _ z => nomatch z) z⟩
  la := h.la
  n1 := h.n1
  n2 := h.n2
  n3 := h.n3
  n4 := h.n4
  n5 := h.n5
  n6 := h.n6
/-! made -/
def spInit (C : Addr) : Sp := fun xs H Q _ => ∃ (x wl0 dx : Addr) (ws : List Int), xs = [.ref x, .ref wl0] ∧ H x = some (.ins C dx []) ∧ H wl0 = some (.lst (ws.map V.int)) ∧ ws.length ≤ 100 ∧
  ∀ (H' : Hp) (wl hl vl al : Addr) (has : List Addr), (∀ a o, a ≠ x → H a = some o → H' a = some o) → KAt C H' x wl hl vl al ws has (List.replicate ws.length []) [] [] [] [] → (∀ d ∈ has, H d = none) → H hl = none → H vl = none → H al = none → Q .non H'
theorem heaps_rep {H : Hp} : ∀ {has : List Addr} {n : Nat}, has.length = n → (∀ d ∈ has, H d = some (.dT [])) → Paired (HeapAt H) has (List.replicate n [])
  | [], _, rfl, _ => .nil
  | d :: r, _, rfl, h => .cons (h d List.mem_cons_self) (heaps_rep rfl fun z hz => h z (List.mem_cons_of_mem _ hz))
/-- all but x stays -/
def Off (x : Addr) (H G : Hp) : Prop := ∀ a o, a ≠ x → H a = some o → G a = some o
theorem Off.ex {x : Addr} {H G G' : Hp} (h : Off x H G) (e : Ex G G') : Off x H G' := fun a o n z => e _ _ (h a o n z)
theorem Off.of {x : Addr} {H G : Hp} (e : Ex H G) : Off x H G := fun a o _ z => e _ _ z
theorem Off.set {x : Addr} {H G : Hp} {o : HO} (h : Off x H G) : Off x H (upd G x o) := fun a u n z => by rw [upd_ne n]; exact h a u n z
theorem Off.self {x : Addr} {G : Hp} {o : HO} : Off x G (upd G x o) := fun a u n z => by rw [upd_ne n]; exact z
theorem Off.trans {x : Addr} {H G G' : Hp} (h : Off x H G) (e : Off x G G') : Off x H G' := fun a o n z => e a o n (h a o n z)
theorem Off.none {x a : Addr} {H G : Hp} {u : HO} (h : Off x H G) (hx : G x = some u) (e : G a = none) : H a = none := by
  cases z : H a with
  | none => rfl
  | some o =>
    have n : a ≠ x := fun y => by rw [y, hx] at e; cases e
    rw [h a o n z] at e
    cases e
theorem w_fld {te ta : TE} {f : Str} {tz : TS} {D : Ends} {σ : L2.St} {H : Hp} (h : te σ H fun y H1 => ta σ H1 fun x H2 => ∃ a C dx fs, x = .ref a ∧ H2 a = some (.ins C dx fs) ∧ Cls K C ∧ NoAttr K C f ∧ fs.length < 1000 ∧ tz D σ (upd H2 a (.ins C dx (putF f y fs)))) : tSeq (sFld K ta te f) tz D σ H := h
theorem ok_init {f : Addr} {fd : FuncData} {k : Nat} (A : MtAt K C "__init__" "Keeper.__init__" sM__init__ PM__init__ f fd) (Z : ClsF K C) (B : B8 mg) : FnOk P w K mg base CX0 (k + 1) f fd PM__init__ (spInit C) := by
  refine A.F.ok scM__init__ (fun vs H Q E h => ?_) (fun cdv A' outer s H vs Q E hr h => ?_)
  · obtain ⟨_, _, _, _, rfl, _⟩ := h
    rfl
  obtain ⟨x, wl0, dx, ws, rfl, hx, hw, hl, q⟩ := h
  refine ⟨_, (pss_cons (ps_fld (pv 0) (pe_callTy call_list_of (by rfl) B.list (by decide +kernel) (pa_cons (pv 1) pa_nil)) rfl)
  (pss_cons (ps_fld (pv 0) (pe_lc (own := [("_", 2)]) (g := gName 2) (tt := tYes) rfl scM__init__.nd (pi_list (pv 1)) (blkOk_by (N := NM__init__) (sc := defScope sM__init__) (by decide +kernel)) (fun _ _ _ _ _ => pg_name (i := 2) scM__init__.nd rfl (.inl rfl)) (fun _ _ _ _ _ => pts_nil) (fun _ _ _ _ _ => pe_dnewT)) rfl)
  (pss_cons (ps_fld (pv 0) (pe_lst pa_nil) rfl)
  (pss_one (ps_fld (pv 0) (pe_lst pa_nil) rfl))))), ?_⟩
  refine ⟨_, rfl, wl0, _, rfl, .inl (sq_of hw), fun w1 n1 => ?_⟩
  have e1 := Ex.new (o := .lst (ws.map V.int)) n1
  have x1 : x ≠ w1 := ne_of_none hx n1
  have x0 : wl0 ≠ x := fun z => by rw [z, hx] at hw; cases hw
  refine ⟨_, rfl, x, C, dx, [], rfl, e1 _ _ hx, Z.cl, Z.nw, (by show 0 < 1000; omega), ?_⟩
  rw [show putF ("_widths" : Str) (V.ref w1) ([] : List (Str × V)) = [(("_widths" : Str), V.ref w1)] from rfl]
  have o1 : Off x H (upd (upd H w1 (.lst (ws.map V.int))) x (.ins C dx [("_widths", .ref w1)])) := (Off.of e1).set
  have w_1 : (upd (upd H w1 (.lst (ws.map V.int))) x (.ins C dx [("_widths", .ref w1)])) w1 = some (.lst (ws.map V.int)) := by rw [upd_ne x1.symm, upd_same]
  have w_0 := o1 _ _ x0 hw
  dsimp only
  refine w_fld (KH.ev_empties (σ := [some (.ref x), some (.ref wl0), none]) (jh := 1) (j := 2) (vs := [2]) rfl (sq_of w_0) (by rw [List.length_map]; omega) (by intro _; rfl) _ fun D has H2 nD e2 hD ll nd hds => ?_)
  generalize eG1 : upd (upd H w1 (.lst (ws.map V.int))) x (.ins C dx [("_widths", .ref w1)]) = G1 at *
  have x_1 : G1 x = some (.ins C dx [("_widths", .ref w1)]) := by rw [← eG1, upd_same]
  have xD : x ≠ D := ne_of_none x_1 nD
  refine ⟨_, rfl, x, C, dx, _, rfl, e2 _ _ x_1, Z.cl, Z.nh, (by show 1 < 1000; omega), ?_⟩
  rw [show putF ("_heaps" : Str) (V.ref D) [(("_widths" : Str), V.ref w1)] = [(("_widths" : Str), V.ref w1), (("_heaps" : Str), V.ref D)] from rfl]
  have o2 : Off x G1 (upd H2 x (.ins C dx [("_widths", .ref w1), ("_heaps", .ref D)])) := (Off.of e2).set
  refine ⟨by show 0 ≤ sizeLine; decide, fun v1 n2 => ?_⟩
  have x_2 : (upd H2 x (.ins C dx [("_widths", .ref w1), ("_heaps", .ref D)])) x = some (.ins C dx [("_widths", .ref w1), ("_heaps", .ref D)]) := upd_same
  have D_2 : (upd H2 x (.ins C dx [("_widths", .ref w1), ("_heaps", .ref D)])) D = some (.lst (has.map V.ref)) := by rw [upd_ne xD.symm]; exact hD
  have d_2 : ∀ d ∈ has, H2 d = some (.dT []) → (upd H2 x (.ins C dx [("_widths", .ref w1), ("_heaps", .ref D)])) d = some (.dT []) := fun d hd z => by
    rw [upd_ne (fun y => by rw [y, e2 _ _ x_1] at z; cases z)]
    exact z
  have d2 : ∀ d ∈ has, G1 d = none ∧ (upd H2 x (.ins C dx [("_widths", .ref w1), ("_heaps", .ref D)])) d = some (.dT []) := fun d hd => ⟨(hds d hd).1, d_2 d hd (hds d hd).2⟩
  generalize eG2 : upd H2 x (.ins C dx [("_widths", .ref w1), ("_heaps", .ref D)]) = G2 at *
  have e3 := Ex.new (o := .lst []) n2
  refine ⟨_, rfl, x, C, dx, _, rfl, e3 _ _ x_2, Z.cl, Z.nv, (by show 2 < 1000; omega), ?_⟩
  rw [show putF ("_views" : Str) (V.ref v1) [(("_widths" : Str), V.ref w1), (("_heaps" : Str), V.ref D)] = [(("_widths" : Str), V.ref w1), (("_heaps" : Str), V.ref D), (("_views" : Str), V.ref v1)] from rfl]
  have o3 : Off x G2 (upd (upd G2 v1 (.lst [])) x (.ins C dx [("_widths", .ref w1), ("_heaps", .ref D), ("_views", .ref v1)])) := (Off.of e3).set
  have xv : x ≠ v1 := ne_of_none x_2 n2
  have x_3 : (upd (upd G2 v1 (.lst [])) x (.ins C dx [("_widths", .ref w1), ("_heaps", .ref D), ("_views", .ref v1)])) x = some (.ins C dx [("_widths", .ref w1), ("_heaps", .ref D), ("_views", .ref v1)]) := upd_same
  have v_3 : (upd (upd G2 v1 (.lst [])) x (.ins C dx [("_widths", .ref w1), ("_heaps", .ref D), ("_views", .ref v1)])) v1 = some (.lst []) := by rw [upd_ne xv.symm, upd_same]
  refine ⟨by show 0 ≤ sizeLine; decide, fun a1 n3 => ?_⟩
  generalize eG3 : upd (upd G2 v1 (.lst [])) x (.ins C dx [("_widths", .ref w1), ("_heaps", .ref D), ("_views", .ref v1)]) = G3 at *
  have e4 := Ex.new (o := .lst []) n3
  refine ⟨_, rfl, x, C, dx, _, rfl, e4 _ _ x_3, Z.cl, Z.na, (by show 3 < 1000; omega), ?_⟩
  rw [show putF ("_answers" : Str) (V.ref a1) [(("_widths" : Str), V.ref w1), (("_heaps" : Str), V.ref D), (("_views" : Str), V.ref v1)] = Flds w1 D v1 a1 from rfl]
  have o4 : Off x G3 (upd (upd G3 a1 (.lst [])) x (.ins C dx (Flds w1 D v1 a1))) := (Off.of e4).set
  have xa : x ≠ a1 := ne_of_none x_3 n3
  have w1x : w1 ≠ x := x1.symm
  have o24 := o3.trans o4
  have o14 := o2.trans o24
  have w_2 := o2 _ _ w1x w_1
  have w_3 := o3 _ _ w1x w_2
  have D_3 := o3 _ _ xD.symm D_2
  refine q _ w1 D v1 a1 has (o1.trans o14) ⟨⟨dx, upd_same⟩, o14 _ _ w1x w_1, ⟨o24 _ _ xD.symm D_2, heaps_rep (by rw [ll, List.length_map]) fun d hd => ?_⟩, o4 _ _ xv.symm v_3, .nil, ⟨by rw [upd_ne xa.symm, upd_same]; rfl, .nil⟩, rfl, ne_of_none D_3 n3, ne_of_none D_2 n2, ne_of_none v_3 n3, ?_, ne_of_none w_2 n2, ne_of_none w_3 n3⟩ (fun d hd => o1.none x_1 (d2 d hd).1) (o1.none x_1 nD) ((o1.trans o2).none x_2 n2) (((o1.trans o2).trans o3).none x_3 n3)
  · have h2 := (d2 d hd).2
    exact o24 _ _ (fun y => by rw [y, x_2] at h2; cases h2) h2
  · exact ne_of_none w_1 nD
/-! a table that is there -/
def spCt (C : Addr) : Sp := fun xs H Q _ => ∃ (k wl hl vl al : Addr) (ws : List Int) (has : List Addr) (Ls : List Rows) (vxs : List V) (vs : List View) (aas : List Addr) (As : List Rows) (t : Int), xs = [.ref k, .int t] ∧ KAt C H k wl hl vl al ws has Ls vxs vs aas As ∧ 0 ≤ t ∧ t < Ls.length ∧ Q .non H
theorem ok_ct {f : Addr} {fd : FuncData} {k : Nat} (A : MtAt K C "_check_table" "Keeper._check_table" sM_check_table PM_check_table f fd) (Z : ClsF K C) (B : B8 mg) : FnOk P w K mg base CX0 (k + 1) f fd PM_check_table (spCt C) := by
  refine A.F.ok scM_check_table (fun vs H Q E h => ?_) (fun cdv A' outer s H vs Q E hr h => ?_)
  · obtain ⟨_, _, _, _, _, _, _, _, _, _, _, _, _, rfl, _⟩ := h
    rfl
  obtain ⟨x, wl, hl, vl, al, ws, has, Ls, vxs, vs, aas, As, t, rfl, hk, h0, h1, q⟩ := h
  obtain ⟨dx, hi⟩ := hk.ins
  have ll : has.length = Ls.length := Paired.length hk.h.2
  refine ⟨_, (pss_one (ps_if (PW.pt (pw_or (pt_cmpR op_lt (pv 1) pe_int (nomark _)) (pw_or1 (pt_cmpR op_ge (pv 1) (pe_callB call_len_seq (by rfl) B.len (by decide +kernel) (pa_cons (pe_fld (pv 0) rfl) pa_nil)) (nomark _))))) pss_never pss_nil)), ?_⟩
  (repeat (first | (refine ⟨_, _, _, _, rfl, rfl, st_of hp, rfl, ?_⟩) | (refine ⟨_, rfl, ?_⟩) | (refine ⟨_, _, rfl, rfl, ?_⟩) | (refine ⟨⟨by decide, by decide⟩, ?_⟩) | (refine ⟨(by show (0 : Int) < _; decide), ?_⟩) | (refine ⟨rfl, ?_⟩) | (refine ⟨(by show _ ≠ (0 : Int); omega), ?_⟩) | (refine ⟨.inl ⟨by decide, by decide⟩, ?_⟩) | (refine ⟨(by assumption : CDivN _ _), ?_⟩) | (refine ite_y (by decide) ?_) | (refine ite_n (by decide) ?_) | (refine ite_y rfl ?_) | (refine ite_n Bool.false_ne_true ?_)))
  refine ite2 (fun hd => ?_) (fun hd0 => ?_)
  · have : t < 0 := of_decide_eq_true hd
    omega
  (repeat (first | (refine ⟨_, _, _, _, rfl, rfl, st_of hp, rfl, ?_⟩) | (refine ⟨_, rfl, ?_⟩) | (refine ⟨_, _, rfl, rfl, ?_⟩) | (refine ⟨⟨by decide, by decide⟩, ?_⟩) | (refine ⟨(by show (0 : Int) < _; decide), ?_⟩) | (refine ⟨rfl, ?_⟩) | (refine ⟨(by show _ ≠ (0 : Int); omega), ?_⟩) | (refine ⟨.inl ⟨by decide, by decide⟩, ?_⟩) | (refine ⟨(by assumption : CDivN _ _), ?_⟩) | (refine ite_y (by decide) ?_) | (refine ite_n (by decide) ?_) | (refine ite_y rfl ?_) | (refine ite_n Bool.false_ne_true ?_)))
  refine ⟨x, C, dx, _, _, rfl, hi, Z.cl, Z.nh, rfl, hl, has.map V.ref, rfl, .inl (sq_of hk.h.1), ?_⟩
  rw [List.length_map, ll]
  (repeat (first | (refine ⟨_, _, _, _, rfl, rfl, st_of hp, rfl, ?_⟩) | (refine ⟨_, rfl, ?_⟩) | (refine ⟨_, _, rfl, rfl, ?_⟩) | (refine ⟨⟨by decide, by decide⟩, ?_⟩) | (refine ⟨(by show (0 : Int) < _; decide), ?_⟩) | (refine ⟨rfl, ?_⟩) | (refine ⟨(by show _ ≠ (0 : Int); omega), ?_⟩) | (refine ⟨.inl ⟨by decide, by decide⟩, ?_⟩) | (refine ⟨(by assumption : CDivN _ _), ?_⟩) | (refine ite_y (by decide) ?_) | (refine ite_n (by decide) ?_) | (refine ite_y rfl ?_) | (refine ite_n Bool.false_ne_true ?_)))
  refine ite2 (fun hd => ?_) (fun hd1 => ?_)
  · have : (Ls.length : Int) ≤ t := of_decide_eq_true hd
    omega
  exact q
/-! the answer of a view -/
def spAw (C D : Addr) : Sp := fun xs H Q E => ∃ (k wl hl vl al : Addr) (ws : List Int) (has : List Addr) (Ls : List Rows) (vxs : List V) (vs : List View) (aas : List Addr) (As : List Rows) (t : Int), xs = [.ref k, .int t] ∧ KAt C H k wl hl vl al ws has Ls vxs vs aas As ∧ (∀ L ∈ As, (L.map (·.1)).Nodup ∧ L.length < 64) ∧
  (0 ≤ t → t < As.length → ∀ (H' : Hp) (l : Addr) (as : List Addr) (M : Rows), Ex H H' → H l = none → M.Perm (tabL As t) → M.Pairwise (fun x y => HT.lexLt x.1 y.1 = true) → H' l = some (.lst (as.map V.ref)) → KD.PairsOf H' as (M.map entI) → Q (.ref l) H') ∧ (¬ (0 ≤ t ∧ t < As.length) → ∀ H', XT H H' → E (.ref D) none H')
/-- an own error as it is raised -/
structure RsE (K : PySem.W.Frag) (mg : Str → Option Value) (n : Str) (C : Addr) : Prop where
  g : mg n = some (.ref C)
  x : PySem.W.excIn K C [.type "ValueError", .type "Exception", .type "BaseException", .type "object"] "ValueError.__new__" = true
  k : PySem.W.keepIn K (.ref C) = true
  b : PySem.W.subIn K (.ref C) (.type "BaseException") = some true
  t : PySem.W.typeIn K (.ref C) = some (.type "type")
theorem ok_aw {f f1 : Addr} {fd fd1 : FuncData} {k : Nat} {D : Addr} (A : MtAt K C "answer" "Keeper.answer" sManswer PManswer f fd) (Alisted : FnAt K mg "listed" slisted Plisted f1 fd1) (Z : ClsF K C) (B : B8 mg) (RN : RsE K mg "NoView" D) : FnOk P w K mg base (L2N.CX P w) (k + 2) f fd PManswer (spAw C D) := by
  refine okXN A.F scManswer (fun vs H Q E h => ?_) (fun cdv A' outer s H vs Q E hr h => ?_)
  · obtain ⟨_, _, _, _, _, _, _, _, _, _, _, _, _, rfl, _⟩ := h
    rfl
  obtain ⟨x, wl, hl, vl, al, ws, has, Ls, vxs, vs, aas, As, t, rfl, hk, hA, q1, q2⟩ := h
  obtain ⟨dx, hi⟩ := hk.ins
  have ll : aas.length = As.length := Paired.length hk.a.2
  have ll2 : vxs.length = vs.length := Paired.length hk.vw
  have hr1 : Room 1 _ := hr.mono (by omega)
  have Glisted : FnOk P w K mg base CX0 1 f1 fd1 Plisted spListed := ok_listed Alisted B
  refine ⟨_, (pss_cons (ps_if (PW.pt (pw_or (pt_cmpR op_lt (pv 1) pe_int (nomark _)) (pw_or1 (pt_cmpR op_ge (pv 1) (pe_callB call_len_seq (by rfl) B.len (by decide +kernel) (pa_cons (pe_fld (pv 0) rfl) pa_nil)) (nomark _))))) (pss_one (L2N.ps_raise rfl (L2N.takes_of rfl rfl rfl rfl) (L2N.pmk_own PySem.F.excBase_ValueError RN.x RN.g RN.k (raises_own RN.b RN.t) rfl))) pss_nil)
  (pss_one (ps_ret (pe_call Glisted hr1 (by rfl) Alisted.g Alisted.F.kp Alisted.b .nil pass0 (pa_cons (pe_ix (r := rIxL K) ix_list (pe_fld (pv 0) rfl) (pv 1) (fun _ _ => rfl)) pa_nil))))), ?_⟩
  have no : ¬ (0 ≤ t ∧ t < As.length) → E (.ref D) none H := fun h => q2 h H (XT.refl H)
  (repeat (first | (refine ⟨_, _, _, _, rfl, rfl, st_of hp, rfl, ?_⟩) | (refine ⟨_, rfl, ?_⟩) | (refine ⟨_, _, rfl, rfl, ?_⟩) | (refine ⟨⟨by decide, by decide⟩, ?_⟩) | (refine ⟨(by show (0 : Int) < _; decide), ?_⟩) | (refine ⟨rfl, ?_⟩) | (refine ⟨(by show _ ≠ (0 : Int); omega), ?_⟩) | (refine ⟨.inl ⟨by decide, by decide⟩, ?_⟩) | (refine ⟨(by assumption : CDivN _ _), ?_⟩) | (refine ite_y (by decide) ?_) | (refine ite_n (by decide) ?_) | (refine ite_y rfl ?_) | (refine ite_n Bool.false_ne_true ?_)))
  refine ite2 (fun hd => ?_) (fun hd0 => ?_)
  · have : t < 0 := of_decide_eq_true hd
    refine ite_y rfl ?_
    exact no (by omega)
  (repeat (first | (refine ⟨_, _, _, _, rfl, rfl, st_of hp, rfl, ?_⟩) | (refine ⟨_, rfl, ?_⟩) | (refine ⟨_, _, rfl, rfl, ?_⟩) | (refine ⟨⟨by decide, by decide⟩, ?_⟩) | (refine ⟨(by show (0 : Int) < _; decide), ?_⟩) | (refine ⟨rfl, ?_⟩) | (refine ⟨(by show _ ≠ (0 : Int); omega), ?_⟩) | (refine ⟨.inl ⟨by decide, by decide⟩, ?_⟩) | (refine ⟨(by assumption : CDivN _ _), ?_⟩) | (refine ite_y (by decide) ?_) | (refine ite_n (by decide) ?_) | (refine ite_y rfl ?_) | (refine ite_n Bool.false_ne_true ?_)))
  refine ⟨x, C, dx, _, _, rfl, hi, Z.cl, Z.nv, rfl, vl, vxs, rfl, .inl (sq_of hk.v), ?_⟩
  rw [ll2, ← hk.la]
  (repeat (first | (refine ⟨_, _, _, _, rfl, rfl, st_of hp, rfl, ?_⟩) | (refine ⟨_, rfl, ?_⟩) | (refine ⟨_, _, rfl, rfl, ?_⟩) | (refine ⟨⟨by decide, by decide⟩, ?_⟩) | (refine ⟨(by show (0 : Int) < _; decide), ?_⟩) | (refine ⟨rfl, ?_⟩) | (refine ⟨(by show _ ≠ (0 : Int); omega), ?_⟩) | (refine ⟨.inl ⟨by decide, by decide⟩, ?_⟩) | (refine ⟨(by assumption : CDivN _ _), ?_⟩) | (refine ite_y (by decide) ?_) | (refine ite_n (by decide) ?_) | (refine ite_y rfl ?_) | (refine ite_n Bool.false_ne_true ?_)))
  refine ite2 (fun hd => ?_) (fun hd1 => ?_)
  · have : (As.length : Int) ≤ t := of_decide_eq_true hd
    exact no (by omega)
  have h0 : 0 ≤ t := by have : ¬ t < 0 := fun z => hd0 (decide_eq_true z); omega
  have h1 : t < As.length := by have : ¬ (As.length : Int) ≤ t := fun z => hd1 (decide_eq_true z); omega
  obtain ⟨d, ha, _, hd⟩ := heaps_at hk.a h0 h1
  have hm : tabL As t ∈ As := by
    unfold tabL
    rw [List.getD_eq_getElem?_getD, List.getElem?_eq_getElem (show t.toNat < As.length by omega)]
    exact List.getElem_mem _
  refine ⟨_, rfl, x, C, dx, _, _, rfl, hi, Z.cl, Z.na, rfl, _, rfl, al, aas.map V.ref, t, _, rfl, rfl, sq_of hk.a.1, ha, ?_⟩
  obtain ⟨nd, len⟩ := hA _ hm
  exact ⟨d, tabL As t, rfl, hd, nd, len, fun H' l as M e hl' pm so g1 g2 => q1 h0 h1 H' l as M e hl' pm so g1 g2⟩
theorem tab_fresh {P : Addr} {H H' : Hp} {d : Addr} (h : GxR.Tabbed P H H') (e : H' d = none) : H d = none := by
  have n : d ≠ P := fun z => by
    obtain ⟨ps, hp, _⟩ := h.1
    rw [z, hp] at e
    cases e
  rw [← h.2 d n]
  exact e
/-! the table's heap behind a change that is done -/
def spChg (C P1 : Addr) : Sp := fun xs H Q _ => ∃ (k wl hl vl al : Addr) (ws : List Int) (has : List Addr) (Ls : List Rows) (vxs : List V) (vs : List View) (aas : List Addr) (As : List Rows) (t : Int) (p r pq : Addr) (row : List Int) (c m : Int), xs = [.ref k, .int t, .ref p] ∧ KAt C H k wl hl vl al ws has Ls vxs vs aas As ∧ 0 ≤ t ∧ t < Ls.length ∧ ws.length = Ls.length ∧ Tabs (fun t => ws.getD t.toNat 0) Ls ∧ GxR.TabG H P1 ∧
  H p = some (.lst [.ref pq]) ∧ H pq = some (.tup [.ref r, .int c]) ∧ H r = some (.tup (row.map V.int)) ∧ (row.length : Int) = ws.getD t.toNat 0 ∧ 0 < c ∧ ∀ H' d, XT H H' → H d = none → HeapAt H' d (putI (tabL Ls t) row ((valI (tabL Ls t) row).getD 0 + c)) → Q (.ref d) H'
theorem ok_chg {f f1 f2 f3 c0 : Addr} {fd1 fd2 fd3 : FuncData} {oc kV doc pm ct : Value} {od an : Option Addr} {osl : Array (Option Value)} {P1 : Addr} (hm : Meth K C "_changed" f) (lk : K.lookup f = some ⟨oc, od, .func (PySem.W.fnOf "_changed" "Keeper._changed" (defArgs sM_changed) (defBody sM_changed) (defScope sM_changed) .none kV doc pm an (.ref c0) ct), osl⟩)
    (hcd : PySem.W.codeIn K (.ref c0) "Keeper._changed" = true) (TB : GxR.TabB base mg c0 P1) (Act : MtAt K C "_check_table" "Keeper._check_table" sM_check_table PM_check_table f1 fd1) (Aadded : FnAt K mg "added" sadded Padded f2 fd2) (Aheaped : FnAt K mg "heaped" sheaped Pheaped f3 fd3) (Z : ClsF K C) (B : B8 mg) :
    FnOk P w K mg base CX0 3 f (PySem.W.fnOf "_changed" "Keeper._changed" (defArgs sM_changed) (defBody sM_changed) (defScope sM_changed) .none kV doc pm an (.ref c0) ct) PM_changed (spChg C P1) := by
  refine okC0 lk hcd scM_changed (fun vs H Q E h => ?_) (fun A' outer s H vs Q E hr h => ?_)
  · obtain ⟨_, _, _, _, _, _, _, _, _, _, _, _, _, _, _, _, _, _, _, rfl, _⟩ := h
    rfl
  obtain ⟨x, wl, hl, vl, al, ws, has, Ls, vxs, vs, aas, As, t, p, r, pq, row, c, m, rfl, hk, h0, h1, lw, T, hT, hp, hq, hrow, wid, hc, q⟩ := h
  obtain ⟨dx, hi⟩ := hk.ins
  have hr2 : Room 2 _ := hr
  have hr1 : Room 1 _ := hr.mono (by omega)
  have Gct : FnOk P w K mg base CX0 1 f1 fd1 PM_check_table (spCt C) := ok_ct Act Z B
  have Gadded : FnOk P w K mg base CX0 2 f2 fd2 Padded spAdded := ok_added (k := 0) Aadded Aheaped B
  have Gheaped : FnOk P w K mg base CX0 1 f3 fd3 Pheaped (spHeaped K) := ok_heaped Aheaped
  have GS1 : GxR.GenS (envOfC "Keeper._changed" (defScope sM_changed) s.heap.objs.size f (.ref c0)) ⟨.function, [(".0", .local), ("count", .local)], true, false, []⟩ "count" := ⟨rfl, rfl, by decide, rfl, rfl, fun y hy hf => by
    simp only [List.mem_cons, List.not_mem_nil, or_false] at hy
    rcases hy with rfl | rfl <;> cases hf⟩
  have GS2 : KN.GenS2 (envOfC "Keeper._changed" (defScope sM_changed) s.heap.objs.size f (.ref c0)) ⟨.function, [(".0", .local), ("row", .local), ("_", .local), ("width", .free), ("len", .globalImplicit)], true, false, []⟩ "row" "_" "width" := ⟨rfl, rfl, by decide, rfl, rfl, rfl, by decide, rfl, rfl, fun y hy hf => by
    simp only [List.mem_cons, List.not_mem_nil, or_false] at hy
    rcases hy with rfl | rfl | rfl | rfl | rfl
    · cases hf
    · cases hf
    · cases hf
    · exact ⟨_, rfl⟩
    · cases hf⟩
  have HYC : ∀ d, (envOfC "Keeper._changed" (defScope sM_changed) s.heap.objs.size f (.ref c0)).cells.lookup ("width" : Str) = some d → (cloFrom (envOfC "Keeper._changed" (defScope sM_changed) s.heap.objs.size f (.ref c0)).cells [(".0", NameKind.local), ("row", .local), ("_", .local), ("width", .free), ("len", .globalImplicit)] []).lookup ("width" : Str) = some d := fun d h => by
    cases h
    rfl
  obtain ⟨d, had, _, hd⟩ := heaps_at hk.h h0 h1
  obtain ⟨cl, len, wd⟩ := T t h0 h1
  have hws : atI (ws.map V.int) t = some (.int (ws.getD t.toNat 0)) := by
    have lt : t.toNat < ws.length := by omega
    have := atI_nat (xs := ws.map V.int) (j := t.toNat) (v := V.int ws[t.toNat]) (by rw [List.getElem?_map, List.getElem?_eq_getElem lt]; rfl)
    rw [show ((t.toNat : Nat) : Int) = t by omega] at this
    rw [this, List.getD_eq_getElem?_getD, List.getElem?_eq_getElem lt]
    rfl
  refine ⟨_, (pss_cons (ps_expr (pe_meth (pv 0) Z.cl Act.m Gct hr1 Act.b .nil pass0 (pa_cons (pv 1) pa_nil)))
  (pss_cons (ps_set (i := 4) scM_changed.nd rfl (.inr rfl) (pe_ix (r := rIxL K) ix_list (pe_fld (pv 0) rfl) (pv 1) (fun _ _ => rfl)))
  (pss_cons (ps_if (pt_val (KN.pe_anyL (iy := 4) hr1 rfl B.any TB rfl GS2 B.len (pv 2) rfl rfl HYC (fun _ => rfl))) pss_never pss_nil)
  (pss_cons (ps_set (i := 3) scM_changed.nd rfl (.inl rfl) (pe_call Gadded hr2 (by rfl) Aadded.g Aadded.F.kp Aadded.b .nil pass0 (pa_cons (pe_ix (r := rIxL K) ix_list (pe_fld (pv 0) rfl) (pv 1) (fun _ _ => rfl)) (pa_cons (pe_call Gheaped hr1 (by rfl) Aheaped.g Aheaped.F.kp Aheaped.b .nil pass0 (pa_cons (pv 2) pa_nil)) pa_nil))))
  (pss_cons (ps_if (pt_val (KN.pe_anyV hr1 rfl B.any TB rfl GS1 (pe_bm0 PySem.F.plainAttrs_dict PySem.F.slot_dict_values PySem.F.type_dict_values KN.mt_valsT (pv 3)) (KN.elt_neg rfl rfl) (fun _ => rfl))) pss_never pss_nil)
  (pss_one (ps_ret (pv 3)))))))), ?_⟩
  refine ⟨_, rfl, x, dx, _, rfl, hi, rfl, _, rfl, x, wl, hl, vl, al, ws, has, Ls, vxs, vs, aas, As, t, rfl, hk, h0, h1, ?_⟩
  refine ⟨_, rfl, x, C, dx, _, _, rfl, hi, Z.cl, Z.nw, rfl, _, rfl, wl, ws.map V.int, t, _, rfl, rfl, sq_of hk.w, hws, ?_⟩
  refine ⟨_, rfl, p, [pq], [row.length], _, rfl, sq_of hp, .cons ⟨r, _, _, st_of hq, st_of hrow, List.length_map _⟩ .nil, rfl, hT, fun Hb hb => ⟨_, rfl, ?_⟩⟩
  have a1 : ([row.length].any fun n => ((n : Nat) : Int) != ws.getD t.toNat 0) = false := by
    show ((((row.length : Nat) : Int) != ws.getD t.toNat 0) || false) = false
    rw [Bool.or_false, bne_eq_false_iff_eq]
    exact wid
  rw [a1]
  refine ite_n Bool.false_ne_true ?_
  have e1 := XT.of_tab hT hb
  have hk1 := hk.keep e1
  obtain ⟨dx1, hi1⟩ := hk1.ins
  have hd1 : HeapAt Hb d (tabL Ls t) := e1.at_ _ _ (fun _ z => nomatch z) hd
  refine ⟨_, rfl, x, C, dx1, _, _, rfl, hi1, Z.cl, Z.nh, rfl, _, rfl, hl, has.map V.ref, t, _, rfl, rfl, sq_of hk1.h.1, had, ?_⟩
  refine ⟨_, rfl, p, [(row, c)], rfl, ⟨[pq], sq_of (e1.lst hp), .cons ⟨r, st_of (e1.tup hq), e1.tup hrow⟩ .nil⟩, (show 1 ≤ 1000 by omega), fun H2 g e2 hg g2 => ?_⟩
  refine ⟨d, g, tabL Ls t, heapedL [(row, c)], rfl, e2 _ _ hd1, g2, by omega, Nat.le_trans (heaped_len _) (show 1 ≤ 400 by omega), fun H3 d3 e3 hd3 h3 => ?_⟩
  rw [added_one cl hc] at h3
  have cl3 : Clean (putI (tabL Ls t) row ((valI (tabL Ls t) row).getD 0 + c)) := put_clean cl (plus_pos cl hc)
  have e13 := e1.trans (XT.of_ex (e2.trans e3))
  have hT3 := e13.tab _ hT
  refine ⟨_, rfl, dictTy h3, d3, _, rfl, rfl, h3, fun v hv => ?_⟩
  have e4 := Ex.new (o := KN.valsO v d3) hv
  refine ⟨v, d3, _, (putI (tabL Ls t) row ((valI (tabL Ls t) row).getD 0 + c)).map (·.2), rfl, upd_same, e4 _ _ h3, (by rw [List.map_map, List.map_map]; rfl), (XT.of_ex e4).tab _ hT3, fun Hc hc2 => ⟨_, rfl, ?_⟩⟩
  have a2 : (((putI (tabL Ls t) row ((valI (tabL Ls t) row).getD 0 + c)).map (·.2)).any fun n => decide (n < 0)) = false := by
    rw [List.any_eq_false]
    intro n hn
    obtain ⟨z, hz, e⟩ := List.mem_map.mp hn
    have := cl3.2 z hz
    rw [← e]
    intro y
    have := of_decide_eq_true y
    omega
  rw [a2]
  refine ite_n Bool.false_ne_true ?_
  have e5 := XT.of_tab ((XT.of_ex e4).tab _ hT3) hc2
  exact ⟨_, rfl, q Hc d3 ((e13.trans (XT.of_ex e4)).trans e5) (tab_fresh hb (fresh_back e2 hd3)) (e5.at_ _ _ (fun _ z => nomatch z) (e4 _ _ h3))⟩
/-! a view's answer told anew -/
def spRn (C : Addr) : Sp := fun xs H Q _ => ∃ (k wl hl vl al : Addr) (ws : List Int) (has : List Addr) (Ls : List Rows) (vxs : List V) (vs : List View) (aas : List Addr) (As : List Rows) (i : Nat) (v : View), xs = [.ref k, .int i] ∧ KAt C H k wl hl vl al ws has Ls vxs vs aas As ∧ Tabs (fun t => ws.getD t.toNat 0) Ls ∧ vs[i]? = some v ∧ GoodV Ls.length (fun t => ws.getD t.toNat 0) v ∧ (∀ L ∈ As, Clean L ∧ L.length ≤ 20) ∧
  ∀ (H' : Hp) (l d : Addr), XM [al] H H' → H l = none → H d = none → KAt C H' k wl hl vl al ws has Ls vxs vs (aas.set i d) (As.set i (ansL Ls v)) → Q (.ref l) H'
theorem paired_set {α β : Type} {F G : α → β → Prop} {a : α} {b : β} : ∀ {as : List α} {bs : List β} {i : Nat}, Paired F as bs → (∀ x y, F x y → G x y) → G a b → Paired G (as.set i a) (bs.set i b)
  | _, _, _, .nil, _, _ => .nil
  | _, _, 0, .cons _ t, h, g => .cons g (L2.Paired.mapP t h)
  | _, _, i + 1, .cons x t, h, g => .cons (h _ _ x) (paired_set t h g)
theorem ok_rn {f f1 f2 f3 f4 f5 : Addr} {fd fd1 fd2 fd3 fd4 fd5 : FuncData} {k : Nat} (A : MtAt K C "_renewed" "Keeper._renewed" sM_renewed PM_renewed f fd) (Aans : FnAt K mg "answered" sanswered Panswered f1 fd1) (Alisted : FnAt K mg "listed" slisted Plisted f2 fd2) (Aadded : FnAt K mg "added" sadded Padded f3 fd3) (Aheaped : FnAt K mg "heaped" sheaped Pheaped f4 fd4) (Aturned : FnAt K mg "turned" sturned Pturned f5 fd5)
    (Gans : FnOk P w K mg base CX0 4 f1 fd1 Panswered (spAns fun _ => True)) (Z : ClsF K C) (B : B8 mg) : FnOk P w K mg base CX0 5 f fd PM_renewed (spRn C) := by
  refine A.F.ok scM_renewed (fun vs H Q E h => ?_) (fun cdv A' outer s H vs Q E hr h => ?_)
  · obtain ⟨_, _, _, _, _, _, _, _, _, _, _, _, _, _, rfl, _⟩ := h
    rfl
  obtain ⟨x, wl, hl, vl, al, ws, has, Ls, vxs, vs, aas, As, i, v, rfl, hk, T, hv, g, hA, q⟩ := h
  obtain ⟨dx, hi⟩ := hk.ins
  have hrA : Room 4 _ := hr
  have hr2 : Room 2 _ := hr.mono (by omega)
  have hr1 : Room 1 _ := hr.mono (by omega)
  have Glisted : FnOk P w K mg base CX0 1 f2 fd2 Plisted spListed := ok_listed Alisted B
  have Gadded : FnOk P w K mg base CX0 2 f3 fd3 Padded spAdded := ok_added (k := 0) Aadded Aheaped B
  have Gturned : FnOk P w K mg base CX0 1 f5 fd5 Pturned spTurned := ok_turned Aturned
  have li : i < As.length := by rw [hk.la]; exact (List.getElem?_eq_some_iff.mp hv).1
  obtain ⟨d, had, _, hd⟩ := heaps_at hk.a (t := (i : Int)) (by omega) (by omega)
  have hm : tabL As (i : Int) ∈ As := by
    unfold tabL
    rw [List.getD_eq_getElem?_getD, List.getElem?_eq_getElem (show (i : Int).toNat < As.length by omega)]
    exact List.getElem_mem _
  obtain ⟨cl, len⟩ := hA _ hm
  obtain ⟨y, hy, hvy⟩ : ∃ y, vxs[i]? = some y ∧ VAt H v y := by
    have lt : i < vxs.length := by rw [Paired.length hk.vw]; exact (List.getElem?_eq_some_iff.mp hv).1
    obtain ⟨v', hv', h'⟩ := KD.paired_at hk.vw (List.getElem?_eq_getElem lt)
    rw [hv] at hv'
    cases hv'
    exact ⟨_, List.getElem?_eq_getElem lt, h'⟩
  refine ⟨_, (pss_cons (ps_set (i := 2) scM_renewed.nd rfl (.inl rfl) (pe_ix (r := rIxL K) ix_list (pe_fld (pv 0) rfl) (pv 1) (fun _ _ => rfl)))
  (pss_cons (ps_set (i := 3) scM_renewed.nd rfl (.inl rfl) (pe_call Gans hrA (by rfl) Aans.g Aans.F.kp Aans.b .nil pass0 (pa_cons (pe_ix (r := rIxL K) ix_list (pe_fld (pv 0) rfl) (pv 1) (fun _ _ => rfl)) (pa_cons (pe_fld (pv 0) rfl) pa_nil))))
  (pss_cons (ps_asg (pv 3) (pg_sub (pe_fld (pv 0) rfl) (pv 1) set_list))
  (pss_one (ps_ret (pe_call Glisted hr1 (by rfl) Alisted.g Alisted.F.kp Alisted.b .nil pass0 (pa_cons (pe_call Gadded hr2 (by rfl) Aadded.g Aadded.F.kp Aadded.b .nil pass0 (pa_cons (pv 3) (pa_cons (pe_call Gturned hr1 (by rfl) Aturned.g Aturned.F.kp Aturned.b .nil pass0 (pa_cons (pv 2) pa_nil)) pa_nil))) pa_nil))))))), ?_⟩
  refine ⟨_, rfl, x, C, dx, _, _, rfl, hi, Z.cl, Z.na, rfl, _, rfl, al, aas.map V.ref, i, _, rfl, rfl, sq_of hk.a.1, had, ?_⟩
  refine ⟨_, rfl, x, C, dx, _, _, rfl, hi, Z.cl, Z.nv, rfl, _, rfl, vl, vxs, i, y, rfl, rfl, sq_of hk.v, atI_nat hy, ?_⟩
  refine ⟨_, rfl, x, C, dx, _, _, rfl, hi, Z.cl, Z.nh, rfl, y, hl, has, v, Ls, _, rfl, True.intro, g, hvy, hk.h, T, fun H1 d1 e1 hd1 h1 => ?_⟩
  have al1 := e1 _ _ hk.a.1
  have nd : d1 ≠ al := fun z => by rw [z, hk.a.1] at hd1; cases hd1
  refine ⟨_, rfl, _, rfl, x, C, dx, _, _, rfl, e1 _ _ hi, Z.cl, Z.na, rfl, _, rfl, al, aas.map V.ref, i, i, rfl, rfl, al1, ?_, ?_⟩
  · exact ixN_nat (by rw [List.length_map, Paired.length hk.a.2]; exact li)
  · rw [show (aas.map V.ref).set i (.ref d1) = (aas.set i d1).map V.ref from (List.map_set ..).symm]
    have out : ∀ a o, a ≠ al → H1 a = some o → upd H1 al (.lst ((aas.set i d1).map V.ref)) a = some o := fun a o n z => by rw [upd_ne n]; exact z
    have ni : ∀ {a C dx fs}, H1 a = some (.ins C dx fs) → a ≠ al := fun z y => by rw [y, al1] at z; cases z
    have nT : ∀ {a kvs}, H1 a = some (.dT kvs) → a ≠ al := fun z y => by rw [y, al1] at z; cases z
    have k1 : KAt C (upd H1 al (.lst ((aas.set i d1).map V.ref))) x wl hl vl al ws has Ls vxs vs (aas.set i d1) (As.set i (ansL Ls v)) := by
      have hk1 := hk.keep (XT.of_ex e1)
      refine ⟨⟨dx, out _ _ (ni (e1 _ _ hi)) (e1 _ _ hi)⟩, out _ _ hk.n6 hk1.w, ⟨out _ _ hk.n1 hk1.h.1, L2.Paired.mapP hk1.h.2 fun _ _ z => out _ _ (nT z) z⟩, out _ _ hk.n3 hk1.v, ?_, ⟨upd_same, paired_set hk1.a.2 (fun _ _ z => out _ _ (nT z) z) (out _ _ nd h1)⟩, ?_, hk.n1, hk.n2, hk.n3, hk.n4, hk.n5, hk.n6⟩
      · exact L2.Paired.mapP hk1.vw fun x v z => (XM.upd (M := [al]) (o := .lst ((aas.set i d1).map V.ref)) al1 List.mem_cons_self).view (fun b hb => by rw [List.mem_singleton.mp hb]; exact ⟨_, al1⟩) v x z
      · rw [List.length_set]
        exact hk.la
    have m1 : XM [al] H (upd H1 al (.lst ((aas.set i d1).map V.ref))) := (XM.ex e1).trans (XM.upd al1 List.mem_cons_self)
    obtain ⟨cl2, len2⟩ := ans_ok T v g
    have hd2 : HeapAt (upd H1 al (.lst ((aas.set i d1).map V.ref))) d (tabL As (i : Int)) := out _ _ (nT (e1 _ _ hd)) (e1 _ _ hd)
    have h12 : HeapAt (upd H1 al (.lst ((aas.set i d1).map V.ref))) d1 (ansL Ls v) := out _ _ nd h1
    refine ⟨_, rfl, _, rfl, d, tabL As (i : Int), rfl, hd2, cl.1, by omega, fun H3 dn e3 hdn h3 => ?_⟩
    have lp := pick_len (f := fun p => some (-p.2)) (tabL As (i : Int))
    refine ⟨d1, dn, _, _, rfl, e3 _ _ h12, h3, by omega, by omega, fun H4 d4 e4 hd4 h4 => ?_⟩
    have ln := heaped_len (ansL Ls v ++ pick (fun p => some (-p.2)) (tabL As (i : Int)))
    rw [List.length_append] at ln
    refine ⟨d4, _, rfl, h4, heaped_keys _, (by show (heapedL _).length < 64; omega), fun H5 l as M e5 hl5 pm so g1 g2 => ?_⟩
    have e35 := (e3.trans e4).trans e5
    refine q H5 l d1 (m1.trans (XM.ex e35)) ?_ hd1 (k1.keep (XT.of_ex e35))
    have f1 := fresh_back (e3.trans e4) hl5
    have nl : l ≠ al := fun z => by rw [z, upd_same] at f1; cases f1
    rw [upd_ne nl] at f1
    exact fresh_back e1 f1
end
end K08

namespace K08
open PySem PySem.Spec PyProof.Rows L2 Evl KB KH KS
section
variable {P : Program} {w : World} {K : PySem.W.Frag} {mg : Str → Option Value} {base : Heap} {σ : L2.St} {H H' : Hp} {C : Addr} {k wl hl vl al : Addr} {ws : List Int} {has : List Addr} {Ls : List Rows} {vxs : List V} {vs : List View} {aas : List Addr} {As : List Rows}
/-! ### a change -/
theorem xm_mut {M : List Addr} {H G : Hp} {a : Addr} {o : HO} (e : XM M H G) (n : H a = none) : XM M H (upd G a o) := ⟨fun p u t m h => by rw [upd_ne (ne_of_none h n)]; exact e.at_ p u t m h, fun P ⟨ps, h, t⟩ => by
  obtain ⟨qs, g, u⟩ := e.tab P ⟨ps, h, t⟩
  exact ⟨qs, by rw [upd_ne (ne_of_none h n)]; exact g, u⟩⟩
/-- no dict of H -/
def New (H : Hp) (d : Addr) : Prop := ∀ kvs, H d ≠ some (.dT kvs)
theorem New.of {H : Hp} {d : Addr} (h : H d = none) : New H d := fun kvs z => by rw [h] at z; cases z
theorem New.back {M : List Addr} {H G : Hp} {d : Addr} (e : XM M H G) (hM : ∀ b ∈ M, ∃ xs, H b = some (.lst xs)) (h : New G d) : New H d := fun kvs z => h kvs (e.off hM (fun _ z => nomatch z) (fun _ z => nomatch z) z)
theorem tab_set {Ls : List Rows} {L : Rows} {t u : Int} (h0 : 0 ≤ t) (h1 : t < Ls.length) (u0 : 0 ≤ u) : tabL (Ls.set t.toNat L) u = if u = t then L else tabL Ls u := by
  unfold tabL
  rw [List.getD_eq_getElem?_getD, List.getElem?_set, List.getD_eq_getElem?_getD]
  by_cases e : u = t
  · rw [if_pos e, if_pos (by rw [e]), if_pos (by omega)]
    rfl
  · rw [if_neg e, if_neg (by omega)]
theorem tabs_set {W : Int → Int} {Ls : List Rows} {L : Rows} {t : Int} (T : Tabs W Ls) (h0 : 0 ≤ t) (h1 : t < Ls.length) (c : Clean L) (l : L.length ≤ 20) (w : ∀ p ∈ L, (p.1.length : Int) = W t) : Tabs W (Ls.set t.toNat L) := fun u u0 u1 => by
  rw [List.length_set] at u1
  rw [tab_set h0 h1 u0]
  by_cases e : u = t
  · rw [if_pos e, e]
    exact ⟨c, l, w⟩
  · rw [if_neg e]
    exact T u u0 u1
theorem KAt.lists (h : KAt C H k wl hl vl al ws has Ls vxs vs aas As) : ∀ b ∈ [hl, vl, al], ∃ xs, H b = some (.lst xs) := fun b hb => by
  simp only [List.mem_cons, List.not_mem_nil, or_false] at hb
  rcases hb with rfl | rfl | rfl
  · exact ⟨_, h.h.1⟩
  · exact ⟨_, h.v⟩
  · exact ⟨_, h.a.1⟩
theorem KAt.xm {M : List Addr} (e : XM M H H') (hM : ∀ b ∈ M, ∃ xs, H b = some (.lst xs)) (h : KAt C H k wl hl vl al ws has Ls vxs vs aas As) (m1 : wl ∉ M) (m2 : hl ∉ M) (m3 : vl ∉ M) (m4 : al ∉ M) : KAt C H' k wl hl vl al ws has Ls vxs vs aas As where
  ins := let ⟨dx, z⟩ := h.ins; ⟨dx, e.off hM (fun _ z => nomatch z) (fun _ z => nomatch z) z⟩
  w := e.at_ _ _ (fun _ z => nomatch z) m1 h.w
  h := ⟨e.at_ _ _ (fun _ z => nomatch z) m2 h.h.1, L2.Paired.mapP h.h.2 fun _ _ z => e.off hM (fun _ z => nomatch z) (fun _ z => nomatch z) z⟩
  v := e.at_ _ _ (fun _ z => nomatch z) m3 h.v
  vw := L2.Paired.mapP h.vw fun _ _ z => e.view hM _ _ z
  a := ⟨e.at_ _ _ (fun _ z => nomatch z) m4 h.a.1, L2.Paired.mapP h.a.2 fun _ _ z => e.off hM (fun _ z => nomatch z) (fun _ z => nomatch z) z⟩
  la := h.la
  n1 := h.n1
  n2 := h.n2
  n3 := h.n3
  n4 := h.n4
  n5 := h.n5
  n6 := h.n6
/-- the heaps' list gets another heap -/
theorem KAt.heap {t : Nat} {d : Addr} {L : Rows} (h : KAt C H k wl hl vl al ws has Ls vxs vs aas As) (hd : HeapAt H d L) : KAt C (upd H hl (.lst ((has.set t d).map V.ref))) k wl hl vl al ws (has.set t d) (Ls.set t L) vxs vs aas As := by
  have out : ∀ a o, a ≠ hl → H a = some o → upd H hl (.lst ((has.set t d).map V.ref)) a = some o := fun a o n z => by rw [upd_ne n]; exact z
  have ni : ∀ {a C dx fs}, H a = some (.ins C dx fs) → a ≠ hl := fun z y => by rw [y, h.h.1] at z; cases z
  have nT : ∀ {a kvs}, H a = some (.dT kvs) → a ≠ hl := fun z y => by rw [y, h.h.1] at z; cases z
  obtain ⟨dx, hi⟩ := h.ins
  refine ⟨⟨dx, out _ _ (ni hi) hi⟩, out _ _ h.n4 h.w, ⟨upd_same, paired_set h.h.2 (fun _ _ z => out _ _ (nT z) z) (out _ _ (nT hd) hd)⟩, out _ _ h.n2.symm h.v, ?_, ⟨out _ _ h.n1.symm h.a.1, L2.Paired.mapP h.a.2 fun _ _ z => out _ _ (nT z) z⟩, h.la, h.n1, h.n2, h.n3, h.n4, h.n5, h.n6⟩
  exact L2.Paired.mapP h.vw fun x v z => (XM.upd (M := [hl]) (o := .lst ((has.set t d).map V.ref)) h.h.1 List.mem_cons_self).view (fun b hb => by rw [List.mem_singleton.mp hb]; exact ⟨_, h.h.1⟩) v x z
def newL (Ls : List Rows) (t : Int) (row : List Int) (c : Int) : Rows := putI (tabL Ls t) row ((valI (tabL Ls t) row).getD 0 + c)
def spCg (C P1 : Addr) : Sp := fun xs H Q _ => ∃ (k wl hl vl al : Addr) (ws : List Int) (has : List Addr) (Ls : List Rows) (vxs : List V) (vs : List View) (aas : List Addr) (As : List Rows) (t : Int) (p r pq : Addr) (row : List Int) (c : Int), xs = [.ref k, .int t, .ref p] ∧ KAt C H k wl hl vl al ws has Ls vxs vs aas As ∧ 0 ≤ t ∧ t < Ls.length ∧ ws.length = Ls.length ∧ Tabs (fun t => ws.getD t.toNat 0) Ls ∧ GxR.TabG H P1 ∧
  H p = some (.lst [.ref pq]) ∧ H pq = some (.tup [.ref r, .int c]) ∧ H r = some (.tup (row.map V.int)) ∧ (row.length : Int) = ws.getD t.toNat 0 ∧ 0 < c ∧ (newL Ls t row c).length ≤ 20 ∧ (∀ v ∈ vs, GoodV Ls.length (fun t => ws.getD t.toNat 0) v) ∧ vs.length ≤ 1000 ∧ (∀ L ∈ As, Clean L ∧ L.length ≤ 20) ∧
  ∀ (H' : Hp) (l : Addr) (ys : List V) (has' aas' : List Addr), XM [hl, al] H H' → H' l = some (.lst ys) → ys.length = vs.length → (∀ d ∈ has', d ∈ has ∨ New H d) → (∀ d ∈ aas', d ∈ aas ∨ New H d) →
    KAt C H' k wl hl vl al ws has' (Ls.set t.toNat (newL Ls t row c)) vxs vs aas' (vs.map (ansL (Ls.set t.toNat (newL Ls t row c)))) → Q (.ref l) H'
def mixL (vs : List View) (As Ls2 : List Rows) (i : Nat) : List Rows := (vs.take i).map (ansL Ls2) ++ As.drop i
theorem mem_set {α : Type} {l : List α} {i : Nat} {a x : α} (h : x ∈ l.set i a) : x ∈ l ∨ x = a := List.mem_or_eq_of_mem_set h
theorem mix_step {As Ls2 : List Rows} {i : Nat} {v : View} (la : As.length = vs.length) (hv : vs[i]? = some v) : (mixL vs As Ls2 i).set i (ansL Ls2 v) = mixL vs As Ls2 (i + 1) := by
  have lt : i < vs.length := (List.getElem?_eq_some_iff.mp hv).1
  have l1 : ((vs.take i).map (ansL Ls2)).length = i := by rw [List.length_map, List.length_take]; omega
  unfold mixL
  rw [List.set_append_right _ _ (by rw [l1]; exact Nat.le_refl _), l1, Nat.sub_self, List.take_add_one, hv, List.map_append, List.append_assoc]
  congr 1
  rw [List.drop_eq_getElem_cons (show i < As.length by omega)]
  rfl
theorem ok_cg {f f1 f2 : Addr} {fd fd1 fd2 : FuncData} {P1 : Addr} (A : MtAt K C "change" "Keeper.change" sMchange PMchange f fd) (Achg : MtAt K C "_changed" "Keeper._changed" sM_changed PM_changed f1 fd1) (Arn : MtAt K C "_renewed" "Keeper._renewed" sM_renewed PM_renewed f2 fd2)
    (Gchg : FnOk P w K mg base CX0 3 f1 fd1 PM_changed (spChg C P1)) (Grn : FnOk P w K mg base CX0 5 f2 fd2 PM_renewed (spRn C)) (Z : ClsF K C) (B : B8 mg) : FnOk P w K mg base CX0 6 f fd PMchange (spCg C P1) := by
  refine A.F.ok scMchange (fun vs H Q E h => ?_) (fun cdv A' outer s H vs Q E hr h => ?_)
  · obtain ⟨_, _, _, _, _, _, _, _, _, _, _, _, _, _, _, _, _, _, rfl, _⟩ := h
    rfl
  obtain ⟨x, wl, hl, vl, al, ws, has, Ls, vxs, vs, aas, As, t, p, r, pq, row, c, rfl, hk, h0, h1, lw, T, hT, hp, hq, hrow, wid, hc, l20, hg, lv, hA, q⟩ := h
  have hrC : Room 3 _ := hr.mono (by omega)
  have hrR : Room 5 _ := hr
  obtain ⟨cl, _, wd⟩ := T t h0 h1
  have T2 := tabs_set T h0 h1 (put_clean cl (plus_pos cl hc)) l20 (fun z hz => (put_mem hz).elim (fun e => by rw [e]; exact wid) fun e => wd z e)
  obtain ⟨dx, hi⟩ := hk.ins
  refine ⟨_, (pss_cons (ps_asg (pe_meth (pv 0) Z.cl Achg.m Gchg hrC Achg.b .nil pass0 (pa_cons (pv 1) (pa_cons (pv 2) pa_nil))) (pg_sub (pe_fld (pv 0) rfl) (pv 1) set_list))
  (pss_cons (ps_set (i := 3) scMchange.nd rfl (.inl rfl) (pe_lst pa_nil))
  (pss_cons (ps_for PassesOwn.never rfl (pi_range1 rfl B.range (pa_cons (pe_callB call_len_seq (by rfl) B.len (by decide +kernel) (pa_cons (pe_fld (pv 0) rfl) pa_nil)) pa_nil)) (pg_name (i := 4) scMchange.nd rfl (.inl rfl))
    (pss_one (ps_expr (pe_bm PySem.F.plainAttrs_list PySem.F.slot_list_append PySem.F.type_list_append mt_append (pv 3) (pa_cons (pe_meth (pv 0) Z.cl Arn.m Grn hrR Arn.b .nil pass0 (pa_cons (pv 4) pa_nil)) pa_nil)))))
  (pss_one (ps_ret (pv 3)))))), ?_⟩
  refine ⟨_, rfl, x, dx, _, rfl, hi, rfl, _, rfl, _, rfl, x, wl, hl, vl, al, ws, has, Ls, vxs, vs, aas, As, t, p, r, pq, row, c, 0, rfl, hk, h0, h1, lw, T, hT, hp, hq, hrow, wid, hc, fun H1 d e1 hd h2 => ?_⟩
  have k1 := hk.keep e1
  obtain ⟨dx1, hi1⟩ := k1.ins
  refine ⟨_, rfl, x, C, dx1, _, _, rfl, hi1, Z.cl, Z.nh, rfl, _, rfl, hl, has.map V.ref, t, t.toNat, rfl, rfl, k1.h.1, ?_, ?_⟩
  · have := ixN_nat (n := (has.map V.ref).length) (j := t.toNat) (by rw [List.length_map, Paired.length hk.h.2]; omega)
    rwa [show ((t.toNat : Nat) : Int) = t by omega] at this
  rw [show (has.map V.ref).set t.toNat (.ref d) = (has.set t.toNat d).map V.ref from (List.map_set ..).symm]
  have k2 := k1.heap (t := t.toNat) h2
  have e2 : XM [hl, al] H (upd H1 hl (.lst ((has.set t.toNat d).map V.ref))) := (XM.of e1).trans (XM.upd k1.h.1 List.mem_cons_self)
  generalize upd H1 hl (.lst ((has.set t.toNat d).map V.ref)) = H2 at *
  refine ⟨(by show 0 ≤ sizeLine; decide), fun l nl => ?_⟩
  have e3 := Ex.new (o := .lst []) nl
  have k3 := k2.keep (XT.of_ex e3)
  obtain ⟨dx3, hi3⟩ := k3.ins
  refine ⟨_, rfl, x, C, dx3, _, _, rfl, hi3, Z.cl, Z.nv, rfl, vl, vxs, rfl, .inl (sq_of k3.v), ?_⟩
  rw [Paired.length k3.vw]
  have sub : ∀ a ∈ [al], a ∈ [hl, al] := fun a h => List.mem_cons_of_mem _ h
  have ml : ∀ b ∈ [hl, al], ∃ xs, H b = some (.lst xs) := fun b hb => hk.lists b (by
    rcases List.mem_cons.mp hb with z | z
    · rw [z]; exact List.mem_cons_self
    · rw [List.mem_singleton.mp z]; exact List.mem_cons_of_mem _ (List.mem_cons_of_mem _ List.mem_cons_self))
  have lne : ∀ {b : Addr} {xs : List V}, H2 b = some (.lst xs) → b ≠ l := fun z => ne_of_none z nl
  refine ⟨vs.length, rfl, by omega, by omega, ?_⟩
  refine for_range (n := vs.length) (fun i σ G => ∃ (o4 : Option V) (aasi : List Addr) (ys : List V), σ = [some (.ref x), some (.int t), some (.ref p), some (.ref l), o4] ∧ XM [al] H2 G ∧ G l = some (.lst ys) ∧ ys.length = i ∧ KAt C G x wl hl vl al ws (has.set t.toNat d) (Ls.set t.toNat (newL Ls t row c)) vxs vs aasi (mixL vs As (Ls.set t.toNat (newL Ls t row c)) i) ∧ ∀ d ∈ aasi, d ∈ aas ∨ New H d) ?_ ?_ ?_
  · exact ⟨none, aas, [], rfl, XM.ex e3, upd_same, rfl, k3, fun d h => .inl h⟩
  · rintro i σ G hi ⟨o4, aasi, ys, rfl, e4, hl4, ly, k4, na⟩
    obtain ⟨v, hv⟩ : ∃ v, vs[i]? = some v := ⟨vs[i], List.getElem?_eq_getElem hi⟩
    obtain ⟨dx4, hi4⟩ := k4.ins
    have gd := hg v (List.mem_of_getElem? hv)
    rw [← List.length_set (as := Ls) (i := t.toNat) (a := newL Ls t row c)] at gd
    have cm : ∀ L ∈ mixL vs As (Ls.set t.toNat (newL Ls t row c)) i, Clean L ∧ L.length ≤ 20 := fun L hL => by
      rcases List.mem_append.mp hL with z | z
      · obtain ⟨u, hu, e⟩ := List.mem_map.mp z
        rw [← e]
        have gu := hg u (List.mem_of_mem_take hu)
        rw [← List.length_set (as := Ls) (i := t.toNat) (a := newL Ls t row c)] at gu
        exact ans_ok T2 u gu
      · exact hA L (List.mem_of_mem_drop z)
    rw [Int.zero_add]
    refine ⟨_, rfl, .inl ⟨rfl, _, sq_of hl4⟩, _, rfl, x, dx4, _, rfl, hi4, rfl, _, rfl, x, wl, hl, vl, al, ws, _, _, vxs, vs, aasi, _, i, v, rfl, k4, T2, hv, gd, cm, fun H5 l5 d5 e5 n5 f5 k5 => ?_⟩
    have hl5 : H5 l = some (.lst ys) := e5.at_ _ _ (fun _ z => nomatch z) (fun z => lne k2.a.1 (List.mem_singleton.mp z).symm) hl4
    refine ⟨l, ys, _, rfl, rfl, hl5, sz_lt (by omega), ?_⟩
    have e6 : XM [l] H5 (upd H5 l (.lst (ys ++ [.ref l5]))) := XM.upd hl5 List.mem_cons_self
    have nm : ∀ {b : Addr} {xs : List V}, H2 b = some (.lst xs) → b ∉ [l] := fun z y => lne z (List.mem_singleton.mp y)
    refine ⟨_, aasi.set i d5, ys ++ [.ref l5], rfl, xm_mut (e4.trans e5) nl, upd_same, by rw [List.length_append, ly]; rfl, ?_, fun z hz => (mem_set hz).elim (na z) fun y => .inr ?_⟩
    · rw [← mix_step k2.la hv]
      exact k5.xm e6 (fun b hb => ⟨ys, by rw [List.mem_singleton.mp hb]; exact hl5⟩) (nm k2.w) (nm k2.h.1) (nm k2.v) (nm k2.a.1)
    · rw [y]
      exact New.back (e2.trans (e4.mono sub)) ml (New.of f5)
  · rintro σ G ⟨o4, aasi, ys, rfl, e4, hl4, ly, k4, na⟩
    have em : mixL vs As (Ls.set t.toNat (newL Ls t row c)) vs.length = vs.map (ansL (Ls.set t.toNat (newL Ls t row c))) := by
      unfold mixL
      rw [List.take_length, ← k2.la, List.drop_length, List.append_nil]
    rw [em] at k4
    exact ⟨_, rfl, q G l ys _ aasi (e2.trans (e4.mono sub)) hl4 ly (fun z hz => (mem_set hz).elim .inl fun y => .inr (by rw [y]; exact New.of hd)) na k4⟩
/-! ### a view is put -/
def spPut (C P0 CB CF : Addr) (N : Nat) : Sp := fun xs H Q E => ∃ (k wl hl vl al : Addr) (ws : List Int) (has : List Addr) (Ls : List Rows) (vxs : List V) (vs : List View) (aas : List Addr) (As : List Rows) (y : V) (v : View), xs = [.ref k, y] ∧ KAt C H k wl hl vl al ws has Ls vxs vs aas As ∧ VOk N v ∧ VAt H v y ∧ (∀ c ∈ ws, 1 ≤ c ∧ c ≤ 6) ∧ GxR.TabG H P0 ∧ Tabs (fun t => ws.getD t.toNat 0) Ls ∧ vs.length ≤ 1000 ∧
  (widthOf ws v = none → ∀ H', XT H H' → E (.ref CB) none H') ∧ (∀ m, widthOf ws v = some m → 20 ≤ vs.length → ∀ H', XT H H' → E (.ref CF) none H') ∧
  (∀ m, widthOf ws v = some m → vs.length < 20 → GoodV Ls.length (fun t => ws.getD t.toNat 0) v ∧ ∀ H' d, XM [vl, al] H H' → New H d → KAt C H' k wl hl vl al ws has Ls (vxs ++ [y]) (vs ++ [v]) (aas ++ [d]) (As ++ [ansL Ls v]) → Q (.int vs.length) H')
theorem paired_snoc {α β : Type} {F : α → β → Prop} {a : α} {b : β} : ∀ {as : List α} {bs : List β}, Paired F as bs → F a b → Paired F (as ++ [a]) (bs ++ [b])
  | _, _, .nil, g => .cons g .nil
  | _, _, .cons x t, g => .cons x (paired_snoc t g)
theorem ok_put {f f1 f2 : Addr} {fd fd1 fd2 : FuncData} {P0 CB CF : Addr} {N M : Nat} {tk : Tok} (A : MtAt K C "put" "Keeper.put" sMput PMput f fd) (Awof : FnAt K mg "width_of" swidth_of Pwidth_of f1 fd1) (Aans : FnAt K mg "answered" sanswered Panswered f2 fd2)
    (Gwof : FnOk P w K mg base (L2N.CX P w) M f1 fd1 Pwidth_of (spWof CB P0 N)) (Gans : FnOk P w K mg base CX0 4 f2 fd2 Panswered (spAns fun _ => True)) (hM : 4 ≤ M) (Z : ClsF K C) (B : B8 mg) (RF : RsE K mg "Full" CF) (most : mg "MOST_VIEWS" = some (.int 20 tk)) : FnOk P w K mg base (L2N.CX P w) (M + 1) f fd PMput (spPut C P0 CB CF N) := by
  refine okXN A.F scMput (fun vs H Q E h => ?_) (fun cdv A' outer s H vs Q E hrF h => ?_)
  · obtain ⟨_, _, _, _, _, _, _, _, _, _, _, _, _, _, rfl, _⟩ := h
    rfl
  obtain ⟨x, wl, hl, vl, al, ws, has, Ls, vxs, vs, aas, As, y, v, rfl, hk, hok, hv, hws, hT, T, lv, q1, q2, q3⟩ := h
  have hrA : Room 4 _ := hrF.mono hM
  obtain ⟨dx, hi⟩ := hk.ins
  refine ⟨_, (pss_cons (ps_expr (pe_callS Gwof hrF rfl Awof.g Awof.F.kp Awof.b (fun σ => L2N.passAt (L2N.takes_of rfl rfl rfl rfl) σ) (pa_cons (pv 1) (pa_cons (pe_fld (pv 0) rfl) pa_nil))))
  (pss_cons (ps_if (pt_cmpR op_ge (pe_callB call_len_seq (by rfl) B.len (by decide +kernel) (pa_cons (pe_fld (pv 0) rfl) pa_nil)) (pe_glob (v := .int 20) rfl most ⟨_, rfl⟩) (nomark _)) (pss_one (L2N.ps_raise rfl (L2N.takes_of rfl rfl rfl rfl) (L2N.pmk_own PySem.F.excBase_ValueError RF.x RF.g RF.k (raises_own RF.b RF.t) rfl))) pss_nil)
  (pss_cons (ps_expr (pe_bm PySem.F.plainAttrs_list PySem.F.slot_list_append PySem.F.type_list_append mt_append (pe_fld (pv 0) rfl) (pa_cons (pv 1) pa_nil)))
  (pss_cons (ps_expr (pe_bm PySem.F.plainAttrs_list PySem.F.slot_list_append PySem.F.type_list_append mt_append (pe_fld (pv 0) rfl) (pa_cons (pe_call Gans hrA (by rfl) Aans.g Aans.F.kp Aans.b .nil pass0 (pa_cons (pv 1) (pa_cons (pe_fld (pv 0) rfl) pa_nil))) pa_nil)))
  (pss_one (ps_ret (pe_op op_sub (pe_callB call_len_seq (by rfl) B.len (by decide +kernel) (pa_cons (pe_fld (pv 0) rfl) pa_nil)) pe_int))))))), ?_⟩
  refine ⟨_, rfl, _, rfl, x, C, dx, _, _, rfl, hi, Z.cl, Z.nw, rfl, y, wl, v, ws, rfl, hok, hv, hk.w, hws, hT, fun m hm H1 e1 => ?_, fun hn H1 e1 => q1 hn H1 e1⟩
  have k1 := hk.keep e1
  obtain ⟨dx1, hi1⟩ := k1.ins
  refine ⟨_, rfl, x, C, dx1, _, _, rfl, hi1, Z.cl, Z.nv, rfl, vl, vxs, rfl, .inl (sq_of k1.v), ?_⟩
  rw [Paired.length k1.vw]
  (repeat (first | (refine ⟨_, _, _, _, rfl, rfl, st_of hp, rfl, ?_⟩) | (refine ⟨_, rfl, ?_⟩) | (refine ⟨_, _, rfl, rfl, ?_⟩) | (refine ⟨⟨by decide, by decide⟩, ?_⟩) | (refine ⟨(by show (0 : Int) < _; decide), ?_⟩) | (refine ⟨rfl, ?_⟩) | (refine ⟨(by show _ ≠ (0 : Int); omega), ?_⟩) | (refine ⟨.inl ⟨by decide, by decide⟩, ?_⟩) | (refine ⟨(by assumption : CDivN _ _), ?_⟩) | (refine ite_y (by decide) ?_) | (refine ite_n (by decide) ?_) | (refine ite_y rfl ?_) | (refine ite_n Bool.false_ne_true ?_)))
  refine ite2 (fun hd => ?_) (fun hd => ?_)
  · have : (20 : Int) ≤ vs.length := of_decide_eq_true hd
    exact q2 m hm (by omega) H1 e1
  have l20 : vs.length < 20 := by have : ¬ (20 : Int) ≤ vs.length := fun z => hd (decide_eq_true z); omega
  obtain ⟨g, q⟩ := q3 m hm l20
  have lvx : vxs.length = vs.length := Paired.length k1.vw
  refine ⟨_, rfl, x, C, dx1, _, _, rfl, hi1, Z.cl, Z.nv, rfl, .inl ⟨rfl, _, sq_of k1.v⟩, _, rfl, vl, vxs, y, rfl, rfl, k1.v, sz_lt (by omega), ?_⟩
  have m2 : XM [vl] H1 (upd H1 vl (.lst (vxs ++ [y]))) := XM.upd k1.v List.mem_cons_self
  have ml1 : ∀ b ∈ [vl], ∃ xs, H1 b = some (.lst xs) := fun b hb => by rw [List.mem_singleton.mp hb]; exact ⟨_, k1.v⟩
  have v2 : (upd H1 vl (.lst (vxs ++ [y]))) vl = some (.lst (vxs ++ [y])) := upd_same
  generalize upd H1 vl (.lst (vxs ++ [y])) = H2 at *
  have hi2 : H2 x = some (.ins C dx1 (Flds wl hl vl al)) := m2.off ml1 (fun _ z => nomatch z) (fun _ z => nomatch z) hi1
  have no : ∀ {b : Addr}, b ≠ vl → b ∉ [vl] := fun n z => n (List.mem_singleton.mp z)
  have h2 : HeapsAt H2 hl has Ls := ⟨m2.at_ _ _ (fun _ z => nomatch z) (no hk.n2) k1.h.1, L2.Paired.mapP k1.h.2 fun _ _ z => m2.off ml1 (fun _ z => nomatch z) (fun _ z => nomatch z) z⟩
  have a2 : HeapsAt H2 al aas As := ⟨m2.at_ _ _ (fun _ z => nomatch z) (no hk.n3.symm) k1.a.1, L2.Paired.mapP k1.a.2 fun _ _ z => m2.off ml1 (fun _ z => nomatch z) (fun _ z => nomatch z) z⟩
  have w2 : H2 wl = some (.lst (ws.map V.int)) := m2.at_ _ _ (fun _ z => nomatch z) (no hk.n5) k1.w
  have vw2 : Paired (fun x v => VAt H2 v x) (vxs ++ [y]) (vs ++ [v]) := paired_snoc (L2.Paired.mapP k1.vw fun x v z => m2.view ml1 v x z) (m2.view ml1 v y (e1.view v y hv))
  refine ⟨_, rfl, x, C, dx1, _, _, rfl, hi2, Z.cl, Z.na, rfl, .inl ⟨rfl, _, sq_of a2.1⟩, _, rfl, _, rfl, x, C, dx1, _, _, rfl, hi2, Z.cl, Z.nh, rfl, y, hl, has, v, Ls, _, rfl, True.intro, g, m2.view ml1 v y (e1.view v y hv), h2, T, fun H3 d e3 hd3 h3 => ?_⟩
  have a3 := heaps_ex e3 a2
  have laas : aas.length = vs.length := by rw [Paired.length a3.2, hk.la]
  refine ⟨al, aas.map V.ref, _, rfl, rfl, a3.1, sz_lt (by rw [List.length_map]; omega), ?_⟩
  rw [show aas.map V.ref ++ [V.ref d] = (aas ++ [d]).map V.ref by rw [List.map_append]; rfl]
  have m4 : XM [al] H3 (upd H3 al (.lst ((aas ++ [d]).map V.ref))) := XM.upd a3.1 List.mem_cons_self
  have ml3 : ∀ b ∈ [al], ∃ xs, H3 b = some (.lst xs) := fun b hb => by rw [List.mem_singleton.mp hb]; exact ⟨_, a3.1⟩
  have al4 : (upd H3 al (.lst ((aas ++ [d]).map V.ref))) al = some (.lst ((aas ++ [d]).map V.ref)) := upd_same
  generalize upd H3 al (.lst ((aas ++ [d]).map V.ref)) = H4 at *
  have na : ∀ {b : Addr}, b ≠ al → b ∉ [al] := fun n z => n (List.mem_singleton.mp z)
  have k4 : KAt C H4 x wl hl vl al ws has Ls (vxs ++ [y]) (vs ++ [v]) (aas ++ [d]) (As ++ [ansL Ls v]) := ⟨⟨dx1, m4.off ml3 (fun _ z => nomatch z) (fun _ z => nomatch z) (e3 _ _ hi2)⟩, m4.at_ _ _ (fun _ z => nomatch z) (na hk.n6) (e3 _ _ w2), ⟨m4.at_ _ _ (fun _ z => nomatch z) (na hk.n1) (e3 _ _ h2.1), L2.Paired.mapP h2.2 fun _ _ z => m4.off ml3 (fun _ z => nomatch z) (fun _ z => nomatch z) (e3 _ _ z)⟩, m4.at_ _ _ (fun _ z => nomatch z) (na hk.n3) (e3 _ _ v2), L2.Paired.mapP vw2 fun x v z => m4.view ml3 v x ((XT.of_ex e3).view v x z),
    ⟨al4, paired_snoc (L2.Paired.mapP a3.2 fun _ _ z => m4.off ml3 (fun _ z => nomatch z) (fun _ z => nomatch z) z) (m4.off ml3 (fun _ z => nomatch z) (fun _ z => nomatch z) h3)⟩, by rw [List.length_append, List.length_append, hk.la]; rfl, hk.n1, hk.n2, hk.n3, hk.n4, hk.n5, hk.n6⟩
  have m14 : XM [vl, al] H H4 := ((XM.of e1).trans ((m2.mono fun a h => by rw [List.mem_singleton.mp h]; exact List.mem_cons_self).trans (XM.ex e3))).trans (m4.mono fun a h => List.mem_cons_of_mem _ h)
  have hi4 := k4.ins
  obtain ⟨dx4, hi4⟩ := hi4
  refine ⟨_, rfl, x, C, dx4, _, _, rfl, hi4, Z.cl, Z.nv, rfl, vl, _, rfl, .inl (sq_of k4.v), _, _, rfl, rfl, ?_⟩
  show Q (.int ((((vxs ++ [y]).length : Nat) : Int) - 1)) H4
  rw [show ((((vxs ++ [y]).length : Nat) : Int) - 1) = vs.length by rw [List.length_append, lvx]; show ((vs.length + 1 : Nat) : Int) - 1 = vs.length; omega]
  exact q H4 d m14 (New.back ((XM.of e1).trans m2) (fun b hb => by rw [List.mem_singleton.mp hb]; exact ⟨_, hk.v⟩) (New.of hd3)) k4
end
end K08

namespace K08
open PySem PySem.Spec PyProof.Rows L2 Evl KB KH KS
section
variable {P : Program} {w : World} {K : PySem.W.Frag} {mg : Str → Option Value} {base : Heap} {σ : L2.St} {H H' : Hp} {t1 t2 t3 : TE} {tA : TA} {i j : Nat} {v : V} {d : Nat} {Z : V → Hp → Prop}
/-! ### the law's small defs -/
def spWhole : Sp := SpF 1 (fun vs _ => ∃ i, vs = [.int i]) fun _ v _ => v = .bl true
theorem ok_whole {f : Addr} {fd : FuncData} {k : Nat} (A : FnAt K mg "_law_whole" sL_whole PL_whole f fd) (B : Bt mg) : FnOk P w K mg base CX0 (k + 1) f fd PL_whole spWhole := by
  refine A.F.ok scL_whole (fun vs H Q E h => h.1) (fun cdv A' outer s H vs Q E hr h => ?_)
  obtain ⟨_, ⟨i, rfl⟩, q⟩ := h
  refine ⟨_, (pss_one (ps_ret (pe_and (pe_callB call_isi (by rfl) B.isinstance (by decide +kernel) (pa_cons (pv 0) (pa_cons (pe_bltn (v := .ty "int") (u := .type "int") (by rfl) B.int (by decide +kernel) rfl) pa_nil))) (pe_one (pe_not (pe_callB call_isi (by rfl) B.isinstance (by decide +kernel) (pa_cons (pv 0) (pa_cons (pe_bltn (v := .ty "bool") (u := .type "bool") (by rfl) B.bool (by decide +kernel) rfl) pa_nil)))))))), ?_⟩
  refine ⟨_, rfl, .int i, .ty "int", .type "int", .type "int", true, rfl, (.ty "int"), .base (.int i), kit_ty (by decide +kernel), true, rfl, ?_⟩
  refine ⟨_, rfl, .int i, .ty "bool", .type "int", .type "bool", false, rfl, (.ty "bool"), .base (.int i), kit_ty (by decide +kernel), false, rfl, ?_⟩
  exact q _ _ (Ex.refl _) rfl
open KP
def spAtB (K : PySem.W.Frag) (N : Nat) : Sp := SpF 2 (fun vs H => ∃ (a : Addr) (ns : List Int) (k : Int), vs = [.ref a, .int k] ∧ SqL K H a (ns.map V.int) ∧ (∀ n ∈ ns, n.natAbs < 2 ^ N) ∧ 0 ≤ k) fun _ v H => IsB N v H
theorem ok_at {f : Addr} {fd : FuncData} {k N : Nat} (A : FnAt K mg "_law_at" sL_at PL_at f fd) (B : Bt mg) : FnOk P w K mg base CX0 (k + 1) f fd PL_at (spAtB K N) := by
  refine A.F.ok scL_at (fun vs H Q E h => h.1) (fun cdv A' outer s H vs Q E hr h => ?_)
  obtain ⟨_, ⟨a, ns, k, rfl, hS, hN, h0⟩, q⟩ := h
  refine ⟨_, (pss_cons (ps_if (pt_cmpR op_lt (pv 1) (pe_callB call_len_seq (by rfl) B.len (by decide +kernel) (pa_cons (pv 0) pa_nil)) (nomark _)) (pss_one (ps_ret (pe_ix (r := rIxL K) ix_list (pv 0) (pv 1) (fun _ _ => rfl)))) pss_nil)
  (pss_one (ps_ret pe_int))), ?_⟩
  refine ⟨.int k, rfl, .ref a, rfl, a, _, rfl, .inl hS, k, ((ns.map V.int).length : Int), rfl, rfl, _, rfl, ?_⟩
  refine ite2 (fun hd => ?_) (fun hd => ?_)
  · have hlt : k < (ns.map V.int).length := of_decide_eq_true hd
    have hk : k.toNat < ns.length := by rw [List.length_map] at hlt; omega
    refine ⟨.ref a, rfl, .int k, rfl, a, _, k, .int ns[k.toNat], rfl, rfl, hS, ?_, q _ _ (Ex.refl _) ⟨_, rfl, hN _ (List.getElem_mem _)⟩⟩
    have e := atI_nat (xs := ns.map V.int) (j := k.toNat) (v := V.int ns[k.toNat]) (by rw [List.getElem?_map, List.getElem?_eq_getElem hk]; rfl)
    rwa [show ((k.toNat : Nat) : Int) = k by omega] at e
  · exact q _ _ (Ex.refl _) ⟨0, rfl, Nat.pow_pos (by omega)⟩
def spValue : Sp := SpF 1 (fun vs _ => ∃ i, vs = [.int i]) fun _ v H => IsInt v H
theorem ok_value {f : Addr} {fd : FuncData} {k : Nat} (A : FnAt K mg "_law_value" sL_value PL_value f fd) : FnOk P w K mg base CX0 (k + 1) f fd PL_value spValue := by
  refine A.F.ok scL_value (fun vs H Q E h => h.1) (fun cdv A' outer s H vs Q E hr h => ?_)
  obtain ⟨_, ⟨i, rfl⟩, q⟩ := h
  refine ⟨_, (pss_cons (ps_if (pt_cmpR op_eq (pe_op op_mod (pv 0) pe_int) pe_int (nomark _)) (pss_one (ps_ret (pe_op op_sub (pe_op op_mod (pe_op op_fdiv (pv 0) pe_int) pe_int) pe_int))) pss_nil)
  (pss_cons (ps_if (pt_cmpR op_eq (pe_op op_mod (pv 0) pe_int) pe_int (nomark _)) (pss_one (ps_ret (pe_op op_sub (pe_op op_mod (pe_op op_fdiv (pv 0) pe_int) pe_int) pe_int))) pss_nil)
  (pss_cons (ps_if (pt_cmpR op_eq (pe_op op_mod (pv 0) pe_int) pe_int (nomark _)) (pss_one (ps_ret (pe_op op_mul (pe_op op_modN (pe_op op_fdiv (pv 0) pe_int) (pe_op op_pow pe_int pe_int)) (pe_op op_sub pe_int (pe_op op_mul pe_int (pe_op op_mod (pe_op op_fdiv (pv 0) pe_int) pe_int)))))) pss_nil)
  (pss_one (ps_ret (pe_op op_mod (pe_op op_fdiv (pv 0) pe_int) pe_int)))))), ?_⟩
  (repeat (first | (refine ⟨_, rfl, ?_⟩) | (refine ⟨_, _, rfl, rfl, ?_⟩) | (refine ⟨⟨by decide, by decide⟩, ?_⟩) | (refine ⟨(by show (0 : Int) < _; decide), ?_⟩) | (refine ⟨rfl, ?_⟩) | (refine ⟨(by show _ ≠ (0 : Int); omega), ?_⟩) | (refine ⟨.inl ⟨by decide, by decide⟩, ?_⟩) | (refine ⟨(by assumption : CDivN _ _), ?_⟩)))
  refine ite2 (fun hd => ?_) (fun hd => ?_)
  · (repeat (first | (refine ⟨_, rfl, ?_⟩) | (refine ⟨_, _, rfl, rfl, ?_⟩) | (refine ⟨⟨by decide, by decide⟩, ?_⟩) | (refine ⟨(by show (0 : Int) < _; decide), ?_⟩) | (refine ⟨rfl, ?_⟩) | (refine ⟨(by show _ ≠ (0 : Int); omega), ?_⟩) | (refine ⟨.inl ⟨by decide, by decide⟩, ?_⟩) | (refine ⟨(by assumption : CDivN _ _), ?_⟩)))
    exact q _ _ (Ex.refl _) ⟨_, rfl⟩
  (repeat (first | (refine ⟨_, rfl, ?_⟩) | (refine ⟨_, _, rfl, rfl, ?_⟩) | (refine ⟨⟨by decide, by decide⟩, ?_⟩) | (refine ⟨(by show (0 : Int) < _; decide), ?_⟩) | (refine ⟨rfl, ?_⟩) | (refine ⟨(by show _ ≠ (0 : Int); omega), ?_⟩) | (refine ⟨.inl ⟨by decide, by decide⟩, ?_⟩) | (refine ⟨(by assumption : CDivN _ _), ?_⟩)))
  refine ite2 (fun hd => ?_) (fun hd => ?_)
  · (repeat (first | (refine ⟨_, rfl, ?_⟩) | (refine ⟨_, _, rfl, rfl, ?_⟩) | (refine ⟨⟨by decide, by decide⟩, ?_⟩) | (refine ⟨(by show (0 : Int) < _; decide), ?_⟩) | (refine ⟨rfl, ?_⟩) | (refine ⟨(by show _ ≠ (0 : Int); omega), ?_⟩) | (refine ⟨.inl ⟨by decide, by decide⟩, ?_⟩) | (refine ⟨(by assumption : CDivN _ _), ?_⟩)))
    exact q _ _ (Ex.refl _) ⟨_, rfl⟩
  (repeat (first | (refine ⟨_, rfl, ?_⟩) | (refine ⟨_, _, rfl, rfl, ?_⟩) | (refine ⟨⟨by decide, by decide⟩, ?_⟩) | (refine ⟨(by show (0 : Int) < _; decide), ?_⟩) | (refine ⟨rfl, ?_⟩) | (refine ⟨(by show _ ≠ (0 : Int); omega), ?_⟩) | (refine ⟨.inl ⟨by decide, by decide⟩, ?_⟩) | (refine ⟨(by assumption : CDivN _ _), ?_⟩)))
  refine ite2 (fun hd => ?_) (fun hd => ?_)
  · (repeat (first | (refine ⟨_, rfl, ?_⟩) | (refine ⟨_, _, rfl, rfl, ?_⟩) | (refine ⟨⟨by decide, by decide⟩, ?_⟩) | (refine ⟨(by show (0 : Int) < _; decide), ?_⟩) | (refine ⟨rfl, ?_⟩) | (refine ⟨(by show _ ≠ (0 : Int); omega), ?_⟩) | (refine ⟨.inl ⟨by decide, by decide⟩, ?_⟩) | (refine ⟨(by assumption : CDivN _ _), ?_⟩)))
    refine ⟨(by show (10 : Int) ^ 40 ≠ 0; decide), ?_⟩
    (repeat (first | (refine ⟨_, rfl, ?_⟩) | (refine ⟨_, _, rfl, rfl, ?_⟩) | (refine ⟨⟨by decide, by decide⟩, ?_⟩) | (refine ⟨(by show (0 : Int) < _; decide), ?_⟩) | (refine ⟨rfl, ?_⟩) | (refine ⟨(by show _ ≠ (0 : Int); omega), ?_⟩) | (refine ⟨.inl ⟨by decide, by decide⟩, ?_⟩) | (refine ⟨(by assumption : CDivN _ _), ?_⟩)))
    refine ⟨.inr ?_, q _ _ (Ex.refl _) ⟨_, rfl⟩⟩
    show -2 ^ 64 < 1 - 2 * (i / 9 % 2) ∧ 1 - 2 * (i / 9 % 2) < 2 ^ 64
    constructor <;> omega
  (repeat (first | (refine ⟨_, rfl, ?_⟩) | (refine ⟨_, _, rfl, rfl, ?_⟩) | (refine ⟨⟨by decide, by decide⟩, ?_⟩) | (refine ⟨(by show (0 : Int) < _; decide), ?_⟩) | (refine ⟨rfl, ?_⟩) | (refine ⟨(by show _ ≠ (0 : Int); omega), ?_⟩) | (refine ⟨.inl ⟨by decide, by decide⟩, ?_⟩) | (refine ⟨(by assumption : CDivN _ _), ?_⟩)))
  exact q _ _ (Ex.refl _) ⟨_, rfl⟩
def TupI (n : Nat) (v : V) (H : Hp) : Prop := ∃ (p : Addr) (xs : List Int), v = .ref p ∧ H p = some (.tup (xs.map V.int)) ∧ xs.length = n
theorem TupI.pers (n : Nat) (v : V) : Pers (TupI n v) := fun H H' e ⟨p, xs, a, b, c⟩ => ⟨p, xs, a, e _ _ b, c⟩
/-- a row of a width -/
def spRow (N : Nat) : Sp := fun vs H Q _ => ∃ (c : Int) (m : Int), vs = [.int c, .int m] ∧ c.natAbs < 2 ^ N ∧ 0 ≤ m ∧ m ≤ 100 ∧ ∀ v H', Ex H H' → TupI m.toNat v H' → Q v H'
theorem ok_row {f f1 : Addr} {fd fd1 : FuncData} {k N : Nat} (A : FnAt K mg "_law_row" sL_row PL_row f fd) (Avalue : FnAt K mg "_law_value" sL_value PL_value f1 fd1) (B : Bt mg) (hN : N ≤ 2000000) : FnOk P w K mg base CX0 (k + 2) f fd PL_row (spRow N) := by
  refine A.F.ok scL_row (fun vs H Q E h => ?_) (fun cdv A' outer s H vs Q E hr h => ?_)
  · obtain ⟨_, _, rfl, _⟩ := h
    rfl
  obtain ⟨c, m, rfl, hc, h0, h1, q⟩ := h
  have hr1 : Room 1 _ := hr.mono (by omega)
  have Gvalue : FnOk P w K mg base CX0 1 f1 fd1 PL_value spValue := ok_value Avalue
  refine ⟨_, (pss_one (ps_ret (pe_callTy call_tuple_of (by rfl) B.tuple (by decide +kernel) (pa_cons (pe_lc (own := [("_law_k", 2)]) (g := gName 2) (tt := tYes) rfl scL_row.nd (pi_range1 rfl B.range (pa_cons (pv 1) pa_nil)) (blkOk_by (N := NL_row) (sc := defScope sL_row) (by decide +kernel)) (fun _ _ _ _ _ => pg_name (i := 2) scL_row.nd rfl (.inl rfl)) (fun _ _ _ _ _ => pts_nil) (fun _ _ _ _ _ => (pe_call Gvalue hr1 (by rfl) Avalue.g Avalue.F.kp Avalue.b .nil pass0 (pa_cons (pe_op op_fdiv (pe_op KP.op_powB (pe_op op_add (pe_op op_mul (pv 0) pe_int) (pe_op op_mul pe_int (pv 2))) pe_int) pe_int) pa_nil)))) pa_nil)))), ?_⟩
  have hE : ∀ (i : Nat) (H1 : Hp), Ex H H1 → (i : Int) < m → Est (tCall spValue [] E0 (tCons (tOp (rI CDiv fun i j => V.int (i / j)) (tOp (rI CPowB fun i j => V.int (i ^ j.toNat)) (tOp (rI0 fun i j => V.int (i + j)) (tOp (rI CMul fun i j => V.int (i * j)) (tVar 0) (tC (.int 48271))) (tOp (rI CMul fun i j => V.int (i * j)) (tC (.int 7919)) (tVar 2))) (tC (.int 3))) (tC (.int 11))) tNil)) [some (.int c), some (.int m), some (.int (i : Int))] H1 IsInt := fun i H1 e hi H2 e2 Q1 q1 => by
    refine ⟨_, rfl, _, _, rfl, rfl, .inr ⟨by decide, by decide⟩, _, rfl, _, _, rfl, rfl, .inl ⟨by decide, by decide⟩, _, _, rfl, rfl, _, _, rfl, rfl, ⟨by decide, ?_⟩, _, _, rfl, rfl, ⟨by decide, by decide⟩, rfl, ⟨_, rfl⟩, fun v H3 e3 h3 => q1 v H3 e3 h3⟩
    have hb := bits_le (abs_row c i N hc (by omega) (by omega))
    have hb2 : (Builtin.Int.intBits (c * 48271 + 7919 * (i : Int)) : Int) ≤ 2000020 := by omega
    show (Builtin.Int.intBits (c * 48271 + 7919 * (i : Int)) : Int) * 3 ≤ 2 ^ 27
    omega
  refine (est_tupOf (S := AllZ IsInt m.toNat) (R := TupI m.toNat) (est_lcR (n := m) (σ := [some (.int c), some (.int m), none]) (vs := [2]) (j := 2) (ea_cons (ev_var (i := 1) rfl) ea_nil) (by omega) (by intro _; rfl) hE IsInt.pers StL.int) (AllZ.pers IsInt.pers) fun p xs H' hp ⟨l, ha⟩ => by
    obtain ⟨ns, e⟩ := ints_of ha
    exact ⟨p, ns, rfl, by rw [hp, e], by rw [e, List.length_map] at l; exact l⟩) H (Ex.refl H) Q fun v H' e h => q v H' e h
end
end K08

namespace K08
open PySem PySem.Spec PyProof.Rows L2 Evl KB KH KS
section
variable {P : Program} {w : World} {K : PySem.W.Frag} {mg : Str → Option Value} {base : Heap} {σ : L2.St} {H H' : Hp} {t1 t2 t3 : TE} {tA : TA} {i j : Nat} {v : V} {d : Nat} {Z : V → Hp → Prop}
open KP
theorem est_atB {N : Nat} {s : Addr} {ns : List Int} {k : Int} (h1 : Ev t1 σ H (.ref s)) (h2 : Ev t2 σ H (.int k)) (hs : SqL K H s (ns.map V.int)) (hN : ∀ n ∈ ns, n.natAbs < 2 ^ N) (hk : 0 ≤ k) : Est (tCall (spAtB K N) [] E0 (tCons t1 (tCons t2 tNil))) σ H (IsB N) := fun H1 e Q q =>
  h1 H1 e _ fun H2 e2 => h2 H2 (e.trans e2) _ fun H3 e3 => ⟨rfl, ⟨s, ns, k, rfl, ex_l ((e.trans e2).trans e3) hs, hN, hk⟩, fun v H4 e4 hv => q v H4 ((e2.trans e3).trans e4) hv⟩
theorem est_at {N : Nat} {s : Addr} {ns : List Int} {k : Int} (h1 : Ev t1 σ H (.ref s)) (h2 : Ev t2 σ H (.int k)) (hs : SqL K H s (ns.map V.int)) (hk : 0 ≤ k) (hN : ∀ n ∈ ns, n.natAbs < 2 ^ N) : Est (tCall (spAtB K N) [] E0 (tCons t1 (tCons t2 tNil))) σ H IsInt := (est_atB h1 h2 hs hN hk).imp fun _ _ _ h => h.int
def In (a b : Int) (v : V) (_ : Hp) : Prop := ∃ c : Int, v = .int c ∧ a ≤ c ∧ c < b
theorem In.pers (a b : Int) (v : V) : Pers (In a b v) := fun _ _ _ h => h
theorem StL.In (a b : Int) : StL (In a b) := fun _ _ _ _ _ _ h => h
theorem est_mod {k : Int} (h : Est t1 σ H IsInt) (hk : 0 < k) : Est (tOp (rI (fun _ j => 0 < j) fun i j => V.int (i % j)) t1 (tC (.int k))) σ H (In 0 k) := fun H1 e Q q =>
  h H1 e _ fun v H2 e2 ⟨c, ev⟩ => ⟨c, k, ev, rfl, hk, q _ H2 e2 ⟨_, rfl, by show 0 ≤ c % k; exact Int.emod_nonneg _ (by omega), Int.emod_lt_of_pos _ hk⟩⟩
theorem est_one {a b : Int} (h : Est t1 σ H (In a b)) : Est (tOp (rI0 fun i j => V.int (i + j)) (tC (.int 1)) t1) σ H (In (1 + a) (1 + b)) := fun H1 e Q q =>
  h H1 e _ fun v H2 e2 ⟨c, ev, ha, hb⟩ => ⟨1, c, rfl, ev, q _ H2 e2 ⟨_, rfl, by omega, by omega⟩⟩
theorem all_flat {Z : V → Hp → Prop} {n k : Nat} {xs : List V} {H : Hp} (h : AllZ Z n xs H) : AllZ Z (k * n) (List.replicate k xs).flatten H := by
  refine ⟨by simp [h.1], fun v hv => ?_⟩
  obtain ⟨l, hl, hv⟩ := List.mem_flatten.mp hv
  rw [List.eq_of_mem_replicate hl] at hv
  exact h.2 v hv
theorem est_rep {n : Nat} {k : Int} (h : EstA tA σ H (AllZ Z n)) (pz : ∀ v, Pers (Z v)) (h2 : Ev t2 σ H (.int k)) (h0 : 0 ≤ k) (h1 : k ≤ 1000) (hn : n ≤ 10) : Est (tOp rRep (tLst tA) t2) σ H (fun v H' => ∃ p xs, v = .ref p ∧ H' p = some (.lst xs) ∧ AllZ Z (k.toNat * n) xs H') := fun H1 e Q q =>
  h H1 e _ fun vs H2 e2 ha => ⟨sz_of (by have := ha.1; omega), fun p hp => h2 _ ((e.trans e2).trans (Ex.new hp)) _ fun H3 e3 => by
    refine ⟨p, k, vs, rfl, rfl, e3 _ _ upd_same, by omega, by omega, ?_, fun p2 hp2 => ?_⟩
    · rw [ha.1]
      exact sz_of (Nat.le_trans (Nat.mul_le_mul hn (show k.toNat ≤ 1000 by omega)) (by omega))
    · exact q _ _ (((e2.trans (Ex.new hp)).trans e3).trans (Ex.new hp2)) ⟨p2, _, rfl, upd_same, AllZ.pers pz _ _ _ (((Ex.new hp).trans e3).trans (Ex.new hp2)) (all_flat ha)⟩⟩
def IsWs (v : V) (H : Hp) : Prop := ∃ (p : Addr) (ws : List Int), v = .ref p ∧ H p = some (.lst (ws.map V.int)) ∧ 1 ≤ ws.length ∧ ws.length ≤ 10 ∧ ∀ c ∈ ws, 1 ≤ c ∧ c ≤ 6
theorem IsWs.pers (v : V) : Pers (IsWs v) := fun H H' e ⟨p, ws, a, b, c⟩ => ⟨p, ws, a, e _ _ b, c⟩
theorem ins_of {a b : Int} {vs : List V} {H : Hp} (h : ∀ v ∈ vs, In a b v H) : ∃ xs : List Int, vs = xs.map V.int ∧ ∀ c ∈ xs, a ≤ c ∧ c < b := by
  induction vs with
  | nil => exact ⟨[], rfl, fun c hc => absurd hc (by simp)⟩
  | cons v r ih =>
    obtain ⟨xs, e, hx⟩ := ih fun w hw => h w (List.mem_cons_of_mem _ hw)
    obtain ⟨c, ec, hc⟩ := h v List.mem_cons_self
    refine ⟨c :: xs, by rw [e, ec, List.map_cons], fun z hz => ?_⟩
    rcases List.mem_cons.mp hz with rfl | hz
    · exact hc
    · exact hx z hz
theorem ws_of {a b : Int} {n : Nat} {te : TE} (h : Est te σ H (fun v H' => ∃ p xs, v = .ref p ∧ H' p = some (.lst xs) ∧ AllZ (In a b) n xs H')) (h1 : 1 ≤ n) (h2 : n ≤ 10) (ha : 1 ≤ a) (hb : b ≤ 7) : Est te σ H IsWs :=
  h.imp fun v H' _ ⟨p, xs, ev, hp, hl, hz⟩ => by
    obtain ⟨ws, e, hw⟩ := ins_of hz
    rw [e, List.length_map] at hl
    exact ⟨p, ws, ev, by rw [hp, e], by omega, by omega, fun c hc => by have := hw c hc; omega⟩
theorem i01 (k : Bool) : (3 + 3 * (if k = true then 1 else 0) : Int) = 3 ∨ (3 + 3 * (if k = true then 1 else 0) : Int) = 6 := by cases k <;> simp
theorem est_fmod {n : Int} (h : Est t1 σ H IsInt) (h2 : Ev t2 σ H (.int n)) (hn : 0 < n) : Est (tOp (rI (fun _ j => j ≠ 0) fun i j => V.int (i.fmod j)) t1 t2) σ H (In 0 n) := fun H1 e Q q =>
  h H1 e _ fun v H2 e2 ⟨c, ev⟩ => h2 H2 (e.trans e2) _ fun H3 e3 => ⟨c, n, ev, rfl, by show n ≠ 0; omega, q _ H3 (e2.trans e3) ⟨_, rfl, Int.fmod_nonneg_of_pos _ hn, Int.fmod_lt_of_pos _ hn⟩⟩
theorem est_fdivN {c : Int} (h : Est t1 σ H IsInt) (h2 : Ev t2 σ H (.int c)) (h0 : 1 ≤ c) (h1 : c ≤ 1000) : Est (tOp (rI CDivN fun i j => V.int (i.fdiv j)) t1 t2) σ H IsInt := fun H1 e Q q =>
  h H1 e _ fun v H2 e2 ⟨a, ev⟩ => h2 H2 (e.trans e2) _ fun H3 e3 => ⟨a, c, ev, rfl, ⟨by omega, by omega⟩, q _ H3 (e2.trans e3) ⟨_, rfl⟩⟩
def spWidths (K : PySem.W.Frag) (N : Nat) : Sp := fun vs H Q _ => ∃ (s : Addr) (ns : List Int), vs = [.ref s] ∧ SqL K H s (ns.map V.int) ∧ (∀ n ∈ ns, n.natAbs < 2 ^ N) ∧ ∀ v H', Ex H H' → IsWs v H' → Q v H'
theorem ok_widths {f f1 : Addr} {fd fd1 : FuncData} {k N : Nat} (A : FnAt K mg "_law_widths" sL_widths PL_widths f fd) (Aat : FnAt K mg "_law_at" sL_at PL_at f1 fd1) (B : Bt mg) : FnOk P w K mg base CX0 (k + 2) f fd PL_widths (spWidths K N) := by
  refine A.F.ok scL_widths (fun vs H Q E h => ?_) (fun cdv A' outer s H vs Q E hr h => ?_)
  · obtain ⟨s, ns, rfl, _⟩ := h
    rfl
  obtain ⟨sc, ns, rfl, hs, hN, q⟩ := h
  have hr1 : Room 1 _ := hr.mono (by omega)
  have Gat : FnOk P w K mg base CX0 1 f1 fd1 PL_at (spAtB K N) := ok_at Aat B
  refine ⟨_, (pss_cons (ps_set (i := 1) scL_widths.nd rfl (.inl rfl) (pe_call Gat hr1 (by rfl) Aat.g Aat.F.kp Aat.b .nil pass0 (pa_cons (pv 0) (pa_cons pe_int pa_nil))))
  (pss_cons (ps_set (i := 2) scL_widths.nd rfl (.inl rfl) (pe_op op_add pe_int (pe_op op_mod (pv 1) pe_int)))
  (pss_cons (ps_if (pt_cmpR op_eq (pe_op op_mod (pe_op op_fdiv (pv 1) pe_int) pe_int) pe_int (nomark _)) (pss_one (ps_set (i := 2) scL_widths.nd rfl (.inl rfl) (pe_op op_add pe_int (pe_op op_mod (pe_op op_fdiv (pv 1) pe_int) pe_int)))) pss_nil)
  (pss_cons (ps_set (i := 3) scL_widths.nd rfl (.inr rfl) (pe_op op_add pe_int (pe_op op_mul pe_int (pe_callTy call_int1 (by rfl) B.int (by decide +kernel) (pa_cons (pe_cmpR op_eq (pe_op op_mod (pe_op op_fdiv (pv 1) pe_int) pe_int) pe_int (nomark _)) pa_nil)))))
  (pss_cons (ps_if (pt_cmpR op_eq (pe_op op_mod (pe_op op_fdiv (pv 1) pe_int) pe_int) pe_int (nomark _)) (pss_one (ps_ret (pe_op op_rep (pe_lst (pa_cons (pe_op op_add pe_int (pe_op op_mod (pe_call Gat hr1 (by rfl) Aat.g Aat.F.kp Aat.b .nil pass0 (pa_cons (pv 0) (pa_cons pe_int pa_nil))) pe_int)) pa_nil)) (pv 2)))) pss_nil)
  (pss_one (ps_ret (pe_lc (own := [("_law_k", 4)]) (g := gName 4) (tt := tYes) rfl scL_widths.nd (pi_range1 rfl B.range (pa_cons (pv 2) pa_nil)) (blkOk_by (N := NL_widths) (sc := defScope sL_widths) (by decide +kernel)) (fun _ _ _ _ _ => pg_name (i := 4) scL_widths.nd rfl (.inl rfl)) (fun _ _ _ _ _ => pts_nil) (fun _ _ _ _ _ => (pe_op op_add pe_int (pe_op op_modN (pe_op op_fdivN (pe_call Gat hr1 (by rfl) Aat.g Aat.F.kp Aat.b .nil pass0 (pa_cons (pv 0) (pa_cons (pe_op op_add pe_int (pe_op op_mod (pv 4) pe_int)) pa_nil))) (pe_op op_add pe_int (pe_op op_fdiv (pv 4) pe_int))) (pv 3)))))))))))), ?_⟩
  refine w_asg (P := IsInt) (est_at (ev_var rfl) ev_c hs (by omega) hN) fun v1 H1 e1 ⟨head, h1⟩ => ?_
  subst h1
  refine w_asg (P := In 1 4) ((est_one (est_mod (fun H1 e1 Q1 q1 => by (repeat (first | (refine ⟨_, rfl, ?_⟩) | (refine ⟨_, _, rfl, rfl, ?_⟩) | (refine ⟨⟨by decide, by decide⟩, ?_⟩) | (refine ⟨(by show (0 : Int) < _; decide), ?_⟩) | (refine ⟨rfl, ?_⟩) | (refine ⟨(by show _ ≠ (0 : Int); omega), ?_⟩) | (refine ⟨.inl ⟨by decide, by decide⟩, ?_⟩) | (refine ⟨(by assumption : CDivN _ _), ?_⟩))); exact q1 _ _ (Ex.refl _) ⟨_, rfl⟩) (by omega))).imp fun _ _ _ h => h) fun v2 H2 e2 ⟨n0, h2, n0a, n0b⟩ => ?_
  subst h2
  have e02 := e1.trans e2
  refine w_join (fun σ' H' => ∃ n : Int, σ' = [some (.ref sc), some (.int head), some (.int n), none, none] ∧ Ex H H' ∧ 1 ≤ n ∧ n ≤ 10) (fun N hN => ?_) ?_
  · (repeat (first | (refine ⟨_, rfl, ?_⟩) | (refine ⟨_, _, rfl, rfl, ?_⟩) | (refine ⟨⟨by decide, by decide⟩, ?_⟩) | (refine ⟨(by show (0 : Int) < _; decide), ?_⟩) | (refine ⟨rfl, ?_⟩) | (refine ⟨(by show _ ≠ (0 : Int); omega), ?_⟩) | (refine ⟨.inl ⟨by decide, by decide⟩, ?_⟩) | (refine ⟨(by assumption : CDivN _ _), ?_⟩)))
    refine ite2 (fun hd => ?_) (fun hd => ?_)
    · exact w_asg1 (P := In 1 11) ((est_one (est_mod (fun H1 e1 Q1 q1 => by (repeat (first | (refine ⟨_, rfl, ?_⟩) | (refine ⟨_, _, rfl, rfl, ?_⟩) | (refine ⟨⟨by decide, by decide⟩, ?_⟩) | (refine ⟨(by show (0 : Int) < _; decide), ?_⟩) | (refine ⟨rfl, ?_⟩) | (refine ⟨(by show _ ≠ (0 : Int); omega), ?_⟩) | (refine ⟨.inl ⟨by decide, by decide⟩, ?_⟩) | (refine ⟨(by assumption : CDivN _ _), ?_⟩))); exact q1 _ _ (Ex.refl _) ⟨_, rfl⟩) (by omega))).imp fun _ _ _ h => h) fun v H3 e3 ⟨n, hn, ha, hb⟩ => by
        subst hn
        exact hN _ _ ⟨n, rfl, e02.trans e3, by omega, by omega⟩
    · exact hN _ _ ⟨n0, rfl, e02, by omega, by omega⟩
  clear n0a n0b
  rintro σ' H3 ⟨n, rfl, e03, hn1, hn2⟩
  refine w_asg (P := fun v _ => ∃ c : Int, v = .int c ∧ (c = 3 ∨ c = 6)) (fun H1 e1 Q1 q1 => by
    (repeat (first | (refine ⟨_, rfl, ?_⟩) | (refine ⟨_, _, rfl, rfl, ?_⟩) | (refine ⟨⟨by decide, by decide⟩, ?_⟩) | (refine ⟨(by show (0 : Int) < _; decide), ?_⟩) | (refine ⟨rfl, ?_⟩) | (refine ⟨(by show _ ≠ (0 : Int); omega), ?_⟩) | (refine ⟨.inl ⟨by decide, by decide⟩, ?_⟩) | (refine ⟨(by assumption : CDivN _ _), ?_⟩)))
    refine .inr ⟨_, rfl, ?_⟩
    (repeat (first | (refine ⟨_, rfl, ?_⟩) | (refine ⟨_, _, rfl, rfl, ?_⟩) | (refine ⟨⟨by decide, by decide⟩, ?_⟩) | (refine ⟨(by show (0 : Int) < _; decide), ?_⟩) | (refine ⟨rfl, ?_⟩) | (refine ⟨(by show _ ≠ (0 : Int); omega), ?_⟩) | (refine ⟨.inl ⟨by decide, by decide⟩, ?_⟩) | (refine ⟨(by assumption : CDivN _ _), ?_⟩)))
    exact q1 _ _ (Ex.refl _) ⟨_, rfl, i01 _⟩) fun v4 H4 e4 ⟨wide, h4, hw⟩ => ?_
  subst h4
  have e04 := e03.trans e4
  (repeat (first | (refine ⟨_, rfl, ?_⟩) | (refine ⟨_, _, rfl, rfl, ?_⟩) | (refine ⟨⟨by decide, by decide⟩, ?_⟩) | (refine ⟨(by show (0 : Int) < _; decide), ?_⟩) | (refine ⟨rfl, ?_⟩) | (refine ⟨(by show _ ≠ (0 : Int); omega), ?_⟩) | (refine ⟨.inl ⟨by decide, by decide⟩, ?_⟩) | (refine ⟨(by assumption : CDivN _ _), ?_⟩)))
  refine ite2 (fun hd => ?_) (fun hd => ?_)
  · exact w_ret (ws_of (est_rep (n := 1) (k := n) (allz_cons (est_one (est_mod (est_at (ev_var rfl) ev_c (ex_l e04 hs) (by omega) hN) (by omega))) allz_nil (In.pers _ _)) (In.pers _ _) (fun H1 e1 Q1 q1 => by (repeat (first | (refine ⟨_, rfl, ?_⟩) | (refine ⟨_, _, rfl, rfl, ?_⟩) | (refine ⟨⟨by decide, by decide⟩, ?_⟩) | (refine ⟨(by show (0 : Int) < _; decide), ?_⟩) | (refine ⟨rfl, ?_⟩) | (refine ⟨(by show _ ≠ (0 : Int); omega), ?_⟩) | (refine ⟨.inl ⟨by decide, by decide⟩, ?_⟩) | (refine ⟨(by assumption : CDivN _ _), ?_⟩))); exact q1 _ (Ex.refl _)) (by omega) (by omega) (by omega)) (by omega) (by omega) (by omega) (by omega)) fun v H' e hR => q v H' (e04.trans e) hR
  refine at_next ?_
  exact w_ret (ws_of (est_lcR (n := n) (ea_cons (ev_var rfl) ea_nil) (by omega) (fun _ => rfl) (fun i H5 e5 hi => (est_one (a := 0) (b := 6) ((est_fmod (n := wide) (est_fdivN (c := 1 + (i : Int) / 3) (est_at (k := 1 + (i : Int) % 3) (ev_var rfl) (fun H1 e1 Q1 q1 => by (repeat (first | (refine ⟨_, rfl, ?_⟩) | (refine ⟨_, _, rfl, rfl, ?_⟩) | (refine ⟨⟨by decide, by decide⟩, ?_⟩) | (refine ⟨(by show (0 : Int) < _; decide), ?_⟩) | (refine ⟨rfl, ?_⟩) | (refine ⟨(by show _ ≠ (0 : Int); omega), ?_⟩) | (refine ⟨.inl ⟨by decide, by decide⟩, ?_⟩) | (refine ⟨(by assumption : CDivN _ _), ?_⟩))); exact q1 _ (Ex.refl _)) (ex_l (e04.trans e5) hs) (by omega) hN) (fun H1 e1 Q1 q1 => by (repeat (first | (refine ⟨_, rfl, ?_⟩) | (refine ⟨_, _, rfl, rfl, ?_⟩) | (refine ⟨⟨by decide, by decide⟩, ?_⟩) | (refine ⟨(by show (0 : Int) < _; decide), ?_⟩) | (refine ⟨rfl, ?_⟩) | (refine ⟨(by show _ ≠ (0 : Int); omega), ?_⟩) | (refine ⟨.inl ⟨by decide, by decide⟩, ?_⟩) | (refine ⟨(by assumption : CDivN _ _), ?_⟩))); exact q1 _ (Ex.refl _)) (by omega) (by omega)) (fun H1 e1 Q1 q1 => by (repeat (first | (refine ⟨_, rfl, ?_⟩) | (refine ⟨_, _, rfl, rfl, ?_⟩) | (refine ⟨⟨by decide, by decide⟩, ?_⟩) | (refine ⟨(by show (0 : Int) < _; decide), ?_⟩) | (refine ⟨rfl, ?_⟩) | (refine ⟨(by show _ ≠ (0 : Int); omega), ?_⟩) | (refine ⟨.inl ⟨by decide, by decide⟩, ?_⟩) | (refine ⟨(by assumption : CDivN _ _), ?_⟩))); exact q1 _ (Ex.refl _)) (by omega)).imp fun v _ _ ⟨c, a, b, b'⟩ => ⟨c, a, b, by omega⟩)).imp fun v _ _ h => h) (In.pers _ _) (StL.In _ _)) (by omega) (by omega) (by omega) (by omega)) fun v H' e hR => q v H' (e04.trans e) hR
end
end K08

namespace K08
open PySem PySem.Spec PyProof.Rows L2 Evl KB KH KS
section
variable {P : Program} {w : World} {K : PySem.W.Frag} {mg : Str → Option Value} {base : Heap} {σ : L2.St} {H H' : Hp}
/-! ### the law's own heaps -/
def spLput : Sp := fun vs H Q _ => ∃ (d q : Addr) (L : Rows) (n : List Int) (c : Int), vs = [.ref d, .ref q, .int c] ∧ HeapAt H d L ∧ H q = some (.tup (n.map V.int)) ∧ (valI L n).getD 0 + c ≠ 0 ∧ L.length ≤ 1000 ∧ ∀ H', Off d H H' → HeapAt H' d (putI L n ((valI L n).getD 0 + c)) → Q .non H'
theorem ok_lput {f : Addr} {fd : FuncData} {k : Nat} (A : FnAt K mg "_law_put" sL_put PL_put f fd) : FnOk P w K mg base CX0 (k + 1) f fd PL_put spLput := by
  refine A.F.ok scL_put (fun vs H Q E h => ?_) (fun cdv A' outer s H vs Q E hr h => ?_)
  · obtain ⟨_, _, _, _, _, rfl, _⟩ := h
    rfl
  obtain ⟨d, qa, L, n, c, rfl, hd, hq, h0, hl, q⟩ := h
  have hu : (A'.deeper (envOfC "_law_put" (defScope sL_put) s.heap.objs.size f cdv)).units + 1 < cLine := by have := hr.un; omega
  refine ⟨_, (pss_cons (ps_set (i := 3) scL_put.nd rfl (.inl rfl) (pe_op op_add (pe_dget2 hu (pv 0) (pv 1) pe_int ⟨rfl, rfl, rfl, rfl⟩) (pv 2)))
  (pss_one (ps_if (pt_cmpR op_eq (pv 3) pe_int (nomark _)) pss_never (pss_one (ps_dput hu (pv 0) (pv 1) (pv 3) rfl))))), ?_⟩
  refine ⟨_, rfl, d, rfl, .inr ⟨_, .inl hd⟩, _, rfl, _, get_at hd hq, ?_⟩
  have gd : ((valI L n).map V.int).getD (.int 0) = .int ((valI L n).getD 0) := by cases valI L n <;> rfl
  rw [gd]
  refine ⟨_, rfl, _, _, rfl, rfl, ?_⟩
  (repeat (first | (refine ⟨_, rfl, ?_⟩) | (refine ⟨_, _, rfl, rfl, ?_⟩) | (refine ⟨⟨by decide, by decide⟩, ?_⟩) | (refine ⟨(by show (0 : Int) < _; decide), ?_⟩) | (refine ⟨rfl, ?_⟩) | (refine ⟨(by show _ ≠ (0 : Int); omega), ?_⟩) | (refine ⟨.inl ⟨by decide, by decide⟩, ?_⟩) | (refine ⟨(by assumption : CDivN _ _), ?_⟩)))
  refine ite_n (fun z => h0 (V.int.inj (of_decide_eq_true z))) ?_
  exact ⟨_, rfl, _, rfl, _, rfl, d, _, rfl, put_at hd hq (by omega), q _ Off.self upd_same⟩
theorem valI_at : ∀ {L : Rows} {i : Nat} {p : List Int × Int}, (L.map (·.1)).Nodup → L[i]? = some p → valI L p.1 = some p.2
  | z :: r, 0, p, _, h => by
    cases h
    unfold valI
    exact if_pos rfl
  | z :: r, i + 1, p, nd, h => by
    rw [List.map_cons, List.nodup_cons] at nd
    have hm : p ∈ r := List.mem_of_getElem? (by simpa using h)
    unfold valI
    rw [if_neg (fun e => nd.1 (by rw [e]; exact List.mem_map.mpr ⟨p, hm, rfl⟩))]
    exact valI_at nd.2 (by simpa using h)
def spAnswer (K : PySem.W.Frag) : Sp := fun vs H Q _ => ∃ (x : V) (tl : Addr) (lds : List Addr) (v : View) (Ls : List Rows) (W : Int → Int), vs = [x, .ref tl] ∧ GoodV Ls.length W v ∧ VAt H v x ∧ HeapsAt H tl lds Ls ∧ Tabs W Ls ∧ ∀ H' d, Ex H H' → HeapAt H' d (ansL Ls v) → Q (.ref d) H'
/-- what stands while a dict is walked -/
structure Wk (H G : Hp) (d D : Addr) (od : Obj) (L M : Rows) : Prop where
  o : ∀ a o, a ≠ d → H a = some o → G a = some o
  f : G d = some (.frz od (.dT (L.map entI)))
  m : HeapAt G D M
theorem Wk.back {H G : Hp} {d D : Addr} {od : Obj} {L M : Rows} (h : Wk H G d D od L M) (hd : HeapAt H d L) : Ex H (upd G d (.dT (L.map entI))) ∧ HeapAt (upd G d (.dT (L.map entI))) D M := by
  have n : D ≠ d := fun z => by have := h.m; unfold HeapAt at this; rw [z, h.f] at this; cases this
  refine ⟨fun a o z => ?_, by unfold HeapAt; rw [upd_ne n]; exact h.m⟩
  by_cases e : a = d
  · rw [e, upd_same]
    rw [e] at z
    exact hd.symm.trans z
  · rw [upd_ne e]
    exact h.o a o e z
theorem ok_answer {f f1 : Addr} {fd fd1 : FuncData} {k : Nat} (A : FnAt K mg "_law_answer" sL_answer PL_answer f fd) (Aput : FnAt K mg "_law_put" sL_put PL_put f1 fd1) (B : B8 mg) : FnOk P w K mg base CX0 (k + 2) f fd PL_answer (spAnswer K) := by
  refine A.F.ok scL_answer (fun vs H Q E h => ?_) (fun cdv A' outer s H vs Q E hr h => ?_)
  · obtain ⟨_, _, _, _, _, _, rfl, _⟩ := h
    rfl
  obtain ⟨x, tl, lds, v, Ls, W, rfl, g, hv, hh, T, q⟩ := h
  have hr1 : Room 1 _ := hr.mono (by omega)
  have hu : (A'.deeper (envOfC "_law_answer" (defScope sL_answer) s.heap.objs.size f cdv)).units + 1 < cLine := by have := hr.un; omega
  have Gput : FnOk P w K mg base CX0 1 f1 fd1 PL_put spLput := ok_lput Aput
  refine ⟨_, (pss_cons (ps_if (pt_cmpR op_eq (pe_ix (r := rIxT K) ix_tup (pv 0) pe_int (fun _ _ => rfl)) pe_str (nomark _)) (pss_one (ps_ret (pe_ix (r := rIxL K) ix_list (pv 1) (pe_ix (r := rIxT K) ix_tup (pv 0) pe_int (fun _ _ => rfl)) (fun _ _ => rfl)))) pss_nil)
  (pss_cons (ps_set (i := 2) scL_answer.nd rfl (.inl rfl) (pe_ix (r := rIxL K) ix_list (pv 1) (pe_ix (r := rIxT K) ix_tup (pe_ix (r := rIxT K) ix_tup (pv 0) pe_int (fun _ _ => rfl)) pe_int (fun _ _ => rfl)) (fun _ _ => rfl)))
  (pss_cons (ps_set (i := 3) scL_answer.nd rfl (.inl rfl) pe_dnewT)
  (pss_cons (ps_lock (ps_for PassesOwn.never rfl (pi_keys (pv 2)) (pg_name (i := 4) scL_answer.nd rfl (.inl rfl))
    (pss_one (ps_if (pt_cmpR op_eq (pe_ix (r := rIxT K) ix_tup (pv 0) pe_int (fun _ _ => rfl)) pe_str (nomark _)) (pss_one (ps_dput hu (pv 3) (pv 4) pe_int rfl)) (pss_one (ps_expr (pe_call Gput hr1 (by rfl) Aput.g Aput.F.kp Aput.b .nil pass0 (pa_cons (pv 3) (pa_cons (pe_tup (pa_cons (pe_ix (r := rIxT K) ix_tup (pv 4) (pe_ix (r := rIxT K) ix_tup (pe_ix (r := rIxT K) ix_tup (pv 0) pe_int (fun _ _ => rfl)) pe_int (fun _ _ => rfl)) (fun _ _ => rfl)) pa_nil)) (pa_cons (pe_dget hu (pv 2) (pv 4) (fun _ _ => rfl)) pa_nil))))))))))
  (pss_one (ps_ret (pv 3))))))), ?_⟩
  cases v with
  | table t =>
    obtain ⟨p, rfl, hp⟩ := hv
    obtain ⟨d, ha, _, hd⟩ := heaps_at hh g.1 g.2
    (repeat (first | (refine ⟨_, _, _, _, rfl, rfl, st_of hp, rfl, ?_⟩) | (refine ⟨_, rfl, ?_⟩) | (refine ⟨_, _, rfl, rfl, ?_⟩) | (refine ⟨⟨by decide, by decide⟩, ?_⟩) | (refine ⟨(by show (0 : Int) < _; decide), ?_⟩) | (refine ⟨rfl, ?_⟩) | (refine ⟨(by show _ ≠ (0 : Int); omega), ?_⟩) | (refine ⟨.inl ⟨by decide, by decide⟩, ?_⟩) | (refine ⟨(by assumption : CDivN _ _), ?_⟩) | (refine ite_y (by decide) ?_) | (refine ite_n (by decide) ?_) | (refine ite_y rfl ?_) | (refine ite_n Bool.false_ne_true ?_)))
    exact ⟨tl, lds.map V.ref, t, _, rfl, rfl, sq_of hh.1, ha, q H d (Ex.refl H) hd⟩
  | once v1 =>
    cases v1 with
    | table t =>
      obtain ⟨p, y, rfl, hp, p1, rfl, hp1⟩ := hv
      obtain ⟨d, ha, _, hd⟩ := heaps_at hh g.1 g.2
      obtain ⟨cl, len, _⟩ := T t g.1 g.2
      (repeat (first | (refine ⟨_, _, _, _, rfl, rfl, st_of hp, rfl, ?_⟩) | (refine ⟨_, rfl, ?_⟩) | (refine ⟨_, _, rfl, rfl, ?_⟩) | (refine ⟨⟨by decide, by decide⟩, ?_⟩) | (refine ⟨(by show (0 : Int) < _; decide), ?_⟩) | (refine ⟨rfl, ?_⟩) | (refine ⟨(by show _ ≠ (0 : Int); omega), ?_⟩) | (refine ⟨.inl ⟨by decide, by decide⟩, ?_⟩) | (refine ⟨(by assumption : CDivN _ _), ?_⟩) | (refine ite_y (by decide) ?_) | (refine ite_n (by decide) ?_) | (refine ite_y rfl ?_) | (refine ite_n Bool.false_ne_true ?_)))
      refine ⟨p1, _, 1, _, rfl, rfl, st_of hp1, rfl, tl, lds.map V.ref, t, _, rfl, rfl, sq_of hh.1, ha, fun D nD => ?_⟩
      have dD : D ≠ d := (ne_of_none hd nD).symm
      refine ⟨d, .dT ((tabL Ls t).map entI), by rw [upd_ne dD.symm]; exact hd, True.intro, fun od => ?_⟩
      refine ⟨_, rfl, d, od, rfl, .inr ⟨_, upd_same, ?_⟩⟩
      refine L2.for_it (L2.walk_keysT (kvs := (tabL Ls t).map entI)) (fun i σ G => ∃ o4 : Option V, σ = [some (.ref p), some (.ref tl), some (.ref d), some (.ref D), o4] ∧ Wk H G d D od (tabL Ls t) (((tabL Ls t).take i).map fun p => (p.1, 1))) ⟨none, rfl, ⟨fun a o n e => by rw [upd_ne n, upd_ne (ne_of_none e nD)]; exact e, upd_same, by unfold HeapAt; rw [upd_ne dD, upd_same]; rfl⟩⟩ (fun i σ G _ ⟨_, _, h⟩ => h.f) ?_ ?_
      · rintro i x σ G H' hi ⟨o4, rfl, hW⟩ ⟨rfl, k, v, qk, hkv, rfl, hq⟩
        rw [List.length_map] at hi
        rw [List.getElem?_map, List.getElem?_eq_getElem hi] at hkv
        obtain ⟨z, hz⟩ : ∃ z, (tabL Ls t)[i] = z := ⟨_, rfl⟩
        rw [hz] at hkv
        cases hkv
        have hq' : H' qk = some (.tup (z.1.map V.int)) := by rw [hq]; exact congrArg some (congrArg HO.tup (ints_inl z.1))
        have at_ : (tabL Ls t)[i]? = some z := by rw [List.getElem?_eq_getElem hi, hz]
        have pd : p ≠ d := fun y => by rw [y, hd] at hp; cases hp
        have hp' := hW.o _ _ pd hp
        refine ⟨_, rfl, p, _, 0, _, rfl, rfl, st_of hp', rfl, ?_⟩
        (repeat (first | (refine ⟨_, _, _, _, rfl, rfl, st_of hp, rfl, ?_⟩) | (refine ⟨_, rfl, ?_⟩) | (refine ⟨_, _, rfl, rfl, ?_⟩) | (refine ⟨⟨by decide, by decide⟩, ?_⟩) | (refine ⟨(by show (0 : Int) < _; decide), ?_⟩) | (refine ⟨rfl, ?_⟩) | (refine ⟨(by show _ ≠ (0 : Int); omega), ?_⟩) | (refine ⟨.inl ⟨by decide, by decide⟩, ?_⟩) | (refine ⟨(by assumption : CDivN _ _), ?_⟩) | (refine ite_y (by decide) ?_) | (refine ite_n (by decide) ?_) | (refine ite_y rfl ?_) | (refine ite_n Bool.false_ne_true ?_)))
        have fresh : z.1 ∉ (((tabL Ls t).take i).map fun p => (p.1, (1 : Int))).map (·.1) := by
          rw [List.map_map]
          exact nodup_take cl.1 at_
        refine ⟨D, _, rfl, put_at hW.m hq' (by rw [List.length_map, List.length_take]; omega), _, rfl, ⟨fun a o n e => ?_, ?_, ?_⟩⟩
        · rw [upd_ne (ne_of_none e nD)]
          exact hW.o a o n e
        · rw [upd_ne dD.symm]
          exact hW.f
        · unfold HeapAt
          rw [upd_same, put_new fresh, List.take_add_one, at_]
          simp only [List.map_append, Option.toList, List.map_cons, List.map_nil]
      · rintro σ G ⟨o4, rfl, hW⟩
        rw [List.length_map, List.take_length] at hW
        obtain ⟨e, hb⟩ := hW.back hd
        exact ⟨hW.f, _, rfl, q _ D e hb⟩
    | _ => exact g.elim
  | columns v1 cs =>
    obtain ⟨c, t, rfl, rfl⟩ : ∃ c t, cs = [c] ∧ v1 = .table t := by
      match v1, cs, g with
      | .table t, [c], _ => exact ⟨c, t, rfl, rfl⟩
    obtain ⟨p, y, qa, rfl, hp, ⟨p1, rfl, hp1⟩, hqa⟩ := hv
    obtain ⟨d, ha, _, hd⟩ := heaps_at hh g.1.1 g.1.2
    obtain ⟨cl, len, wd⟩ := T t g.1.1 g.1.2
    (repeat (first | (refine ⟨_, _, _, _, rfl, rfl, st_of hp, rfl, ?_⟩) | (refine ⟨_, rfl, ?_⟩) | (refine ⟨_, _, rfl, rfl, ?_⟩) | (refine ⟨⟨by decide, by decide⟩, ?_⟩) | (refine ⟨(by show (0 : Int) < _; decide), ?_⟩) | (refine ⟨rfl, ?_⟩) | (refine ⟨(by show _ ≠ (0 : Int); omega), ?_⟩) | (refine ⟨.inl ⟨by decide, by decide⟩, ?_⟩) | (refine ⟨(by assumption : CDivN _ _), ?_⟩) | (refine ite_y (by decide) ?_) | (refine ite_n (by decide) ?_) | (refine ite_y rfl ?_) | (refine ite_n Bool.false_ne_true ?_)))
    refine ⟨p1, _, 1, _, rfl, rfl, st_of hp1, rfl, tl, lds.map V.ref, t, _, rfl, rfl, sq_of hh.1, ha, fun D nD => ?_⟩
    have dD : D ≠ d := (ne_of_none hd nD).symm
    refine ⟨d, .dT ((tabL Ls t).map entI), by rw [upd_ne dD.symm]; exact hd, True.intro, fun od => ?_⟩
    refine ⟨_, rfl, d, od, rfl, .inr ⟨_, upd_same, ?_⟩⟩
    refine L2.for_it (L2.walk_keysT (kvs := (tabL Ls t).map entI)) (fun i σ G => ∃ o4 : Option V, σ = [some (.ref p), some (.ref tl), some (.ref d), some (.ref D), o4] ∧ Wk H G d D od (tabL Ls t) (sumL (((tabL Ls t).map (colF c)).take i))) ⟨none, rfl, ⟨fun a o n e => by rw [upd_ne n, upd_ne (ne_of_none e nD)]; exact e, upd_same, by unfold HeapAt; rw [upd_ne dD, upd_same]; rfl⟩⟩ (fun i σ G _ ⟨_, _, h⟩ => h.f) ?_ ?_
    · rintro i x σ G H' hi ⟨o4, rfl, hW⟩ ⟨rfl, k, v, qk, hkv, rfl, hq⟩
      rw [List.length_map] at hi
      rw [List.getElem?_map, List.getElem?_eq_getElem hi] at hkv
      obtain ⟨z, hz⟩ : ∃ z, (tabL Ls t)[i] = z := ⟨_, rfl⟩
      rw [hz] at hkv
      cases hkv
      have hq' : H' qk = some (.tup (z.1.map V.int)) := by rw [hq]; exact congrArg some (congrArg HO.tup (ints_inl z.1))
      have at_ : (tabL Ls t)[i]? = some z := by rw [List.getElem?_eq_getElem hi, hz]
      have at2 : ((tabL Ls t).map (colF c))[i]? = some (colF c z) := by rw [List.getElem?_map, at_]; rfl
      have pd : p ≠ d := fun y => by rw [y, hd] at hp; cases hp
      have qd : qa ≠ d := fun y => by rw [y, hd] at hqa; cases hqa
      have hp' := hW.o _ _ pd hp
      have hqa' := hW.o _ _ qd hqa
      refine ⟨_, rfl, p, _, 0, _, rfl, rfl, st_of hp', rfl, ?_⟩
      (repeat (first | (refine ⟨_, _, _, _, rfl, rfl, st_of hp, rfl, ?_⟩) | (refine ⟨_, rfl, ?_⟩) | (refine ⟨_, _, rfl, rfl, ?_⟩) | (refine ⟨⟨by decide, by decide⟩, ?_⟩) | (refine ⟨(by show (0 : Int) < _; decide), ?_⟩) | (refine ⟨rfl, ?_⟩) | (refine ⟨(by show _ ≠ (0 : Int); omega), ?_⟩) | (refine ⟨.inl ⟨by decide, by decide⟩, ?_⟩) | (refine ⟨(by assumption : CDivN _ _), ?_⟩) | (refine ite_y (by decide) ?_) | (refine ite_n (by decide) ?_) | (refine ite_y rfl ?_) | (refine ite_n Bool.false_ne_true ?_)))
      have hcw : c < (z.1.length : Int) := by rw [wd z (List.mem_of_getElem? at_)]; exact g.2.2
      refine ⟨p, _, 2, _, rfl, rfl, st_of hp', rfl, qa, _, 0, _, rfl, rfl, st_of hqa', rfl, qk, _, c, _, rfl, rfl, st_of hq', at_n g.2.1 hcw, (by show 1 ≤ sizeLine; decide), fun T nT => ?_⟩
      have eT := Ex.new (o := .tup [V.int (atN z.1 c)]) nT
      have hg : DGet (upd H' T (.tup [V.int (atN z.1 c)])) d (.ref qk) (some (.int z.2)) := .inr ⟨(tabL Ls t).map entI, z.1.map Sum.inl, qk, .inr ⟨od, eT _ _ hW.f⟩, rfl, by rw [eT _ _ hq', ints_inl], by rw [valV_ent, valI_at cl.1 at_]; rfl⟩
      refine ⟨_, rfl, _, rfl, d, _, rfl, hg, ?_⟩
      have cp : Clean (sumL (((tabL Ls t).map (colF c)).take i)) := sum_clean fun p hp => col_pos cl p (List.mem_of_mem_take hp)
      have lp := (sum_ok (((tabL Ls t).map (colF c)).take i)).2
      rw [List.length_take, List.length_map] at lp
      have pos := plus_pos (n := pickN z.1 [c]) cp (cl.2 z (List.mem_of_getElem? at_))
      refine ⟨D, T, _, pickN z.1 [c], z.2, rfl, eT _ _ hW.m, upd_same, by omega, by omega, fun H2 off h2 => ⟨_, rfl, ⟨fun a o n e => ?_, ?_, ?_⟩⟩⟩
      · exact off a o (ne_of_none e nD) (eT _ _ (hW.o a o n e))
      · exact off d _ dD.symm (eT _ _ hW.f)
      · rw [sum_take at2]
        exact h2
    · rintro σ G ⟨o4, rfl, hW⟩
      rw [List.length_map, show ((tabL Ls t).map (colF c)).take (tabL Ls t).length = (tabL Ls t).map (colF c) by rw [← List.length_map (f := colF c), List.take_length]] at hW
      obtain ⟨e, hb⟩ := hW.back hd
      exact ⟨hW.f, _, rfl, q _ D e hb⟩
  | _ => exact g.elim
end
end K08

namespace K08
open PySem PySem.Spec PyProof.Rows L2 Evl KB KH KS
section
variable {P : Program} {w : World} {K : PySem.W.Frag} {mg : Str → Option Value} {base : Heap} {σ : L2.St} {H H' : Hp}
theorem tAnd_no {t u : TT} {σ : L2.St} {H : Hp} {Q : Bool → Hp → Prop} (h : ∀ R : Bool → Hp → Prop, R false H → tAnd t u σ H R) (q : Q false H) : tAnd t u σ H Q := h Q q
/-! ### the law reads a listed answer -/
def spHo : Sp := fun vs H Q _ => ∃ (l : Addr) (as : List Addr) (M : Rows), vs = [.ref l] ∧ H l = some (.lst (as.map V.ref)) ∧ KD.PairsOf H as (M.map entI) ∧ M.length ≤ 1000 ∧ (M.map (·.1)).Nodup ∧ (∀ p ∈ M, p.2 ≠ 0) ∧ M.Pairwise (fun x y => HT.lexLt x.1 y.1 = true) ∧ ∀ H' d, Ex H H' → HeapAt H' d M → Q (.ref d) H'
theorem ok_ho {f f1 : Addr} {fd fd1 : FuncData} {k : Nat} (A : FnAt K mg "_law_heap_of" sL_heap_of PL_heap_of f fd) (Awhole : FnAt K mg "_law_whole" sL_whole PL_whole f1 fd1) (B : B8 mg) (B2 : Bt mg) : FnOk P w K mg base CX0 (k + 2) f fd PL_heap_of spHo := by
  refine A.F.ok scL_heap_of (fun vs H Q E h => ?_) (fun cdv A' outer s H vs Q E hr h => ?_)
  · obtain ⟨_, _, _, rfl, _⟩ := h
    rfl
  obtain ⟨l, as, M, rfl, hl, hp, lm, nd, nz, so, q⟩ := h
  have hr1 : Room 1 _ := hr.mono (by omega)
  have hu : (A'.deeper (envOfC "_law_heap_of" (defScope sL_heap_of) s.heap.objs.size f cdv)).units + 1 < cLine := by have := hr.un; omega
  have Gwhole : FnOk P w K mg base CX0 1 f1 fd1 PL_whole spWhole := ok_whole Awhole B2
  refine ⟨_, (pss_cons (ps_if (pt_not (pt_val (pe_callB call_isi (by rfl) B.isinstance (by decide +kernel) (pa_cons (pv 0) (pa_cons (pe_bltn (v := .ty "list") (u := .type "list") (by rfl) B.list (by decide +kernel) rfl) pa_nil))))) (pss_one (ps_ret pe_non)) pss_nil)
  (pss_cons (ps_set (i := 1) scL_heap_of.nd rfl (.inl rfl) pe_dnewT)
  (pss_cons (ps_set (i := 2) scL_heap_of.nd rfl (.inl rfl) pe_non)
  (pss_cons (ps_for PassesOwn.never rfl (pi_list (pv 0)) (pg_name (i := 3) scL_heap_of.nd rfl (.inl rfl))
    (pss_cons (ps_if (PW.pt (pw_or (pt_not (pt_val (pe_callB call_isi (by rfl) B.isinstance (by decide +kernel) (pa_cons (pv 3) (pa_cons (pe_bltn (v := .ty "tuple") (u := .type "tuple") (by rfl) B.tuple (by decide +kernel) rfl) pa_nil))))) (pw_or (pt_cmpR op_ne (pe_callB call_len_seq (by rfl) B.len (by decide +kernel) (pa_cons (pv 3) pa_nil)) pe_int (nomark _)) (pw_or (pt_not (pt_val (pe_callB call_isi (by rfl) B.isinstance (by decide +kernel) (pa_cons (pe_ix (r := rIxT K) ix_tup (pv 3) pe_int (fun _ _ => rfl)) (pa_cons (pe_bltn (v := .ty "tuple") (u := .type "tuple") (by rfl) B.tuple (by decide +kernel) rfl) pa_nil))))) (pw_or1 (pt_not (pt_val (pe_call Gwhole hr1 (by rfl) Awhole.g Awhole.F.kp Awhole.b .nil pass0 (pa_cons (pe_ix (r := rIxT K) ix_tup (pv 3) pe_int (fun _ _ => rfl)) pa_nil))))))))) (pss_one (ps_ret pe_non)) pss_nil)
  (pss_cons (ps_if (PW.pt (pw_or (pt_cmpR op_eq (pe_ix (r := rIxT K) ix_tup (pv 3) pe_int (fun _ _ => rfl)) pe_int (nomark _)) (pw_or1 (PW.pt (pw_and (pt_cmpR op_notN (pv 2) pe_non (nomark _)) (pw_and1 (pt_not (pt_cmpR (op_ltT hr.units0) (pv 2) (pe_ix (r := rIxT K) ix_tup (pv 3) pe_int (fun _ _ => rfl)) (nomark _))))))))) (pss_one (ps_ret pe_non)) pss_nil)
  (pss_cons (ps_if (pt_cmpR op_gt (pe_callB call_len_seq (by rfl) B.len (by decide +kernel) (pa_cons (pe_lc (own := [("_law_value_here", 4)]) (g := gName 4) (tt := _) rfl scL_heap_of.nd (pi_tup (pe_ix (r := rIxT K) ix_tup (pv 3) pe_int (fun _ _ => rfl))) (blkOk_by (N := NL_heap_of) (sc := defScope sL_heap_of) (by decide +kernel)) (fun _ _ _ _ _ => pg_name (i := 4) scL_heap_of.nd rfl (.inl rfl)) (fun _ _ _ _ _ => pts_one (pt_not (pt_val (pe_call Gwhole hr1 (by rfl) Awhole.g Awhole.F.kp Awhole.b .nil pass0 (pa_cons (pv 4) pa_nil))))) (fun _ _ _ _ _ => pe_int)) pa_nil)) pe_int (nomark _)) (pss_one (ps_ret pe_non)) pss_nil)
  (pss_cons (ps_dput hu (pv 1) (pe_ix (r := rIxT K) ix_tup (pv 3) pe_int (fun _ _ => rfl)) (pe_ix (r := rIxT K) ix_tup (pv 3) pe_int (fun _ _ => rfl)) rfl)
  (pss_one (ps_set (i := 2) scL_heap_of.nd rfl (.inl rfl) (pe_ix (r := rIxT K) ix_tup (pv 3) pe_int (fun _ _ => rfl)))))))))
  (pss_one (ps_ret (pv 1))))))), ?_⟩
  refine ⟨_, rfl, .ref l, .ty "list", .type "list", .type "list", true, rfl, (.ty "list"), .base (.lst hl), kit_ty (by decide +kernel), true, rfl, ?_⟩
  (repeat (first | (refine ⟨_, _, _, _, rfl, rfl, st_of hp, rfl, ?_⟩) | (refine ⟨_, rfl, ?_⟩) | (refine ⟨_, _, rfl, rfl, ?_⟩) | (refine ⟨⟨by decide, by decide⟩, ?_⟩) | (refine ⟨(by show (0 : Int) < _; decide), ?_⟩) | (refine ⟨rfl, ?_⟩) | (refine ⟨(by show _ ≠ (0 : Int); omega), ?_⟩) | (refine ⟨.inl ⟨by decide, by decide⟩, ?_⟩) | (refine ⟨(by assumption : CDivN _ _), ?_⟩) | (refine ite_y (by decide) ?_) | (refine ite_n (by decide) ?_) | (refine ite_y rfl ?_) | (refine ite_n Bool.false_ne_true ?_)))
  refine fun D nD => ?_
  have e0 := Ex.new (o := .dT []) nD
  refine ⟨.ref l, rfl, l, rfl, ⟨_, sq_of (e0 _ _ hl)⟩, for_list (xs := as.map V.ref) (fun i σ G => ∃ (o3 o4 : Option V) (lv : V), σ = [some (.ref l), some (.ref D), some lv, o3, o4] ∧ Ex H G ∧ HeapAt G D (M.take i) ∧ ((i = 0 ∧ lv = .non) ∨ ∃ (j : Nat) (z : List Int × Int) (qz : Addr), i = j + 1 ∧ M[j]? = some z ∧ lv = .ref qz ∧ G qz = some (.tup (z.1.map V.int)))) ⟨none, none, .non, rfl, e0, upd_same, .inl ⟨rfl, rfl⟩⟩ (fun i σ G _ ⟨_, _, _, _, e, _⟩ => sq_of (e _ _ hl)) ?_ ?_⟩
  · rintro i x σ G hx ⟨o3, o4, lv, rfl, e, hD, hlv⟩
    rw [List.getElem?_map] at hx
    cases ht : as[i]? with
    | none => rw [ht] at hx; cases hx
    | some t =>
      rw [ht] at hx
      cases hx
      obtain ⟨z', hz', qz, h1, h2⟩ := KD.paired_at hp ht
      rw [List.getElem?_map] at hz'
      obtain ⟨z, hz, rfl⟩ : ∃ z, M[i]? = some z ∧ entI z = z' := by
        cases y : M[i]? with
        | none => rw [y] at hz'; cases hz'
        | some z => rw [y] at hz'; exact ⟨z, rfl, by cases hz'; rfl⟩
      have h1' : H qz = some (.tup (z.1.map V.int)) := by rw [h1]; exact congrArg some (congrArg HO.tup (ints_inl z.1))
      have g1 := e _ _ h1'
      have g2 : G t = some (.tup [.ref qz, .int z.2]) := e _ _ h2
      have zm := List.mem_of_getElem? hz
      refine ⟨_, rfl, .ref t, .ty "tuple", .type "tuple", .type "tuple", true, rfl, (.ty "tuple"), .base (.tup g2), kit_ty (by decide +kernel), true, rfl, ?_⟩
      (repeat (first | (refine ⟨_, _, _, _, rfl, rfl, st_of hp, rfl, ?_⟩) | (refine ⟨_, rfl, ?_⟩) | (refine ⟨_, _, rfl, rfl, ?_⟩) | (refine ⟨⟨by decide, by decide⟩, ?_⟩) | (refine ⟨(by show (0 : Int) < _; decide), ?_⟩) | (refine ⟨rfl, ?_⟩) | (refine ⟨(by show _ ≠ (0 : Int); omega), ?_⟩) | (refine ⟨.inl ⟨by decide, by decide⟩, ?_⟩) | (refine ⟨(by assumption : CDivN _ _), ?_⟩) | (refine ite_y (by decide) ?_) | (refine ite_n (by decide) ?_) | (refine ite_y rfl ?_) | (refine ite_n Bool.false_ne_true ?_)))
      refine ⟨t, _, rfl, .inr (st_of g2), ?_⟩
      (repeat (first | (refine ⟨_, _, _, _, rfl, rfl, st_of hp, rfl, ?_⟩) | (refine ⟨_, rfl, ?_⟩) | (refine ⟨_, _, rfl, rfl, ?_⟩) | (refine ⟨⟨by decide, by decide⟩, ?_⟩) | (refine ⟨(by show (0 : Int) < _; decide), ?_⟩) | (refine ⟨rfl, ?_⟩) | (refine ⟨(by show _ ≠ (0 : Int); omega), ?_⟩) | (refine ⟨.inl ⟨by decide, by decide⟩, ?_⟩) | (refine ⟨(by assumption : CDivN _ _), ?_⟩) | (refine ite_y (by decide) ?_) | (refine ite_n (by decide) ?_) | (refine ite_y rfl ?_) | (refine ite_n Bool.false_ne_true ?_)))
      refine ⟨t, _, 0, _, rfl, rfl, st_of g2, rfl, ?_⟩
      refine ⟨.ref qz, .ty "tuple", .type "tuple", .type "tuple", true, rfl, (.ty "tuple"), .base (.tup g1), kit_ty (by decide +kernel), true, rfl, ?_⟩
      (repeat (first | (refine ⟨_, _, _, _, rfl, rfl, st_of hp, rfl, ?_⟩) | (refine ⟨_, rfl, ?_⟩) | (refine ⟨_, _, rfl, rfl, ?_⟩) | (refine ⟨⟨by decide, by decide⟩, ?_⟩) | (refine ⟨(by show (0 : Int) < _; decide), ?_⟩) | (refine ⟨rfl, ?_⟩) | (refine ⟨(by show _ ≠ (0 : Int); omega), ?_⟩) | (refine ⟨.inl ⟨by decide, by decide⟩, ?_⟩) | (refine ⟨(by assumption : CDivN _ _), ?_⟩) | (refine ite_y (by decide) ?_) | (refine ite_n (by decide) ?_) | (refine ite_y rfl ?_) | (refine ite_n Bool.false_ne_true ?_)))
      refine ⟨t, _, 1, _, rfl, rfl, st_of g2, rfl, ?_⟩
      refine ⟨rfl, ⟨_, rfl⟩, fun v1 G1 e1 hv1 => ?_⟩
      subst hv1
      refine ⟨true, rfl, ?_⟩
      refine ite_n Bool.false_ne_true ?_
      have g3 := e1 _ _ g2
      have g4 := e1 _ _ g1
      refine ⟨_, rfl, t, _, 1, _, rfl, rfl, st_of g3, rfl, ?_⟩
      (repeat (first | (refine ⟨_, _, _, _, rfl, rfl, st_of hp, rfl, ?_⟩) | (refine ⟨_, rfl, ?_⟩) | (refine ⟨_, _, rfl, rfl, ?_⟩) | (refine ⟨⟨by decide, by decide⟩, ?_⟩) | (refine ⟨(by show (0 : Int) < _; decide), ?_⟩) | (refine ⟨rfl, ?_⟩) | (refine ⟨(by show _ ≠ (0 : Int); omega), ?_⟩) | (refine ⟨.inl ⟨by decide, by decide⟩, ?_⟩) | (refine ⟨(by assumption : CDivN _ _), ?_⟩) | (refine ite_y (by decide) ?_) | (refine ite_n (by decide) ?_) | (refine ite_y rfl ?_) | (refine ite_n Bool.false_ne_true ?_)))
      rw [decide_eq_false (fun y => nz z zm (V.int.inj y))]
      refine ite_n Bool.false_ne_true ?_
      refine tAnd_no (fun R r => ?_) ?_
      · rcases hlv with ⟨_, rfl⟩ | ⟨j, zj, qj, rfl, hj, rfl, gj⟩
        · (repeat (first | (refine ⟨_, _, _, _, rfl, rfl, st_of hp, rfl, ?_⟩) | (refine ⟨_, rfl, ?_⟩) | (refine ⟨_, _, rfl, rfl, ?_⟩) | (refine ⟨⟨by decide, by decide⟩, ?_⟩) | (refine ⟨(by show (0 : Int) < _; decide), ?_⟩) | (refine ⟨rfl, ?_⟩) | (refine ⟨(by show _ ≠ (0 : Int); omega), ?_⟩) | (refine ⟨.inl ⟨by decide, by decide⟩, ?_⟩) | (refine ⟨(by assumption : CDivN _ _), ?_⟩) | (refine ite_y (by decide) ?_) | (refine ite_n (by decide) ?_) | (refine ite_y rfl ?_) | (refine ite_n Bool.false_ne_true ?_)))
          exact r
        · (repeat (first | (refine ⟨_, _, _, _, rfl, rfl, st_of hp, rfl, ?_⟩) | (refine ⟨_, rfl, ?_⟩) | (refine ⟨_, _, rfl, rfl, ?_⟩) | (refine ⟨⟨by decide, by decide⟩, ?_⟩) | (refine ⟨(by show (0 : Int) < _; decide), ?_⟩) | (refine ⟨rfl, ?_⟩) | (refine ⟨(by show _ ≠ (0 : Int); omega), ?_⟩) | (refine ⟨.inl ⟨by decide, by decide⟩, ?_⟩) | (refine ⟨(by assumption : CDivN _ _), ?_⟩) | (refine ite_y (by decide) ?_) | (refine ite_n (by decide) ?_) | (refine ite_y rfl ?_) | (refine ite_n Bool.false_ne_true ?_)))
          have lt : HT.lexLt zj.1 z.1 = true := by
            obtain ⟨a1, a2⟩ := List.getElem?_eq_some_iff.mp hj
            obtain ⟨b1, b2⟩ := List.getElem?_eq_some_iff.mp hz
            have := List.pairwise_iff_getElem.mp so j (j + 1) a1 b1 (by omega)
            rwa [a2, b2] at this
          refine ⟨t, _, 0, _, rfl, rfl, st_of g3, rfl, qj, qz, zj.1, z.1, rfl, rfl, st_of (e1 _ _ gj), st_of g4, _, rfl, ?_⟩
          rw [lt]
          exact r
      refine ite_n Bool.false_ne_true ?_
      have hz1 : ∀ y ∈ z.1.map V.int, ∃ n, y = .int n := fun y hy => by
        obtain ⟨n, _, e⟩ := List.mem_map.mp hy
        exact ⟨n, e.symm⟩
      refine ⟨_, rfl, t, _, 0, _, rfl, rfl, st_of g3, rfl, ?_⟩
      refine ⟨qz, rfl, ⟨_, st_of g4⟩, fun D1 nD1 => ?_⟩
      refine lc_tup (xs := z.1.map V.int) (fun i G => Ex G1 G ∧ G D1 = some (.lst [])) ⟨Ex.new nD1, upd_same⟩ (fun i G _ p => st_of (p.1 _ _ g4)) (fun i x G hx ⟨p1, p2⟩ => ?_) (fun G ⟨p1, p2⟩ => ?_)
      · obtain ⟨n, rfl⟩ := hz1 x (List.mem_of_getElem? hx)
        refine ⟨rfl, ?_⟩
        refine ⟨_, rfl, rfl, ⟨n, rfl⟩, fun v2 G2 e2 hv2 => ?_⟩
        subst hv2
        refine ⟨true, rfl, ?_⟩
        refine ite_n Bool.false_ne_true ?_
        exact ⟨p1.trans e2, e2 _ _ p2⟩
      · refine ⟨D1, [], rfl, .inl (sq_of p2), ?_⟩
        (repeat (first | (refine ⟨_, _, _, _, rfl, rfl, st_of hp, rfl, ?_⟩) | (refine ⟨_, rfl, ?_⟩) | (refine ⟨_, _, rfl, rfl, ?_⟩) | (refine ⟨⟨by decide, by decide⟩, ?_⟩) | (refine ⟨(by show (0 : Int) < _; decide), ?_⟩) | (refine ⟨rfl, ?_⟩) | (refine ⟨(by show _ ≠ (0 : Int); omega), ?_⟩) | (refine ⟨.inl ⟨by decide, by decide⟩, ?_⟩) | (refine ⟨(by assumption : CDivN _ _), ?_⟩) | (refine ite_y (by decide) ?_) | (refine ite_n (by decide) ?_) | (refine ite_y rfl ?_) | (refine ite_n Bool.false_ne_true ?_)))
        have e3 := e1.trans p1
        have hD3 := e3 _ _ hD
        have g5 := p1 _ _ g3
        have g6 := p1 _ _ g4
        have hpt := put_at (c := z.2) hD3 g6 (by rw [List.length_take]; omega)
        rw [put_new (nodup_take nd hz)] at hpt
        refine ⟨t, _, 1, _, rfl, rfl, st_of g5, rfl, _, rfl, _, rfl, t, _, 0, _, rfl, rfl, st_of g5, rfl, D, _, rfl, hpt, ?_⟩
        have nt : t ≠ D := fun y => by rw [y, hD3] at g5; cases g5
        have nq : qz ≠ D := fun y => by rw [y, hD3] at g6; cases g6
        refine ⟨_, rfl, t, _, 0, _, rfl, rfl, st_of (by rw [upd_ne nt]; exact g5), rfl, ?_⟩
        refine ⟨_, _, _, rfl, Ex.mut (e.trans e3) nD, ?_, .inr ⟨i, z, qz, rfl, hz, rfl, by rw [upd_ne nq]; exact g6⟩⟩
        unfold HeapAt
        rw [upd_same, List.take_add_one, hz]
        rfl
  · rintro σ G ⟨o3, o4, lv, rfl, e, hD, _⟩
    have la : as.length = M.length := by have := Paired.length hp; rwa [List.length_map] at this
    rw [List.length_map, la, List.take_length] at hD
    exact ⟨_, rfl, q G D e hD⟩
end
end K08

namespace K08
open PySem PySem.Spec PyProof.Rows L2 Evl KB KH KS
section
variable {P : Program} {w : World} {K : PySem.W.Frag} {mg : Str → Option Value} {base : Heap} {σ : L2.St} {H H' : Hp}
/-! ### the word of a refusal -/
structure ErrG (mg : Str → Option Value) (c0 c1 c2 c3 c4 c5 : Addr) : Prop where
  gNoTable : mg "NoTable" = some (.ref c0)
  gBadRow : mg "BadRow" = some (.ref c1)
  gLacking : mg "Lacking" = some (.ref c2)
  gBadView : mg "BadView" = some (.ref c3)
  gFull : mg "Full" = some (.ref c4)
  gNoView : mg "NoView" = some (.ref c5)
  gVE : mg "ValueError" = none
/-- the class D: which of the six it is -/
structure ErrK (K : PySem.W.Frag) (D c0 c1 c2 c3 c4 c5 : Addr) (i : Nat) : Prop where
  exc : ExcC K D
  k0 : PySem.W.kitOne K (.ref D) (.ref c0) = some (decide (i = 0))
  k1 : PySem.W.kitOne K (.ref D) (.ref c1) = some (decide (i = 1))
  k2 : PySem.W.kitOne K (.ref D) (.ref c2) = some (decide (i = 2))
  k3 : PySem.W.kitOne K (.ref D) (.ref c3) = some (decide (i = 3))
  k4 : PySem.W.kitOne K (.ref D) (.ref c4) = some (decide (i = 4))
  k5 : PySem.W.kitOne K (.ref D) (.ref c5) = some (decide (i = 5))
  kVE : PySem.W.kitOne K (.ref D) (.type "ValueError") = some true
def wordN (i : Nat) : Str := if i = 3 then "view" else if i = 4 then "full" else "number"
def spWord (K : PySem.W.Frag) (c0 c1 c2 c3 c4 c5 : Addr) : KXh.SpE := fun a D vs H Q _ => ∃ i, vs = [.ref a] ∧ (i = 3 ∨ i = 4 ∨ i = 5) ∧ ErrK K D c0 c1 c2 c3 c4 c5 i ∧ ∀ H', Ex H H' → Q (.str (wordN i)) H'
theorem ok_word {f : Addr} {fd : FuncData} {k : Nat} {c0 c1 c2 c3 c4 c5 : Addr} (A : FnAt K mg "_law_word" sL_word PL_word f fd) (B : Bt mg) (G : ErrG mg c0 c1 c2 c3 c4 c5) : KXh.FnN P w K mg base (k + 1) f fd PL_word (spWord K c0 c1 c2 c3 c4 c5) := by
  refine KXh.fun_okN A.F scL_word (fun a D vs H Q E h => ?_) (fun cdv A' outer s H vs Q E p D isn hot hr h => ?_)
  · obtain ⟨_, rfl, _⟩ := h
    rfl
  obtain ⟨i, rfl, hi, Z, q⟩ := h
  refine ⟨_, (pss_cons (ps_set (i := 1) scL_word.nd rfl (.inl rfl) (pe_lst (pa_cons (pe_callB (KX.call_isP (p := p) (List.mem_cons_self) Z.exc isn.isa) (by rfl) B.isinstance (by decide +kernel) (pa_cons (pv 0) (pa_cons (pe_glob (v := .ref c0) rfl G.gNoTable rfl) pa_nil))) (pa_cons (pe_callB (KX.call_isP (p := p) (List.mem_cons_self) Z.exc isn.isa) (by rfl) B.isinstance (by decide +kernel) (pa_cons (pv 0) (pa_cons (pe_glob (v := .ref c1) rfl G.gBadRow rfl) pa_nil))) (pa_cons (pe_callB (KX.call_isP (p := p) (List.mem_cons_self) Z.exc isn.isa) (by rfl) B.isinstance (by decide +kernel) (pa_cons (pv 0) (pa_cons (pe_glob (v := .ref c2) rfl G.gLacking rfl) pa_nil))) (pa_cons (pe_callB (KX.call_isP (p := p) (List.mem_cons_self) Z.exc isn.isa) (by rfl) B.isinstance (by decide +kernel) (pa_cons (pv 0) (pa_cons (pe_glob (v := .ref c3) rfl G.gBadView rfl) pa_nil))) pa_nil))))))
  (pss_cons (ps_set (i := 1) scL_word.nd rfl (.inl rfl) (pe_op op_cat (pv 1) (pe_lst (pa_cons (pe_callB (KX.call_isP (p := p) (List.mem_cons_self) Z.exc isn.isa) (by rfl) B.isinstance (by decide +kernel) (pa_cons (pv 0) (pa_cons (pe_glob (v := .ref c4) rfl G.gFull rfl) pa_nil))) (pa_cons (pe_callB (KX.call_isP (p := p) (List.mem_cons_self) Z.exc isn.isa) (by rfl) B.isinstance (by decide +kernel) (pa_cons (pv 0) (pa_cons (pe_glob (v := .ref c5) rfl G.gNoView rfl) pa_nil))) pa_nil)))))
  (pss_cons (ps_if (PW.pt (pw_or (pt_not (pt_val (pe_callB (KX.call_isP (p := p) (List.mem_cons_self) Z.exc isn.isa) (by rfl) B.isinstance (by decide +kernel) (pa_cons (pv 0) (pa_cons (pe_bltn (v := .ty "ValueError") (u := .type "ValueError") (by rfl) G.gVE (by decide +kernel) rfl) pa_nil))))) (pw_or1 (pt_cmpR op_ne (pe_callB call_len_seq (by rfl) B.len (by decide +kernel) (pa_cons (KLh.pe_lcH (own := [("_law_told", 2)]) (g := gName 2) (tt := _) hot scL_word.nd (pv 1) (blkOk_by (N := NL_word) (sc := defScope sL_word) (by decide +kernel)) (fun _ _ _ _ _ => pg_name (i := 2) scL_word.nd rfl (.inl rfl)) (fun _ _ _ _ _ => pts_one (pt_val (pv 2))) (fun _ _ _ _ _ => pe_int)) pa_nil)) pe_int (nomark _))))) (pss_one (ps_ret pe_str)) pss_nil)
  (pss_one (ps_ret (pe_ix (r := rIxL K) ix_list (pe_lst (pa_cons pe_str (pa_cons pe_str (pa_cons pe_str (pa_cons pe_str (pa_cons pe_str (pa_cons pe_str pa_nil))))))) (pe_bm PySem.F.plainAttrs_list PySem.F.slot_list_index PySem.F.type_list_index mt_index (pv 1) (pa_cons pe_bl pa_nil)) (fun _ _ => rfl))))))), ?_⟩
  refine ⟨_, rfl, _, _, _, rfl, fun u hu => hu, Z.k0, _, rfl, _, _, _, rfl, fun u hu => hu, Z.k1, _, rfl, _, _, _, rfl, fun u hu => hu, Z.k2, _, rfl, _, _, _, rfl, fun u hu => hu, Z.k3, (by show 4 ≤ sizeLine; decide), fun l1 n1 => ?_⟩
  have e1 := Ex.new (o := .lst [.bl (decide (i = 0)), .bl (decide (i = 1)), .bl (decide (i = 2)), .bl (decide (i = 3))]) n1
  refine ⟨_, rfl, _, rfl, _, _, _, rfl, fun u hu => hu, Z.k4, _, rfl, _, _, _, rfl, fun u hu => hu, Z.k5, (by show 2 ≤ sizeLine; decide), fun l2 n2 => ?_⟩
  have e2 := e1.trans (Ex.new (o := .lst [.bl (decide (i = 4)), .bl (decide (i = 5))]) n2)
  refine ⟨l1, l2, _, _, rfl, rfl, (Ex.new n2) _ _ upd_same, upd_same, (by show 6 ≤ sizeLine; decide), fun l3 n3 => ?_⟩
  have e3 := e2.trans (Ex.new (o := .lst ([.bl (decide (i = 0)), .bl (decide (i = 1)), .bl (decide (i = 2)), .bl (decide (i = 3))] ++ [.bl (decide (i = 4)), .bl (decide (i = 5))])) n3)
  obtain ⟨bs, hbs⟩ : ∃ bs : List Bool, bs = [decide (i = 0), decide (i = 1), decide (i = 2), decide (i = 3), decide (i = 4), decide (i = 5)] := ⟨_, rfl⟩
  have el : ([.bl (decide (i = 0)), .bl (decide (i = 1)), .bl (decide (i = 2)), .bl (decide (i = 3))] ++ [.bl (decide (i = 4)), .bl (decide (i = 5))] : List V) = bs.map V.bl := by rw [hbs]; rfl
  have g3 : ∀ {G : Hp}, upd G l3 (.lst (bs.map V.bl)) l3 = some (.lst (bs.map V.bl)) := upd_same
  rw [el]
  rw [el] at e3
  generalize eH3 : upd _ l3 (.lst (bs.map V.bl)) = H3 at *
  have h3 : H3 l3 = some (.lst (bs.map V.bl)) := by rw [← eH3]; exact upd_same
  refine ⟨_, rfl, _, _, _, rfl, fun u hu => hu, Z.kVE, ?_⟩
  (repeat (first | (refine ⟨_, _, _, _, rfl, rfl, st_of hp, rfl, ?_⟩) | (refine ⟨_, rfl, ?_⟩) | (refine ⟨_, _, rfl, rfl, ?_⟩) | (refine ⟨⟨by decide, by decide⟩, ?_⟩) | (refine ⟨(by show (0 : Int) < _; decide), ?_⟩) | (refine ⟨rfl, ?_⟩) | (refine ⟨(by show _ ≠ (0 : Int); omega), ?_⟩) | (refine ⟨.inl ⟨by decide, by decide⟩, ?_⟩) | (refine ⟨(by assumption : CDivN _ _), ?_⟩) | (refine ite_y (by decide) ?_) | (refine ite_n (by decide) ?_) | (refine ite_y rfl ?_) | (refine ite_n Bool.false_ne_true ?_)))
  refine ⟨⟨_, sq_of h3⟩, fun D1 nD1 => ?_⟩
  refine lc_list (xs := bs.map V.bl) (fun j G => Ex H3 G ∧ G D1 = some (.lst (((bs.take j).filter id).map fun _ => V.int 1))) ⟨Ex.new nD1, upd_same⟩ (fun j G _ p => sq_of (p.1 _ _ h3)) (fun j x G hx ⟨p1, p2⟩ => ?_) (fun G ⟨p1, p2⟩ => ?_)
  · rw [List.getElem?_map] at hx
    cases hb : bs[j]? with
    | none => rw [hb] at hx; cases hx
    | some b =>
      rw [hb] at hx
      cases hx
      refine ⟨rfl, ?_⟩
      refine ⟨_, rfl, b, rfl, ?_⟩
      have lj := (List.getElem?_eq_some_iff.mp hb).1
      cases b with
      | false =>
        refine ⟨p1, ?_⟩
        rw [p2, List.take_add_one, hb, List.filter_append]
        simp
      | true =>
        refine ⟨_, p2, sz_lt (by rw [List.length_map]; have := List.length_filter_le id (bs.take j); rw [List.length_take] at this; rw [hbs] at lj; simp at lj; omega), Ex.mut p1 nD1, ?_⟩
        rw [upd_same, List.take_add_one, hb, List.filter_append, List.map_append]
        rfl
  · rw [List.length_map, List.take_length] at p2
    refine ⟨D1, _, rfl, .inl (sq_of p2), ?_⟩
    rw [List.length_map, show (bs.filter id).length = 1 by rw [hbs]; rcases hi with rfl | rfl | rfl <;> rfl]
    (repeat (first | (refine ⟨_, _, _, _, rfl, rfl, st_of hp, rfl, ?_⟩) | (refine ⟨_, rfl, ?_⟩) | (refine ⟨_, _, rfl, rfl, ?_⟩) | (refine ⟨⟨by decide, by decide⟩, ?_⟩) | (refine ⟨(by show (0 : Int) < _; decide), ?_⟩) | (refine ⟨rfl, ?_⟩) | (refine ⟨(by show _ ≠ (0 : Int); omega), ?_⟩) | (refine ⟨.inl ⟨by decide, by decide⟩, ?_⟩) | (refine ⟨(by assumption : CDivN _ _), ?_⟩) | (refine ite_y (by decide) ?_) | (refine ite_n (by decide) ?_) | (refine ite_y rfl ?_) | (refine ite_n Bool.false_ne_true ?_)))
    refine ⟨(by show 6 ≤ sizeLine; decide), fun l5 n5 => ?_⟩
    have e5 := Ex.new (o := .lst [.str "table", .str "row", .str "lacking", .str "view", .str "full", .str "number"]) n5
    have h35 := e5 _ _ (p1 _ _ h3)
    refine ⟨_, rfl, .inl ⟨rfl, _, sq_of h35⟩, l3, bs.map V.bl, .bl true, i, .bl true, rfl, rfl, sq_of h35, rfl, ?_, ?_, rfl, ?_, ?_⟩
    · rw [List.all_map]
      exact List.all_eq_true.mpr fun _ _ => rfl
    · rw [hbs]
      rcases hi with rfl | rfl | rfl <;> rfl
    · intro m z hm hz
      rw [hbs] at hz
      rcases hi with rfl | rfl | rfl
      · match m, hm, hz with
        | 0, _, hz => cases hz; rfl
        | 1, _, hz => cases hz; rfl
        | 2, _, hz => cases hz; rfl
      · match m, hm, hz with
        | 0, _, hz => cases hz; rfl
        | 1, _, hz => cases hz; rfl
        | 2, _, hz => cases hz; rfl
        | 3, _, hz => cases hz; rfl
      · match m, hm, hz with
        | 0, _, hz => cases hz; rfl
        | 1, _, hz => cases hz; rfl
        | 2, _, hz => cases hz; rfl
        | 3, _, hz => cases hz; rfl
        | 4, _, hz => cases hz; rfl
    · have q' := q _ ((e3.trans p1).trans e5)
      refine ⟨l5, _, i, _, rfl, rfl, sq_of upd_same, ?_, q'⟩
      rcases hi with rfl | rfl | rfl <;> rfl
/-! ### put, asked by the law -/
theorem takesN0 {X : Cx} : L2N.Takes X (fun _ _ _ _ => False) := fun _ _ ⟨_, _, _, _, _, _, _, _, _, _, _, _, _, _, _, _, w⟩ => w.elim
def spSaid (C P0 : Addr) (N : Nat) : Sp := fun xs H Q _ => ∃ (k wl hl vl al : Addr) (ws : List Int) (has : List Addr) (Ls : List Rows) (vxs : List V) (vs : List View) (aas : List Addr) (As : List Rows) (y : V) (v : View), xs = [.ref k, y] ∧ KAt C H k wl hl vl al ws has Ls vxs vs aas As ∧ VOk N v ∧ VAt H v y ∧ (∀ c ∈ ws, 1 ≤ c ∧ c ≤ 6) ∧ GxR.TabG H P0 ∧ Tabs (fun t => ws.getD t.toNat 0) Ls ∧ vs.length ≤ 1000 ∧
  (widthOf ws v = none → ∀ H', XT H H' → Q (.str "view") H') ∧ (∀ m, widthOf ws v = some m → 20 ≤ vs.length → ∀ H', XT H H' → Q (.str "full") H') ∧
  (∀ m, widthOf ws v = some m → vs.length < 20 → GoodV Ls.length (fun t => ws.getD t.toNat 0) v ∧ ∀ H' d, XM [vl, al] H H' → New H d → KAt C H' k wl hl vl al ws has Ls (vxs ++ [y]) (vs ++ [v]) (aas ++ [d]) (As ++ [ansL Ls v]) → Q (.int vs.length) H')
theorem ok_said {f f1 f2 : Addr} {fd fd1 fd2 : FuncData} {C P0 cErr c0 c1 c2 c3 c4 c5 : Addr} {N M : Nat} (A : FnAt K mg "_law_said" sL_said PL_said f fd) (Aword : FnAt K mg "_law_word" sL_word PL_word f1 fd1) (Aput : MtAt K C "put" "Keeper.put" sMput PMput f2 fd2) (Z : ClsF K C)
    (Gput : FnOk P w K mg base (L2N.CX P w) (M + 1) f2 fd2 PMput (spPut C P0 c3 c4 N)) (B : Bt mg) (G : ErrG mg c0 c1 c2 c3 c4 c5) (Z3 : ErrK K c3 c0 c1 c2 c3 c4 c5 3) (Z4 : ErrK K c4 c0 c1 c2 c3 c4 c5 4) (gE : mg "ChangeError" = some (.ref cErr)) (h3 : PySem.W.exmOne K (.ref c3) (.ref cErr) = some true) (h4 : PySem.W.exmOne K (.ref c4) (.ref cErr) = some true) :
    FnOk P w K mg base CX0 (M + 2) f fd PL_said (spSaid C P0 N) := by
  refine A.F.ok scL_said (fun vs H Q E h => ?_) (fun cdv A' outer s H vs Q E hr h => ?_)
  · obtain ⟨_, _, _, _, _, _, _, _, _, _, _, _, _, _, rfl, _⟩ := h
    rfl
  obtain ⟨x, wl, hl, vl, al, ws, has, Ls, vxs, vs, aas, As, y, v, rfl, hk, hok, hv, hws, hT, T, lv, q1, q2, q3⟩ := h
  obtain ⟨dx, hi⟩ := hk.ins
  have Gword : KXh.FnN P w K mg base 1 f1 fd1 PL_word (spWord K c0 c1 c2 c3 c4 c5) := ok_word Aword B G
  have hrA : L2H.RoomH 1 _ := L2H.roomH_of (hr.mono (by omega))
  refine ⟨_, pss_one (L2N.ps_try_as (i := 2) rfl rfl scL_said.nd rfl rfl ⟨rfl, by decide, .inl gE⟩ takesN0 (fun W pn xe tk _ => pss_one (ps_ret (KB.pe_methE (pv 0) Z.cl Aput.m Gput hr Aput.b (fun σ => L2N.passAt tk σ) (pa_cons (pv 1) pa_nil))))
    (fun a oe cls d pn hz hf => pss_one (ps_ret (KXh.pe_callN rfl List.mem_cons_self hz hf Gword ⟨hrA.dp, hrA.un⟩ rfl Aword.g Aword.F.kp Aword.b (pa_cons (pv 2) pa_nil))))), ?_⟩
  refine ⟨_, rfl, x, dx, _, rfl, hi, rfl, _, rfl, x, wl, hl, vl, al, ws, has, Ls, vxs, vs, aas, As, y, v, rfl, hk, hok, hv, hws, hT, T, lv, fun hn H' e => ?_, fun m hm h20 H' e => ?_, fun m hm h20 => ?_⟩
  · refine ⟨true, h3, fun _ a ha => ?_, fun z => Bool.noConfusion z⟩
    exact ⟨_, rfl, c3, rfl, rfl, 3, rfl, .inl rfl, Z3, fun H2 e2 => q1 hn H2 (e.trans (XT.of_ex e2))⟩
  · refine ⟨true, h4, fun _ a ha => ?_, fun z => Bool.noConfusion z⟩
    exact ⟨_, rfl, c4, rfl, rfl, 4, rfl, .inr (.inl rfl), Z4, fun H2 e2 => q2 m hm h20 H2 (e.trans (XT.of_ex e2))⟩
  · obtain ⟨g, q⟩ := q3 m hm h20
    exact ⟨g, q⟩
/-! a number of none -/
def spNv (C : Addr) : Sp := fun xs H Q _ => ∃ (k wl hl vl al : Addr) (ws : List Int) (has : List Addr) (Ls : List Rows) (vxs : List V) (vs : List View) (aas : List Addr) (As : List Rows) (t : Int), xs = [.ref k, .int t] ∧ KAt C H k wl hl vl al ws has Ls vxs vs aas As ∧ (∀ L ∈ As, (L.map (·.1)).Nodup ∧ L.length < 64) ∧ ¬ (0 ≤ t ∧ t < As.length) ∧ ∀ H', XT H H' → Q (.bl true) H'
theorem ok_nv {f f1 f2 : Addr} {fd fd1 fd2 : FuncData} {C cErr c0 c1 c2 c3 c4 c5 : Addr} {M : Nat} (A : FnAt K mg "_law_no_view" sL_no_view PL_no_view f fd) (Aword : FnAt K mg "_law_word" sL_word PL_word f1 fd1) (Aaw : MtAt K C "answer" "Keeper.answer" sManswer PManswer f2 fd2) (Z : ClsF K C)
    (Gaw : FnOk P w K mg base (L2N.CX P w) (M + 1) f2 fd2 PManswer (spAw C c5)) (B : Bt mg) (G : ErrG mg c0 c1 c2 c3 c4 c5) (Z5 : ErrK K c5 c0 c1 c2 c3 c4 c5 5) (gE : mg "ChangeError" = some (.ref cErr)) (h5 : PySem.W.exmOne K (.ref c5) (.ref cErr) = some true) :
    FnOk P w K mg base CX0 (M + 2) f fd PL_no_view (spNv C) := by
  refine A.F.ok scL_no_view (fun vs H Q E h => ?_) (fun cdv A' outer s H vs Q E hr h => ?_)
  · obtain ⟨_, _, _, _, _, _, _, _, _, _, _, _, _, rfl, _⟩ := h
    rfl
  obtain ⟨x, wl, hl, vl, al, ws, has, Ls, vxs, vs, aas, As, t, rfl, hk, hA, hn, q⟩ := h
  obtain ⟨dx, hi⟩ := hk.ins
  have Gword : KXh.FnN P w K mg base 1 f1 fd1 PL_word (spWord K c0 c1 c2 c3 c4 c5) := ok_word Aword B G
  have hrA : L2H.RoomH 1 _ := L2H.roomH_of (hr.mono (by omega))
  refine ⟨_, pss_cons (L2N.ps_try_as (i := 2) rfl rfl scL_no_view.nd rfl rfl ⟨rfl, by decide, .inl gE⟩ takesN0 (fun W pn xe tk _ => pss_one (ps_expr (KB.pe_methE (pv 0) Z.cl Aaw.m Gaw hr Aaw.b (fun σ => L2N.passAt tk σ) (pa_cons (pv 1) pa_nil))))
    (fun a oe cls d pn hz hf => pss_one (ps_ret (pe_cmpR op_eq (KXh.pe_callN rfl List.mem_cons_self hz hf Gword ⟨hrA.dp, hrA.un⟩ rfl Aword.g Aword.F.kp Aword.b (pa_cons (pv 2) pa_nil)) pe_str (nomark _))))) (pss_one (ps_ret pe_bl)), ?_⟩
  refine ⟨_, rfl, x, dx, _, rfl, hi, rfl, _, rfl, x, wl, hl, vl, al, ws, has, Ls, vxs, vs, aas, As, t, rfl, hk, hA, fun h0 h1 => absurd ⟨h0, h1⟩ hn, fun _ H' e => ?_⟩
  refine ⟨true, h5, fun _ a ha => ?_, fun z => Bool.noConfusion z⟩
  refine ⟨_, rfl, c5, rfl, rfl, 5, rfl, .inr (.inr rfl), Z5, fun H2 e2 => ?_⟩
  exact ⟨rfl, q H2 (e.trans (XT.of_ex e2))⟩
end
end K08

namespace K08
open PySem PySem.Spec PyProof.Rows L2 Evl KB KH KS
section
variable {P : Program} {w : World} {K : PySem.W.Frag} {mg : Str → Option Value} {base : Heap} {σ : L2.St} {H H' : Hp} {t1 t2 t3 : TE} {tA : TA} {ws : List Int} {t b m far : Int} {v u : View}
/-! ### views that are not let by -/
def Bad (ws : List Int) (d : Nat) (x : V) (H : Hp) : Prop := ∃ v, VOk d v ∧ VAt H v x ∧ widthOf ws v = none
theorem Bad.pers (d : Nat) (x : V) : Pers (Bad ws d x) := fun H H' e ⟨v, a, b, c⟩ => ⟨v, a, VAt.pers v x H H' e b, c⟩
theorem bad (d : Nat) (h : Est t1 σ H (IsV v)) (ok : VOk d v) (n : widthOf ws v = none) : Est t1 σ H (Bad ws d) := h.imp fun x H' _ hv => ⟨v, ok, hv, n⟩
theorem w_cols (hm : widthOf ws (.table t) = some m) (cs : List Int) : widthOf ws (.columns (.table t) cs) = if cs ≠ [] ∧ cs.all (inW m) = true then cap cs.length else none := by
  show (widthOf ws (.table t)).bind _ = _
  rw [hm]
  rfl
theorem inW0 (h : 1 ≤ m) : inW m 0 = true := by
  unfold inW
  rw [decide_eq_true (by omega : (0 : Int) ≤ 0), decide_eq_true (by omega : (0 : Int) < m)]
  rfl
theorem w_rep (hm : widthOf ws (.table t) = some m) (h1 : 1 ≤ m) {n : Nat} (hn : 1 ≤ n) : widthOf ws (.columns (.table t) (List.replicate n 0)) = cap n := by
  have hall : (List.replicate n (0 : Int)).all (inW m) = true := List.all_eq_true.mpr fun c hc => by rw [List.eq_of_mem_replicate hc]; exact inW0 h1
  have hne : List.replicate n (0 : Int) ≠ [] := fun z => by
    have := congrArg List.length z
    rw [List.length_replicate] at this
    exact absurd this (by show ¬ n = 0; omega)
  rw [w_cols hm, if_pos ⟨hne, hall⟩, List.length_replicate]
theorem b1 (hm : widthOf ws (.table t) = some m) (hf : inW m far = false) : widthOf ws (.columns (.table t) [0, far]) = none := by
  rw [w_cols hm]
  refine if_neg fun z => ?_
  have := List.all_eq_true.mp z.2 far (by simp)
  rw [hf] at this
  cases this
theorem b2 (hm : widthOf ws (.table t) = some m) (h1 : 1 ≤ m) {n : Nat} (h3 : 3 ≤ n) : widthOf ws (.reach (.columns (.table t) (List.replicate n 0))) = none := by
  show (widthOf ws _).bind _ = none
  rw [w_rep hm h1 (by omega)]
  unfold cap
  split
  · exact if_neg (by omega)
  · rfl
theorem b3 (hm : widthOf ws (.table t) = some m) (h1 : 1 ≤ m) {n : Nat} (hn : (n : Int) = m + 1) : widthOf ws (.less (.table t) (.columns (.table t) (List.replicate n 0))) = none := by
  show (widthOf ws (.table t)).bind _ = none
  rw [hm]
  show (widthOf ws _).bind _ = none
  rw [w_rep hm h1 (by omega)]
  unfold cap
  split
  · exact if_neg (by omega)
  · rfl
theorem b4 (hm : widthOf ws (.table t) = some m) (h1 : 1 ≤ m) (h6 : m ≤ 6) : widthOf ws (.both (.columns (.table t) (List.replicate 7 0)) (.table t)) = none := by
  show (widthOf ws _).bind _ = none
  rw [w_rep hm h1 (by omega)]
  show (widthOf ws (.table t)).bind _ = none
  rw [hm]
  exact if_neg (by omega)
theorem b5 (hm : widthOf ws (.table t) = some m) (h1 : 1 ≤ m) {n : Nat} (h3 : 41 ≤ n) : widthOf ws (.once (.columns (.table t) (List.replicate n 0))) = none := by
  show widthOf ws (.columns (.table t) (List.replicate n 0)) = none
  rw [w_rep hm h1 (by omega)]
  exact if_neg (by omega)
theorem b6 (hm : widthOf ws (.table t) = some m) (hf : inW m far = false) (a c : V) : widthOf ws (.within (.table t) far a c) = none := by
  show (widthOf ws (.table t)).bind _ = none
  rw [hm]
  exact if_neg (by rw [hf]; exact Bool.false_ne_true)
theorem b7 (hm : widthOf ws (.table t) = some m) (hf : inW m far = false) : widthOf ws (.sums (.table t) [0, far] 0) = none := by
  show (widthOf ws (.table t)).bind _ = none
  rw [hm]
  exact if_neg fun z => by
    have := z.1
    simp [hf] at this
theorem b8 (hm : widthOf ws (.table t) = some m) (hf : inW m far = false) : widthOf ws (.sums (.table t) [] far) = none := by
  show (widthOf ws (.table t)).bind _ = none
  rw [hm]
  exact if_neg fun z => by
    have := z.2
    rw [hf] at this
    cases this
theorem b9 (hm : widthOf ws (.table t) = some m) (hf : inW m far = false) {ps : List (Int × Int)} (h : (∃ p ∈ ps, p.1 = far) ∨ ∃ p ∈ ps, p.2 = far) : widthOf ws (.meet (.table t) (.table t) ps) = none := by
  show (widthOf ws (.table t)).bind _ = none
  rw [hm]
  refine if_neg fun z => ?_
  rcases h with ⟨p, hp, e⟩ | ⟨p, hp, e⟩
  · have := List.all_eq_true.mp z.1 far (List.mem_map.mpr ⟨p, hp, e⟩)
    rw [hf] at this
    cases this
  · have := List.all_eq_true.mp z.2 far (List.mem_map.mpr ⟨p, hp, e⟩)
    rw [hf] at this
    cases this
theorem n_cols (n : widthOf ws v = none) (cs : List Int) : widthOf ws (.columns v cs) = none := by
  show (widthOf ws v).bind _ = none
  rw [n]
  rfl
theorem n_sums (n : widthOf ws v = none) (cs : List Int) (c : Int) : widthOf ws (.sums v cs c) = none := by
  show (widthOf ws v).bind _ = none
  rw [n]
  rfl
theorem n_both (n : widthOf ws v = none) (u : View) : widthOf ws (.both v u) = none := by
  show (widthOf ws v).bind _ = none
  rw [n]
  rfl
theorem n_meet (n : widthOf ws v = none) (u : View) (ps : List (Int × Int)) : widthOf ws (.meet u v ps) = none := by
  show (widthOf ws u).bind _ = none
  cases widthOf ws u with
  | none => rfl
  | some a =>
    show (widthOf ws v).bind _ = none
    rw [n]
    rfl
def spWrong : Sp := fun vs H Q _ => ∃ (cell far m t b : Int) (x y : V) (ws : List Int), vs = [.int cell, x, y, .int far, .int m] ∧ VAt H (.table t) x ∧ VAt H (.table b) y ∧ widthOf ws (.table t) = some m ∧ widthOf ws (.table b) = none ∧ 1 ≤ m ∧ m ≤ 6 ∧ inW m far = false ∧ ∀ v H', Ex H H' → Bad ws 8 v H' → Q v H'
theorem oddL (x : Str) (h : x = "Table" ∨ x = "join" ∨ x = "" ∨ x = "meets") : x ∈ four := by rcases h with rfl | rfl | rfl | rfl <;> decide
theorem xv_odd {k : Int} (hk : Ev t3 σ H (.int k)) (h0 : 0 ≤ k) (h1 : k < 4) (h : Est t1 σ H (IsV v)) (h2 : Est t2 σ H (IsV u)) (hv : VOk 1 v) (hu : VOk 1 u) : Est (tTup (tCons (tOp (rIxL K) (tLst (tCons (tC (.str "Table")) (tCons (tC (.str "join")) (tCons (tC (.str "")) (tCons (tC (.str "meets")) tNil))))) t3) (tCons t1 (tCons t2 tNil)))) σ H (Bad ws 2) := by
  have hw : Est (tOp (rIxL K) (tLst (tCons (tC (.str "Table")) (tCons (tC (.str "join")) (tCons (tC (.str "")) (tCons (tC (.str "meets")) tNil))))) t3) σ H (IsWord fun x => x ∈ four) := est_menu (n := 4) (i := k) (allz_cons ((est_is _).imp fun _ _ _ h => ⟨_, h, by decide⟩) (allz_cons ((est_is _).imp fun _ _ _ h => ⟨_, h, by decide⟩) (allz_cons ((est_is _).imp fun _ _ _ h => ⟨_, h, by decide⟩) (allz_cons ((est_is _).imp fun _ _ _ h => ⟨_, h, by decide⟩) allz_nil IsWord.pers) IsWord.pers) IsWord.pers) IsWord.pers) IsWord.pers hk h0 (by omega) (by omega)
  exact est_tupE (esta_3 hw h h2 IsWord.pers (IsV.pers v) (IsV.pers u)) (fun vs => Pers.ex fun a => Pers.ex fun b => Pers.ex fun c => (Pers.c _).and ((IsWord.pers a).and ((IsV.pers v b).and (IsV.pers u c)))) (fun vs H' ⟨a, b, c, e, _⟩ => by rw [e]; exact le5 _ rfl (by show 3 ≤ 100000; omega)) fun p vs H' hp ⟨a, b, c, e, ⟨o, ea, ho⟩, hb, hc⟩ => ⟨.odd o v u, ⟨hv, hu⟩, ⟨p, b, c, rfl, by rw [hp, e, ea], hb, hc, ho⟩, rfl⟩
theorem ok_wrong {f : Addr} {fd : FuncData} {k : Nat} (A : FnAt K mg "_law_wrong" sL_wrong PL_wrong f fd) (B : Bt mg) : FnOk P w K mg base CX0 (k + 1) f fd PL_wrong spWrong := by
  refine A.F.ok scL_wrong (fun vs H Q E h => ?_) (fun cdv A' outer s H vs Q E hr h => ?_)
  · obtain ⟨_, _, _, _, _, _, _, _, rfl, _⟩ := h
    rfl
  obtain ⟨cell, far, m, t, b, x, y, ws, rfl, hx, hy, hm, hb, m1, m6, hf, q⟩ := h
  refine ⟨_, (pss_cons (ps_set (i := 5) scL_wrong.nd rfl (.inl rfl) (pe_op op_mod (pe_op op_fdiv (pv 0) pe_int) pe_int))
  (pss_cons (ps_set (i := 6) scL_wrong.nd rfl (.inl rfl) (pe_lst (pa_cons (pv 2) (pa_cons (pe_tup (pa_cons pe_str (pa_cons (pv 1) (pa_cons (pe_tup (pa_cons pe_int (pa_cons (pv 3) pa_nil))) pa_nil)))) (pa_cons (pe_tup (pa_cons pe_str (pa_cons (pe_tup (pa_cons pe_str (pa_cons (pv 1) (pa_cons (pe_op op_repT (pe_tup (pa_cons pe_int pa_nil)) (pe_op op_add pe_int (pv 5))) pa_nil)))) pa_nil))) pa_nil)))))
  (pss_cons (ps_set (i := 6) scL_wrong.nd rfl (.inl rfl) (pe_op op_cat (pv 6) (pe_lst (pa_cons (pe_tup (pa_cons pe_str (pa_cons (pv 1) (pa_cons (pe_tup (pa_cons pe_str (pa_cons (pv 1) (pa_cons (pe_op op_repT (pe_tup (pa_cons pe_int pa_nil)) (pe_op op_add (pv 4) pe_int)) pa_nil)))) pa_nil)))) (pa_cons (pe_tup (pa_cons pe_str (pa_cons (pe_tup (pa_cons pe_str (pa_cons (pv 1) (pa_cons (pe_op op_repT (pe_tup (pa_cons pe_int pa_nil)) pe_int) pa_nil)))) (pa_cons (pv 1) pa_nil)))) pa_nil)))))
  (pss_cons (ps_set (i := 6) scL_wrong.nd rfl (.inl rfl) (pe_op op_cat (pv 6) (pe_lst (pa_cons (pe_tup (pa_cons pe_str (pa_cons (pe_tup (pa_cons pe_str (pa_cons (pv 1) (pa_cons (pe_op op_repT (pe_tup (pa_cons pe_int pa_nil)) (pe_op op_add pe_int (pv 5))) pa_nil)))) pa_nil))) (pa_cons (pe_tup (pa_cons pe_str (pa_cons (pv 1) (pa_cons (pv 3) (pa_cons pe_int (pa_cons pe_int pa_nil)))))) pa_nil)))))
  (pss_cons (ps_set (i := 6) scL_wrong.nd rfl (.inl rfl) (pe_op op_cat (pv 6) (pe_lst (pa_cons (pe_tup (pa_cons pe_str (pa_cons (pv 1) (pa_cons (pe_tup (pa_cons pe_int (pa_cons (pv 3) pa_nil))) (pa_cons pe_int pa_nil))))) (pa_cons (pe_tup (pa_cons pe_str (pa_cons (pv 1) (pa_cons (pe_tup pa_nil) (pa_cons (pv 3) pa_nil))))) (pa_cons (pe_tup (pa_cons pe_str (pa_cons (pv 1) (pa_cons (pv 1) (pa_cons (pe_tup (pa_cons (pe_tup (pa_cons pe_int (pa_cons pe_int pa_nil))) (pa_cons (pe_tup (pa_cons (pv 3) (pa_cons pe_int pa_nil))) pa_nil))) pa_nil))))) pa_nil))))))
  (pss_cons (ps_set (i := 6) scL_wrong.nd rfl (.inl rfl) (pe_op op_cat (pv 6) (pe_lst (pa_cons (pe_tup (pa_cons pe_str (pa_cons (pv 1) (pa_cons (pv 1) (pa_cons (pe_tup (pa_cons (pe_tup (pa_cons pe_int (pa_cons (pv 3) pa_nil))) pa_nil)) pa_nil))))) (pa_cons (pe_tup (pa_cons (pe_ix (r := rIxL K) ix_list (pe_lst (pa_cons pe_str (pa_cons pe_str (pa_cons pe_str (pa_cons pe_str pa_nil))))) (pe_op op_mod (pv 5) pe_int) (fun _ _ => rfl)) (pa_cons (pv 1) (pa_cons (pv 1) pa_nil)))) pa_nil)))))
  (pss_cons (ps_set (i := 7) scL_wrong.nd rfl (.inl rfl) (pe_ix (r := rIxL K) ix_list (pv 6) (pe_op op_mod (pv 0) pe_int) (fun _ _ => rfl)))
  (pss_cons (ps_for PassesOwn.never rfl (pi_range1 rfl B.range (pa_cons (pe_op op_mod (pe_op op_fdiv (pv 0) pe_int) pe_int) pa_nil)) (pg_name (i := 8) scL_wrong.nd rfl (.inl rfl))
    (pss_cons (ps_set (i := 9) scL_wrong.nd rfl (.inl rfl) (pe_lst (pa_cons (pe_tup (pa_cons pe_str (pa_cons (pv 7) pa_nil))) (pa_cons (pe_tup (pa_cons pe_str (pa_cons (pv 7) (pa_cons (pe_tup (pa_cons pe_int pa_nil)) pa_nil)))) (pa_cons (pe_tup (pa_cons pe_str (pa_cons (pv 1) (pa_cons (pv 7) (pa_cons (pe_tup pa_nil) pa_nil))))) pa_nil)))))
  (pss_one (ps_set (i := 7) scL_wrong.nd rfl (.inl rfl) (pe_ix (r := rIxL K) ix_list (pe_op op_cat (pv 9) (pe_lst (pa_cons (pe_tup (pa_cons pe_str (pa_cons (pv 7) (pa_cons (pv 7) pa_nil)))) (pa_cons (pe_tup (pa_cons pe_str (pa_cons (pv 7) (pa_cons (pe_tup pa_nil) (pa_cons pe_int pa_nil))))) pa_nil)))) (pe_op op_mod (pe_op op_add (pe_op op_fdiv (pv 0) pe_int) (pv 8)) pe_int) (fun _ _ => rfl))))))
  (pss_one (ps_ret (pv 7))))))))))), ?_⟩
  refine w_asg (P := Is (.int (cell / 11 % 30))) (xi (fun H1 e1 Q1 q1 => by (repeat (first | (refine ⟨_, rfl, ?_⟩) | (refine ⟨_, _, rfl, rfl, ?_⟩) | (refine ⟨⟨by decide, by decide⟩, ?_⟩) | (refine ⟨(by show (0 : Int) < _; decide), ?_⟩) | (refine ⟨rfl, ?_⟩) | (refine ⟨(by show _ ≠ (0 : Int); omega), ?_⟩) | (refine ⟨.inl ⟨by decide, by decide⟩, ?_⟩) | (refine ⟨(by assumption : CDivN _ _), ?_⟩))); exact q1 _ (Ex.refl _))) fun v5 H5 e5 h5 => ?_
  rw [show v5 = .int (cell / 11 % 30) from h5]
  have hmore : 0 ≤ cell / 11 % 30 ∧ cell / 11 % 30 < 30 := ⟨by omega, by omega⟩
  generalize cell / 11 % 30 = more at hmore
  have vx : ∀ {σ' : L2.St} {H' : Hp}, Ex H H' → σ'[1]? = some (some x) → Est (tVar 1) σ' H' (IsV (.table t)) := fun e h => est_var h (VAt.pers _ _ _ _ e hx) (IsV.pers _ _)
  refine w_asg (P := IsLs (Bad ws 3) 3) (est_ls (Bad.pers 3) (allz_cons (bad 3 (est_var rfl (VAt.pers _ _ _ _ e5 hy) (IsV.pers _ _)) True.intro hb) (allz_cons (bad 3 (xv_columns (vx e5 rfl) (xc (ai_cons ev_c (ai_cons (ev_var rfl) ai_nil)) (by show 2 ≤ 1000; omega))) ⟨True.intro, (by show 2 ≤ 1000; omega)⟩ (b1 hm hf)) (allz_cons (bad 3 (xv_reach (xv_columns (vx e5 rfl) (xc_rep (n := 3 + more) (fun H1 e1 Q1 q1 => by (repeat (first | (refine ⟨_, rfl, ?_⟩) | (refine ⟨_, _, rfl, rfl, ?_⟩) | (refine ⟨⟨by decide, by decide⟩, ?_⟩) | (refine ⟨(by show (0 : Int) < _; decide), ?_⟩) | (refine ⟨rfl, ?_⟩) | (refine ⟨(by show _ ≠ (0 : Int); omega), ?_⟩) | (refine ⟨.inl ⟨by decide, by decide⟩, ?_⟩) | (refine ⟨(by assumption : CDivN _ _), ?_⟩))); exact q1 _ (Ex.refl _)) (by omega) (by omega)))) ⟨True.intro, (by rw [List.length_replicate]; omega)⟩ (b2 hm m1 (by omega))) allz_nil (Bad.pers _)) (Bad.pers _)) (Bad.pers _)) (by omega)) fun v6 H6 e6 h6 => ?_
  have e06 := e5.trans e6
  refine w_asg (P := IsLs (Bad ws 3) 5) (est_catLs (m := 2) (Bad.pers 3) rfl h6 (allz_cons (bad 3 (xv_less (vx e06 rfl) (xv_columns (vx e06 rfl) (xc_rep (n := m + 1) (fun H1 e1 Q1 q1 => by (repeat (first | (refine ⟨_, rfl, ?_⟩) | (refine ⟨_, _, rfl, rfl, ?_⟩) | (refine ⟨⟨by decide, by decide⟩, ?_⟩) | (refine ⟨(by show (0 : Int) < _; decide), ?_⟩) | (refine ⟨rfl, ?_⟩) | (refine ⟨(by show _ ≠ (0 : Int); omega), ?_⟩) | (refine ⟨.inl ⟨by decide, by decide⟩, ?_⟩) | (refine ⟨(by assumption : CDivN _ _), ?_⟩))); exact q1 _ (Ex.refl _)) (by omega) (by omega)))) ⟨True.intro, True.intro, (by rw [List.length_replicate]; omega)⟩ (b3 hm m1 (by omega))) (allz_cons (bad 3 (xv_both (xv_columns (vx e06 rfl) (xc_rep (n := 7) ev_c (by omega) (by omega))) (vx e06 rfl)) ⟨⟨True.intro, (by rw [List.length_replicate]; omega)⟩, True.intro⟩ (b4 hm m1 m6)) allz_nil (Bad.pers _)) (Bad.pers _)) (by omega)) fun v7 H7 e7 h7 => ?_
  have e07 := e06.trans e7
  refine w_asg (P := IsLs (Bad ws 3) 7) (est_catLs (m := 2) (Bad.pers 3) rfl h7 (allz_cons (bad 3 (xv_once (xv_columns (vx e07 rfl) (xc_rep (n := 41 + more) (fun H1 e1 Q1 q1 => by (repeat (first | (refine ⟨_, rfl, ?_⟩) | (refine ⟨_, _, rfl, rfl, ?_⟩) | (refine ⟨⟨by decide, by decide⟩, ?_⟩) | (refine ⟨(by show (0 : Int) < _; decide), ?_⟩) | (refine ⟨rfl, ?_⟩) | (refine ⟨(by show _ ≠ (0 : Int); omega), ?_⟩) | (refine ⟨.inl ⟨by decide, by decide⟩, ?_⟩) | (refine ⟨(by assumption : CDivN _ _), ?_⟩))); exact q1 _ (Ex.refl _)) (by omega) (by omega)))) ⟨True.intro, (by rw [List.length_replicate]; omega)⟩ (b5 hm m1 (by omega))) (allz_cons (bad 3 (xv_within (vx e07 rfl) (ev_var rfl) ev_c ev_c) True.intro (b6 hm hf _ _)) allz_nil (Bad.pers _)) (Bad.pers _)) (by omega)) fun v8 H8 e8 h8 => ?_
  have e08 := e07.trans e8
  refine w_asg (P := IsLs (Bad ws 3) 10) (est_catLs (m := 3) (Bad.pers 3) rfl h8 (allz_cons (bad 3 (xv_sums (vx e08 rfl) (xc (ai_cons ev_c (ai_cons (ev_var rfl) ai_nil)) (by show 2 ≤ 1000; omega)) ev_c) ⟨True.intro, (by show 2 ≤ 1000; omega)⟩ (b7 hm hf)) (allz_cons (bad 3 (xv_sums (vx e08 rfl) (xc ai_nil (by show 0 ≤ 1000; omega)) (ev_var rfl)) ⟨True.intro, (by show 0 ≤ 1000; omega)⟩ (b8 hm hf)) (allz_cons (bad 3 (xv_meet (vx e08 rfl) (vx e08 rfl) (xps (ap_cons (xp (p := (0, 0)) ev_c ev_c) (ap_cons (xp (p := (far, 0)) (ev_var rfl) ev_c) ap_nil)) (by show 2 ≤ 1000; omega))) ⟨True.intro, True.intro, (by show 2 ≤ 1000; omega)⟩ (b9 hm hf (.inl ⟨(far, 0), by simp, rfl⟩))) allz_nil (Bad.pers _)) (Bad.pers _)) (Bad.pers _)) (by omega)) fun v9 H9 e9 h9 => ?_
  have e09 := e08.trans e9
  refine w_asg (P := IsLs (Bad ws 3) 12) (est_catLs (m := 2) (Bad.pers 3) rfl h9 (allz_cons (bad 3 (xv_meet (vx e09 rfl) (vx e09 rfl) (xps (ap_cons (xp (p := (0, far)) ev_c (ev_var rfl)) ap_nil) (by show 1 ≤ 1000; omega))) ⟨True.intro, True.intro, (by show 1 ≤ 1000; omega)⟩ (b9 hm hf (.inr ⟨(0, far), by simp, rfl⟩))) (allz_cons ((xv_odd (k := more % 4) (fun H1 e1 Q1 q1 => by (repeat (first | (refine ⟨_, rfl, ?_⟩) | (refine ⟨_, _, rfl, rfl, ?_⟩) | (refine ⟨⟨by decide, by decide⟩, ?_⟩) | (refine ⟨(by show (0 : Int) < _; decide), ?_⟩) | (refine ⟨rfl, ?_⟩) | (refine ⟨(by show _ ≠ (0 : Int); omega), ?_⟩) | (refine ⟨.inl ⟨by decide, by decide⟩, ?_⟩) | (refine ⟨(by assumption : CDivN _ _), ?_⟩))); exact q1 _ (Ex.refl _)) (by omega) (by omega) (vx e09 rfl) (vx e09 rfl) True.intro True.intro).imp fun z G _ ⟨v, a, b, c⟩ => ⟨v, a.up, b, c⟩) allz_nil (Bad.pers _)) (Bad.pers _)) (by omega)) fun v10 H10 e10 h10 => ?_
  have e010 := e09.trans e10
  refine w_asg (P := Bad ws 3) (est_ixL (n := 12) (k := cell % 12) (Bad.pers 3) (est_var rfl h10 (IsLs.pers (Bad.pers 3) _)) (fun H1 e1 Q1 q1 => by (repeat (first | (refine ⟨_, rfl, ?_⟩) | (refine ⟨_, _, rfl, rfl, ?_⟩) | (refine ⟨⟨by decide, by decide⟩, ?_⟩) | (refine ⟨(by show (0 : Int) < _; decide), ?_⟩) | (refine ⟨rfl, ?_⟩) | (refine ⟨(by show _ ≠ (0 : Int); omega), ?_⟩) | (refine ⟨.inl ⟨by decide, by decide⟩, ?_⟩) | (refine ⟨(by assumption : CDivN _ _), ?_⟩))); exact q1 _ (Ex.refl _)) (by omega) (by omega)) fun v11 H11 e11 h11 => ?_
  have e011 := e010.trans e11
  (repeat (first | (refine ⟨_, rfl, ?_⟩) | (refine ⟨_, _, rfl, rfl, ?_⟩) | (refine ⟨⟨by decide, by decide⟩, ?_⟩) | (refine ⟨(by show (0 : Int) < _; decide), ?_⟩) | (refine ⟨rfl, ?_⟩) | (refine ⟨(by show _ ≠ (0 : Int); omega), ?_⟩) | (refine ⟨.inl ⟨by decide, by decide⟩, ?_⟩) | (refine ⟨(by assumption : CDivN _ _), ?_⟩)))
  refine ⟨by omega, by omega, ?_⟩
  refine for_range (n := (cell / 12 % 4).toNat) (fun i σ G => ∃ (z10 z7 : V) (o8 o9 : Option V), σ = [some (.int cell), some x, some y, some (.int far), some (.int m), some (.int more), some z10, some z7, o8, o9] ∧ Ex H G ∧ Bad ws (3 + i) z7 G) ⟨v10, v11, none, none, rfl, e011, h11⟩ ?_ ?_
  · rintro i σ G hi ⟨z10, z7, o8, o9, rfl, e, z, hz, hv, hn⟩
    rw [Int.zero_add]
    have vz : ∀ {σ' : L2.St} {H' : Hp}, Ex G H' → σ'[7]? = some (some z7) → Est (tVar 7) σ' H' (IsV z) := fun e h => est_var h (VAt.pers _ _ _ _ e hv) (IsV.pers _ _)
    have hz' : VOk (3 + i) (.table t) := by rw [show 3 + i = (2 + i) + 1 by omega]; exact True.intro
    refine w_asg (P := IsLs (Bad ws (3 + (i + 1))) 3) (est_ls (Bad.pers _) (allz_cons (bad _ (xv_once (vz (Ex.refl G) rfl)) hz hn) (allz_cons (bad _ (xv_columns (vz (Ex.refl G) rfl) (xc (ai_cons ev_c ai_nil) (by decide))) ⟨hz, (by show 1 ≤ 1000; omega)⟩ (n_cols hn _)) (allz_cons (bad _ (xv_meet (vx e rfl) (vz (Ex.refl G) rfl) (xps ap_nil (by decide))) ⟨hz', hz, (by show 0 ≤ 1000; omega)⟩ (n_meet hn _ _)) allz_nil (Bad.pers _)) (Bad.pers _)) (Bad.pers _)) (by omega)) fun v12 H12 e12 h12 => ?_
    refine w_asg1 (P := Bad ws (3 + (i + 1))) (est_ixL (n := 5) (k := (cell / 48 + i) % 5) (Bad.pers _) (est_catLs (m := 2) (Bad.pers _) rfl h12 (allz_cons (bad _ (xv_both (vz e12 rfl) (vz e12 rfl)) ⟨hz, hz⟩ (n_both hn _)) (allz_cons (bad _ (xv_sums (vz e12 rfl) (xc ai_nil (by decide)) ev_c) ⟨hz, (by show 0 ≤ 1000; omega)⟩ (n_sums hn _ _)) allz_nil (Bad.pers _)) (Bad.pers _)) (by omega)) (fun H1 e1 Q1 q1 => by (repeat (first | (refine ⟨_, rfl, ?_⟩) | (refine ⟨_, _, rfl, rfl, ?_⟩) | (refine ⟨⟨by decide, by decide⟩, ?_⟩) | (refine ⟨(by show (0 : Int) < _; decide), ?_⟩) | (refine ⟨rfl, ?_⟩) | (refine ⟨(by show _ ≠ (0 : Int); omega), ?_⟩) | (refine ⟨.inl ⟨by decide, by decide⟩, ?_⟩) | (refine ⟨(by assumption : CDivN _ _), ?_⟩))); exact q1 _ (Ex.refl _)) (by omega) (by omega)) fun v13 H13 e13 h13 => ?_
    exact ⟨z10, v13, _, _, rfl, (e.trans e12).trans e13, h13⟩
  · rintro σ G ⟨z10, z7, o8, o9, rfl, e, z, hz, hv, hn⟩
    exact ⟨_, rfl, q _ G e ⟨z, hz.le (by omega), hv, hn⟩⟩
/-! ### the views that the law puts -/
def spSome : Sp := fun vs H Q _ => ∃ (cell : Int) (wl : Addr) (ws : List Int), vs = [.int cell, .ref wl] ∧ H wl = some (.lst (ws.map V.int)) ∧ 1 ≤ ws.length ∧ ws.length ≤ 10 ∧ (∀ c ∈ ws, 1 ≤ c ∧ c ≤ 6) ∧
  ∀ (x : V) (v : View) (H' : Hp), Ex H H' → VOk 8 v → VAt H' v x → (cell % 4 = 3 → widthOf ws v = none) → (¬ cell % 4 = 3 → GoodV ws.length (fun t => ws.getD t.toNat 0) v ∧ ∃ m, widthOf ws v = some m) → Q x H'
theorem w_table {t : Int} (h0 : 0 ≤ t) (h1 : t < ws.length) : widthOf ws (.table t) = some (ws.getD t.toNat 0) := by
  show (if 0 ≤ t ∧ t < ws.length then ws[t.toNat]? else none) = _
  rw [if_pos ⟨h0, h1⟩, List.getD_eq_getElem?_getD, List.getElem?_eq_getElem (by omega : t.toNat < ws.length)]
  rfl
theorem ws_at {t : Int} (h0 : 0 ≤ t) (h1 : t < ws.length) : atI (ws.map V.int) t = some (.int (ws.getD t.toNat 0)) := by
  have lt : t.toNat < ws.length := by omega
  have := atI_nat (xs := ws.map V.int) (j := t.toNat) (v := V.int ws[t.toNat]) (by rw [List.getElem?_map, List.getElem?_eq_getElem lt]; rfl)
  rw [show ((t.toNat : Nat) : Int) = t by omega] at this
  rw [this, List.getD_eq_getElem?_getD, List.getElem?_eq_getElem lt]
  rfl
theorem ws_mem {t : Int} (h0 : 0 ≤ t) (h1 : t < ws.length) : ws.getD t.toNat 0 ∈ ws := by
  have lt : t.toNat < ws.length := by omega
  rw [List.getD_eq_getElem?_getD, List.getElem?_eq_getElem lt]
  exact List.getElem_mem _
theorem inW_ge {m c : Int} (h : m ≤ c) : inW m c = false := by
  unfold inW
  rw [decide_eq_false (by omega : ¬ c < m), Bool.and_false]
theorem w_none {b : Int} (h : ¬ (0 ≤ b ∧ b < ws.length)) : widthOf ws (.table b) = none := if_neg h
theorem ok_some {f f1 : Addr} {fd fd1 : FuncData} {k : Nat} (A : FnAt K mg "_law_some" sL_some PL_some f fd) (Awrong : FnAt K mg "_law_wrong" sL_wrong PL_wrong f1 fd1) (B : Bt mg) : FnOk P w K mg base CX0 (k + 2) f fd PL_some spSome := by
  refine A.F.ok scL_some (fun vs H Q E h => ?_) (fun cdv A' outer s H vs Q E hr h => ?_)
  · obtain ⟨_, _, _, rfl, _⟩ := h
    rfl
  obtain ⟨cell, wl, ws, rfl, hwl, l1, l10, hws, q⟩ := h
  have hr1 : Room 1 _ := hr.mono (by omega)
  have Gwrong : FnOk P w K mg base CX0 1 f1 fd1 PL_wrong spWrong := ok_wrong Awrong B
  refine ⟨_, (pss_cons (ps_set (i := 2) scL_some.nd rfl (.inl rfl) (pe_op op_modN (pe_op op_fdiv (pv 0) pe_int) (pe_callB call_len_seq (by rfl) B.len (by decide +kernel) (pa_cons (pv 1) pa_nil))))
  (pss_cons (ps_set (i := 3) scL_some.nd rfl (.inl rfl) (pe_op op_modN (pe_op op_fdiv (pv 0) pe_int) (pe_ix (r := rIxL K) ix_list (pv 1) (pv 2) (fun _ _ => rfl))))
  (pss_cons (ps_if (pt_cmpR op_eq (pe_op op_mod (pv 0) pe_int) pe_int (nomark _)) (pss_cons (ps_set (i := 4) scL_some.nd rfl (.inl rfl) (pe_ix (r := rIxL K) ix_list (pe_lst (pa_cons (pe_un un_neg pe_int) (pa_cons (pe_ix (r := rIxL K) ix_list (pv 1) (pv 2) (fun _ _ => rfl)) (pa_cons (pe_op op_add (pe_ix (r := rIxL K) ix_list (pv 1) (pv 2) (fun _ _ => rfl)) (pe_op op_mod (pe_op op_fdiv (pv 0) pe_int) pe_int)) pa_nil)))) (pe_op op_mod (pe_op op_fdiv (pv 0) pe_int) pe_int) (fun _ _ => rfl)))
  (pss_cons (ps_set (i := 5) scL_some.nd rfl (.inl rfl) (pe_ix (r := rIxL K) ix_list (pe_lst (pa_cons (pe_op op_add (pe_callB call_len_seq (by rfl) B.len (by decide +kernel) (pa_cons (pv 1) pa_nil)) (pe_op op_mod (pe_op op_fdiv (pv 0) pe_int) pe_int)) (pa_cons (pe_op op_sub (pe_op op_sub pe_int pe_int) (pe_op op_mod (pe_op op_fdiv (pv 0) pe_int) pe_int)) pa_nil))) (pe_op op_mod (pe_op op_fdiv (pv 0) pe_int) pe_int) (fun _ _ => rfl)))
  (pss_one (ps_ret (pe_call Gwrong hr1 (by rfl) Awrong.g Awrong.F.kp Awrong.b .nil pass0 (pa_cons (pe_op op_fdiv (pv 0) pe_int) (pa_cons (pe_tup (pa_cons pe_str (pa_cons (pv 2) pa_nil))) (pa_cons (pe_tup (pa_cons pe_str (pa_cons (pv 5) pa_nil))) (pa_cons (pv 4) (pa_cons (pe_ix (r := rIxL K) ix_list (pv 1) (pv 2) (fun _ _ => rfl)) pa_nil)))))))))) pss_nil)
  (pss_cons (ps_if (pt_cmpR op_eq (pe_op op_mod (pv 0) pe_int) pe_int (nomark _)) (pss_one (ps_ret (pe_tup (pa_cons pe_str (pa_cons (pv 2) pa_nil))))) pss_nil)
  (pss_cons (ps_if (pt_cmpR op_eq (pe_op op_mod (pv 0) pe_int) pe_int (nomark _)) (pss_one (ps_ret (pe_tup (pa_cons pe_str (pa_cons (pe_tup (pa_cons pe_str (pa_cons (pv 2) pa_nil))) pa_nil))))) pss_nil)
  (pss_one (ps_ret (pe_tup (pa_cons pe_str (pa_cons (pe_tup (pa_cons pe_str (pa_cons (pv 2) pa_nil))) (pa_cons (pe_tup (pa_cons (pv 3) pa_nil)) pa_nil))))))))))), ?_⟩
  (repeat (first | (refine ⟨_, rfl, ?_⟩) | (refine ⟨_, _, rfl, rfl, ?_⟩) | (refine ⟨⟨by decide, by decide⟩, ?_⟩) | (refine ⟨(by show (0 : Int) < _; decide), ?_⟩) | (refine ⟨rfl, ?_⟩) | (refine ⟨(by show _ ≠ (0 : Int); omega), ?_⟩) | (refine ⟨.inl ⟨by decide, by decide⟩, ?_⟩) | (refine ⟨(by assumption : CDivN _ _), ?_⟩)))
  refine ⟨wl, _, rfl, .inl (sq_of hwl), ?_⟩
  rw [List.length_map]
  (repeat (first | (refine ⟨_, rfl, ?_⟩) | (refine ⟨_, _, rfl, rfl, ?_⟩) | (refine ⟨⟨by decide, by decide⟩, ?_⟩) | (refine ⟨(by show (0 : Int) < _; decide), ?_⟩) | (refine ⟨rfl, ?_⟩) | (refine ⟨(by show _ ≠ (0 : Int); omega), ?_⟩) | (refine ⟨.inl ⟨by decide, by decide⟩, ?_⟩) | (refine ⟨(by assumption : CDivN _ _), ?_⟩)))
  have t0 : 0 ≤ (cell / 4).fmod ws.length := Int.fmod_nonneg_of_pos _ (by omega)
  have t1 : (cell / 4).fmod ws.length < ws.length := Int.fmod_lt_of_pos _ (by omega)
  dsimp only
  generalize (cell / 4).fmod ws.length = t at *
  obtain ⟨m1, m6⟩ := hws _ (ws_mem t0 t1)
  have hm := w_table (ws := ws) t0 t1
  have hat := ws_at (ws := ws) t0 t1
  refine ⟨wl, ws.map V.int, t, _, rfl, rfl, sq_of hwl, hat, ?_⟩
  generalize hmm : ws.getD t.toNat 0 = m at *
  (repeat (first | (refine ⟨_, rfl, ?_⟩) | (refine ⟨_, _, rfl, rfl, ?_⟩) | (refine ⟨⟨by decide, by decide⟩, ?_⟩) | (refine ⟨(by show (0 : Int) < _; decide), ?_⟩) | (refine ⟨rfl, ?_⟩) | (refine ⟨(by show _ ≠ (0 : Int); omega), ?_⟩) | (refine ⟨.inl ⟨by decide, by decide⟩, ?_⟩) | (refine ⟨(by assumption : CDivN _ _), ?_⟩)))
  have c0 : 0 ≤ (cell / 12).fmod m := Int.fmod_nonneg_of_pos _ (by omega)
  have c1 : (cell / 12).fmod m < m := Int.fmod_lt_of_pos _ (by omega)
  dsimp only
  generalize (cell / 12).fmod m = c at *
  have ei : ∀ {σ' : L2.St} {H' : Hp}, Ex H H' → σ'[1]? = some (some (.ref wl)) → σ'[2]? = some (some (.int t)) → Ev (tOp (rIxL K) (tVar 1) (tVar 2)) σ' H' (.int m) := fun e h1 h2 H1 e1 Q1 q1 => ⟨_, h1, _, h2, wl, ws.map V.int, t, _, rfl, rfl, sq_of ((e.trans e1) _ _ hwl), hat, q1 H1 (Ex.refl H1)⟩
  (repeat (first | (refine ⟨_, rfl, ?_⟩) | (refine ⟨_, _, rfl, rfl, ?_⟩) | (refine ⟨⟨by decide, by decide⟩, ?_⟩) | (refine ⟨(by show (0 : Int) < _; decide), ?_⟩) | (refine ⟨rfl, ?_⟩) | (refine ⟨(by show _ ≠ (0 : Int); omega), ?_⟩) | (refine ⟨.inl ⟨by decide, by decide⟩, ?_⟩) | (refine ⟨(by assumption : CDivN _ _), ?_⟩)))
  refine ite2 (fun hd => ?_) (fun hd => ?_)
  · have h3 : cell % 4 = 3 := V.int.inj (of_decide_eq_true hd)
    refine w_asg (P := fun v _ => ∃ far, v = V.int far ∧ inW m far = false) (est_menu (n := 3) (i := cell / 3 % 3) (allz_cons ((xi (n := -1) (fun H1 e1 Q1 q1 => by (repeat (first | (refine ⟨_, rfl, ?_⟩) | (refine ⟨_, _, rfl, rfl, ?_⟩) | (refine ⟨⟨by decide, by decide⟩, ?_⟩) | (refine ⟨(by show (0 : Int) < _; decide), ?_⟩) | (refine ⟨rfl, ?_⟩) | (refine ⟨(by show _ ≠ (0 : Int); omega), ?_⟩) | (refine ⟨.inl ⟨by decide, by decide⟩, ?_⟩) | (refine ⟨(by assumption : CDivN _ _), ?_⟩))); exact q1 _ (Ex.refl _))).imp fun v _ _ e => ⟨-1, e, rfl⟩) (allz_cons ((xi (ei (Ex.refl H) rfl rfl)).imp fun v _ _ e => ⟨m, e, ?_⟩) (allz_cons ((xi (n := m + cell / 12 % 40) ?_).imp fun v _ _ e => ⟨_, e, ?_⟩) allz_nil (fun _ _ _ _ h => h)) (fun _ _ _ _ h => h)) (fun _ _ _ _ h => h)) (fun _ _ _ _ h => h) (fun H1 e1 Q1 q1 => by (repeat (first | (refine ⟨_, rfl, ?_⟩) | (refine ⟨_, _, rfl, rfl, ?_⟩) | (refine ⟨⟨by decide, by decide⟩, ?_⟩) | (refine ⟨(by show (0 : Int) < _; decide), ?_⟩) | (refine ⟨rfl, ?_⟩) | (refine ⟨(by show _ ≠ (0 : Int); omega), ?_⟩) | (refine ⟨.inl ⟨by decide, by decide⟩, ?_⟩) | (refine ⟨(by assumption : CDivN _ _), ?_⟩))); exact q1 _ (Ex.refl _)) (by omega) (by omega) (by omega)) fun v4 H4 e4 ⟨far, h4, hf⟩ => ?_
    · exact inW_ge (by omega)
    · exact fun H1 e1 Q1 q1 => (ei e1 rfl rfl) H1 (Ex.refl H1) _ fun H2 e2 => by (repeat (first | (refine ⟨_, rfl, ?_⟩) | (refine ⟨_, _, rfl, rfl, ?_⟩) | (refine ⟨⟨by decide, by decide⟩, ?_⟩) | (refine ⟨(by show (0 : Int) < _; decide), ?_⟩) | (refine ⟨rfl, ?_⟩) | (refine ⟨(by show _ ≠ (0 : Int); omega), ?_⟩) | (refine ⟨.inl ⟨by decide, by decide⟩, ?_⟩) | (refine ⟨(by assumption : CDivN _ _), ?_⟩))); exact q1 _ e2
    · exact inW_ge (by omega)
    subst h4
    refine w_asg (P := fun v _ => ∃ b, v = V.int b ∧ widthOf ws (.table b) = none) (est_menu (n := 2) (i := cell / 7 % 2) (allz_cons ((xi (n := ws.length + cell / 12 % 9) ?_).imp fun v _ _ e => ⟨_, e, w_none (by omega)⟩) (allz_cons ((xi (n := 0 - 1 - cell / 12 % 9) (fun H1 e1 Q1 q1 => by (repeat (first | (refine ⟨_, rfl, ?_⟩) | (refine ⟨_, _, rfl, rfl, ?_⟩) | (refine ⟨⟨by decide, by decide⟩, ?_⟩) | (refine ⟨(by show (0 : Int) < _; decide), ?_⟩) | (refine ⟨rfl, ?_⟩) | (refine ⟨(by show _ ≠ (0 : Int); omega), ?_⟩) | (refine ⟨.inl ⟨by decide, by decide⟩, ?_⟩) | (refine ⟨(by assumption : CDivN _ _), ?_⟩))); exact q1 _ (Ex.refl _))).imp fun v _ _ e => ⟨_, e, w_none (by omega)⟩) allz_nil (fun _ _ _ _ h => h)) (fun _ _ _ _ h => h)) (fun _ _ _ _ h => h) (fun H1 e1 Q1 q1 => by (repeat (first | (refine ⟨_, rfl, ?_⟩) | (refine ⟨_, _, rfl, rfl, ?_⟩) | (refine ⟨⟨by decide, by decide⟩, ?_⟩) | (refine ⟨(by show (0 : Int) < _; decide), ?_⟩) | (refine ⟨rfl, ?_⟩) | (refine ⟨(by show _ ≠ (0 : Int); omega), ?_⟩) | (refine ⟨.inl ⟨by decide, by decide⟩, ?_⟩) | (refine ⟨(by assumption : CDivN _ _), ?_⟩))); exact q1 _ (Ex.refl _)) (by omega) (by omega) (by omega)) fun v5 H5 e5 ⟨b, h5, hb⟩ => ?_
    · exact fun H1 e1 Q1 q1 => by
        (repeat (first | (refine ⟨_, rfl, ?_⟩) | (refine ⟨_, _, rfl, rfl, ?_⟩) | (refine ⟨⟨by decide, by decide⟩, ?_⟩) | (refine ⟨(by show (0 : Int) < _; decide), ?_⟩) | (refine ⟨rfl, ?_⟩) | (refine ⟨(by show _ ≠ (0 : Int); omega), ?_⟩) | (refine ⟨.inl ⟨by decide, by decide⟩, ?_⟩) | (refine ⟨(by assumption : CDivN _ _), ?_⟩)))
        refine ⟨wl, _, rfl, .inl (sq_of ((e4.trans e1) _ _ hwl)), ?_⟩
        rw [List.length_map]
        (repeat (first | (refine ⟨_, rfl, ?_⟩) | (refine ⟨_, _, rfl, rfl, ?_⟩) | (refine ⟨⟨by decide, by decide⟩, ?_⟩) | (refine ⟨(by show (0 : Int) < _; decide), ?_⟩) | (refine ⟨rfl, ?_⟩) | (refine ⟨(by show _ ≠ (0 : Int); omega), ?_⟩) | (refine ⟨.inl ⟨by decide, by decide⟩, ?_⟩) | (refine ⟨(by assumption : CDivN _ _), ?_⟩)))
        exact q1 _ (Ex.refl _)
    subst h5
    have e05 := e4.trans e5
    (repeat (first | (refine ⟨_, rfl, ?_⟩) | (refine ⟨_, _, rfl, rfl, ?_⟩) | (refine ⟨⟨by decide, by decide⟩, ?_⟩) | (refine ⟨(by show (0 : Int) < _; decide), ?_⟩) | (refine ⟨rfl, ?_⟩) | (refine ⟨(by show _ ≠ (0 : Int); omega), ?_⟩) | (refine ⟨.inl ⟨by decide, by decide⟩, ?_⟩) | (refine ⟨(by assumption : CDivN _ _), ?_⟩)))
    refine ⟨(by show 2 ≤ sizeLine; decide), fun p1 n1 => ?_⟩
    have e6 := Ex.new (o := .tup [.str "table", .int t]) n1
    (repeat (first | (refine ⟨_, rfl, ?_⟩) | (refine ⟨_, _, rfl, rfl, ?_⟩) | (refine ⟨⟨by decide, by decide⟩, ?_⟩) | (refine ⟨(by show (0 : Int) < _; decide), ?_⟩) | (refine ⟨rfl, ?_⟩) | (refine ⟨(by show _ ≠ (0 : Int); omega), ?_⟩) | (refine ⟨.inl ⟨by decide, by decide⟩, ?_⟩) | (refine ⟨(by assumption : CDivN _ _), ?_⟩)))
    refine ⟨(by show 2 ≤ sizeLine; decide), fun p2 n2 => ?_⟩
    have e7 := Ex.new (o := .tup [.str "table", .int b]) n2
    have e07 := (e05.trans e6).trans e7
    (repeat (first | (refine ⟨_, rfl, ?_⟩) | (refine ⟨_, _, rfl, rfl, ?_⟩) | (refine ⟨⟨by decide, by decide⟩, ?_⟩) | (refine ⟨(by show (0 : Int) < _; decide), ?_⟩) | (refine ⟨rfl, ?_⟩) | (refine ⟨(by show _ ≠ (0 : Int); omega), ?_⟩) | (refine ⟨.inl ⟨by decide, by decide⟩, ?_⟩) | (refine ⟨(by assumption : CDivN _ _), ?_⟩)))
    refine ⟨wl, ws.map V.int, t, _, rfl, rfl, sq_of (e07 _ _ hwl), hat, ?_⟩
    exact ⟨_, far, m, t, b, _, _, ws, rfl, ⟨p1, rfl, e7 _ _ upd_same⟩, ⟨p2, rfl, upd_same⟩, hm, hb, m1, m6, hf, fun x H' e ⟨v, ok, hv, hn⟩ => q x v H' (e07.trans e) ok hv (fun _ => hn) fun z => absurd h3 z⟩
  have h3 : ¬ cell % 4 = 3 := fun z => hd (decide_eq_true (congrArg V.int z))
  refine at_next ?_
  (repeat (first | (refine ⟨_, rfl, ?_⟩) | (refine ⟨_, _, rfl, rfl, ?_⟩) | (refine ⟨⟨by decide, by decide⟩, ?_⟩) | (refine ⟨(by show (0 : Int) < _; decide), ?_⟩) | (refine ⟨rfl, ?_⟩) | (refine ⟨(by show _ ≠ (0 : Int); omega), ?_⟩) | (refine ⟨.inl ⟨by decide, by decide⟩, ?_⟩) | (refine ⟨(by assumption : CDivN _ _), ?_⟩)))
  refine ite2 (fun hd => ?_) (fun hd => ?_)
  · exact w_ret (xv_table (ev_var rfl)) fun x H' e hx => q x (.table t) H' e True.intro hx (fun z => absurd z h3) fun _ => ⟨⟨t0, t1⟩, m, hm⟩
  refine at_next ?_
  (repeat (first | (refine ⟨_, rfl, ?_⟩) | (refine ⟨_, _, rfl, rfl, ?_⟩) | (refine ⟨⟨by decide, by decide⟩, ?_⟩) | (refine ⟨(by show (0 : Int) < _; decide), ?_⟩) | (refine ⟨rfl, ?_⟩) | (refine ⟨(by show _ ≠ (0 : Int); omega), ?_⟩) | (refine ⟨.inl ⟨by decide, by decide⟩, ?_⟩) | (refine ⟨(by assumption : CDivN _ _), ?_⟩)))
  refine ite2 (fun hd => ?_) (fun hd => ?_)
  · exact w_ret (xv_once (xv_table (ev_var rfl))) fun x H' e hx => q x (.once (.table t)) H' e True.intro hx (fun z => absurd z h3) fun _ => ⟨⟨t0, t1⟩, m, hm⟩
  refine at_next ?_
  refine w_ret (xv_columns (xv_table (ev_var rfl)) (xc (ai_cons (c := c) (ev_var rfl) ai_nil) (by show 1 ≤ 1000; omega))) fun x H' e hx => q x (.columns (.table t) [c]) H' e ⟨True.intro, (by show 1 ≤ 1000; omega)⟩ hx (fun z => absurd z h3) fun _ => ⟨⟨⟨t0, t1⟩, c0, by show c < ws.getD t.toNat 0; rw [hmm]; exact c1⟩, 1, ?_⟩
  rw [w_cols hm, if_pos ⟨by simp, by simp [inW, c0, c1]⟩]
  rfl
end
end K08

namespace K08
open PySem PySem.Spec PyProof.Rows L2 Evl KB KH KS
/-! ### what stands between the law's steps -/
def NB : Nat := 1048576
structure Rec where
  sc : Addr
  wl0 : Addr
  k : Addr
  wl : Addr
  hl : Addr
  vl : Addr
  al : Addr
  tl : Addr
  ns : List Int
  ws : List Int
  has : List Addr
  lds : List Addr
  aas : List Addr
  Ls : List Rows
  vxs : List V
  vs : List View
abbrev Rec.M (r : Rec) : List Addr := [r.hl, r.vl, r.al]
abbrev Rec.W (r : Rec) : Int → Int := fun t => r.ws.getD t.toNat 0
abbrev Rec.As (r : Rec) : List Rows := r.vs.map (ansL r.Ls)
def Scr (K : PySem.W.Frag) (H : Hp) (sc : Addr) (ns : List Int) (M : List Addr) : Prop := (H sc = some (.lst (ns.map V.int)) ∧ sc ∉ M) ∨ (∃ o, H sc = some (.frz o (.lst (ns.map V.int)))) ∨ ∀ H', SqL K H' sc (ns.map V.int)
theorem Scr.sl {K : PySem.W.Frag} {H : Hp} {sc : Addr} {ns : List Int} {M : List Addr} (h : Scr K H sc ns M) : SqL K H sc (ns.map V.int) := by
  rcases h with ⟨h, _⟩ | ⟨o, h⟩ | h
  · exact sq_of h
  · exact .inl (.inr ⟨o, h⟩)
  · exact h H
theorem Scr.xm {K : PySem.W.Frag} {H H' : Hp} {sc : Addr} {ns : List Int} {M M' : List Addr} (e : XM M' H H') (hM : ∀ b ∈ M', ∃ xs, H b = some (.lst xs)) (s : ∀ b ∈ M', b ∈ M) (h : Scr K H sc ns M) : Scr K H' sc ns M := by
  rcases h with ⟨h, n⟩ | ⟨o, h⟩ | h
  · exact .inl ⟨e.at_ _ _ (fun _ z => nomatch z) (fun z => n (s _ z)) h, n⟩
  · exact .inr (.inl ⟨o, e.off hM (fun _ z => nomatch z) (fun _ z => nomatch z) h⟩)
  · exact .inr (.inr h)
structure LI (K : PySem.W.Frag) (C P0 P1 : Addr) (M : List Addr) (n : Nat) (r : Rec) (H : Hp) : Prop where
  ka : KAt C H r.k r.wl r.hl r.vl r.al r.ws r.has r.Ls r.vxs r.vs r.aas r.As
  w0 : H r.wl0 = some (.lst (r.ws.map V.int))
  tb : HeapsAt H r.tl r.lds r.Ls
  nd : r.lds.Nodup
  d1 : ∀ d ∈ r.lds, d ∉ r.has
  d2 : ∀ d ∈ r.lds, d ∉ r.aas
  sub : ∀ a ∈ r.M, a ∈ M
  n0 : r.wl0 ∉ M
  n1 : r.tl ∉ M
  scr : Scr K H r.sc r.ns M
  T : Tabs r.W r.Ls
  g : ∀ v ∈ r.vs, GoodV r.Ls.length r.W v
  sz : ∀ t : Int, 0 ≤ t → t < r.Ls.length → (tabL r.Ls t).length ≤ n
  tg0 : GxR.TabG H P0
  tg1 : GxR.TabG H P1
  lw : r.ws.length = r.Ls.length
  l1 : 1 ≤ r.ws.length
  l10 : r.ws.length ≤ 10
  w6 : ∀ c ∈ r.ws, 1 ≤ c ∧ c ≤ 6
  bits : ∀ c ∈ r.ns, c.natAbs < 2 ^ NB
  v20 : r.vs.length ≤ 20
  n63 : r.ns.length ≤ 63
section
variable {K : PySem.W.Frag} {C P0 P1 : Addr} {M : List Addr} {n : Nat} {r : Rec} {H H' H1 H2 H3 : Hp} {t c : Int} {d : Addr} {row : List Int} {has' aas' : List Addr}
theorem heaps_xt {hl : Addr} {has : List Addr} {Ls : List Rows} (e : XT H H') (h : HeapsAt H hl has Ls) : HeapsAt H' hl has Ls := ⟨e.lst h.1, L2.Paired.mapP h.2 fun _ _ z => e.at_ _ _ (fun _ z => nomatch z) z⟩
theorem LI.xt (e : XT H H') (h : LI K C P0 P1 M n r H) : LI K C P0 P1 M n r H' :=
  { h with ka := h.ka.keep e, w0 := e.lst h.w0, tb := heaps_xt e h.tb, scr := h.scr.xm (M' := []) (XM.of e) (fun _ z => nomatch z) (fun _ z => nomatch z), tg0 := e.tab _ h.tg0, tg1 := e.tab _ h.tg1 }
/-- the keeper doesn't see the law's own dicts -/
theorem LI.kat (h : LI K C P0 P1 M n r H) {L : Rows} (hm : d ∈ r.lds) (hd : HeapAt H d L) (off : Off d H H1) : KAt C H1 r.k r.wl r.hl r.vl r.al r.ws r.has r.Ls r.vxs r.vs r.aas r.As := by
  have nl : ∀ {a : Addr} {xs : List V}, H a = some (.lst xs) → a ≠ d := fun z y => by unfold HeapAt at hd; rw [y, hd] at z; cases z
  have ni : ∀ {a C dx fs}, H a = some (.ins C dx fs) → a ≠ d := fun z y => by unfold HeapAt at hd; rw [y, hd] at z; cases z
  have nt : ∀ {a xs}, H a = some (.tup xs) → H1 a = some (.tup xs) := fun {a xs} z => off a _ (fun y => by unfold HeapAt at hd; rw [y, hd] at z; cases z) z
  have pr : ∀ {has : List Addr} {Ls : List Rows}, d ∉ has → Paired (HeapAt H) has Ls → Paired (HeapAt H1) has Ls := by
    intro has Ls nm hp
    induction hp with
    | nil => exact .nil
    | cons x t ih => exact .cons (off _ _ (fun y => nm (by rw [y]; exact List.mem_cons_self)) x) (ih fun z => nm (List.mem_cons_of_mem _ z))
  have k := h.ka
  obtain ⟨dx, hi⟩ := k.ins
  have xv : ∀ (v : View) (x : V), VAt H v x → VAt H1 v x := by
    have prs : ∀ {rs : List Addr} {ps : List (Int × Int)}, Paired (fun (r : Addr) (p : Int × Int) => H r = some (.tup [.int p.1, .int p.2])) rs ps → Paired (fun (r : Addr) (p : Int × Int) => H1 r = some (.tup [.int p.1, .int p.2])) rs ps := fun h => L2.Paired.mapP h fun _ _ z => nt z
    intro v
    induction v with
    | table t => rintro x ⟨p, a, b⟩; exact ⟨p, a, nt b⟩
    | within v c lo hi ih => rintro x ⟨p, y, a, b, hv, r⟩; exact ⟨p, y, a, nt b, ih y hv, r⟩
    | columns v cs ih => rintro x ⟨p, y, q, a, b, hv, hq⟩; exact ⟨p, y, q, a, nt b, ih y hv, nt hq⟩
    | both v w i1 i2 => rintro x ⟨p, y, z, a, b, hv, hw⟩; exact ⟨p, y, z, a, nt b, i1 y hv, i2 z hw⟩
    | less v w i1 i2 => rintro x ⟨p, y, z, a, b, hv, hw⟩; exact ⟨p, y, z, a, nt b, i1 y hv, i2 z hw⟩
    | meet v w ps i1 i2 => rintro x ⟨p, y, z, q, a, b, hv, hw, rs, hq, hr⟩; exact ⟨p, y, z, q, a, nt b, i1 y hv, i2 z hw, rs, nt hq, prs hr⟩
    | once v ih => rintro x ⟨p, y, a, b, hv⟩; exact ⟨p, y, a, nt b, ih y hv⟩
    | sums v ks c ih => rintro x ⟨p, y, q, a, b, hv, hq⟩; exact ⟨p, y, q, a, nt b, ih y hv, nt hq⟩
    | reach v ih => rintro x ⟨p, y, a, b, hv⟩; exact ⟨p, y, a, nt b, ih y hv⟩
    | odd o v w i1 i2 => rintro x ⟨p, y, z, a, b, hv, hw, f⟩; exact ⟨p, y, z, a, nt b, i1 y hv, i2 z hw, f⟩
  exact ⟨⟨dx, off _ _ (ni hi) hi⟩, off _ _ (nl k.w) k.w, ⟨off _ _ (nl k.h.1) k.h.1, pr (h.d1 d hm) k.h.2⟩, off _ _ (nl k.v) k.v, L2.Paired.mapP k.vw fun _ _ z => xv _ _ z, ⟨off _ _ (nl k.a.1) k.a.1, pr (h.d2 d hm) k.a.2⟩, k.la, k.n1, k.n2, k.n3, k.n4, k.n5, k.n6⟩
theorem off_tab {P : Addr} {L : Rows} (hd : HeapAt H d L) (off : Off d H H1) (h : GxR.TabG H P) : GxR.TabG H1 P := by
  obtain ⟨ps, a, b⟩ := h
  exact ⟨ps, off _ _ (fun y => by unfold HeapAt at hd; rw [y, hd] at a; cases a) a, b⟩
theorem paired_put {L' : Rows} : ∀ {lds : List Addr} {Ls : List Rows} {i : Nat}, Paired (HeapAt H) lds Ls → lds.Nodup → lds[i]? = some d → Off d H H1 → HeapAt H1 d L' → Paired (HeapAt H1) lds (Ls.set i L')
  | _, _, 0, .cons x tl, nd, hi, off, h1 => by
    cases hi
    refine .cons h1 ?_
    rw [List.nodup_cons] at nd
    have : ∀ {as : List Addr} {bs : List Rows}, d ∉ as → Paired (HeapAt H) as bs → Paired (HeapAt H1) as bs := by
      intro as bs nm hp
      induction hp with
      | nil => exact .nil
      | cons x t ih => exact .cons (off _ _ (fun y => nm (by rw [y]; exact List.mem_cons_self)) x) (ih fun z => nm (List.mem_cons_of_mem _ z))
    exact this nd.1 tl
  | _, _, i + 1, .cons x tl, nd, hi, off, h1 => by
    rw [List.nodup_cons] at nd
    refine .cons (off _ _ (fun y => nd.1 (by rw [y]; exact List.mem_of_getElem? (by simpa using hi))) x) (paired_put tl nd.2 (by simpa using hi) off h1)
theorem scr_off {sc : Addr} {ns : List Int} {L : Rows} (hd : HeapAt H d L) (off : Off d H H1) (h : Scr K H sc ns M) : Scr K H1 sc ns M := by
  rcases h with ⟨h, n⟩ | ⟨o, h⟩ | h
  · exact .inl ⟨off _ _ (fun y => by unfold HeapAt at hd; rw [y, hd] at h; cases h) h, n⟩
  · exact .inr (.inl ⟨o, off _ _ (fun y => by unfold HeapAt at hd; rw [y, hd] at h; cases h) h⟩)
  · exact .inr (.inr h)
/-- a row is put by the law and by the keeper -/
def Rec.chg (r : Rec) (t : Int) (row : List Int) (c : Int) (has' aas' : List Addr) : Rec := { r with has := has', aas := aas', Ls := r.Ls.set t.toNat (newL r.Ls t row c) }
theorem newL_len {Ls : List Rows} : (newL Ls t row c).length ≤ (tabL Ls t).length + 1 := put_len _ _ _
theorem LI.step (h : LI K C P0 P1 M n r H) (h0 : 0 ≤ t) (h1 : t < r.Ls.length) (hd : r.lds[t.toNat]? = some d) (off : Off d H H1) (hd1 : HeapAt H1 d (newL r.Ls t row c)) (e12 : XT H1 H2) (e23 : XM [r.hl, r.al] H2 H3)
    (ih : ∀ z ∈ has', z ∈ r.has ∨ New H2 z) (ia : ∀ z ∈ aas', z ∈ r.aas ∨ New H2 z) (k3 : KAt C H3 r.k r.wl r.hl r.vl r.al r.ws has' (r.Ls.set t.toNat (newL r.Ls t row c)) r.vxs r.vs aas' (r.vs.map (ansL (r.Ls.set t.toNat (newL r.Ls t row c))))) (wid : (row.length : Int) = r.W t) (hc : 0 < c) (hn : n + 1 ≤ 20) :
    LI K C P0 P1 M (n + 1) (r.chg t row c has' aas') H3 := by
  obtain ⟨d0, _, hd0, hdH⟩ := heaps_at h.tb h0 h1
  rw [hd] at hd0
  cases hd0
  have hm : d ∈ r.lds := List.mem_of_getElem? hd
  have k2 := (h.kat hm hdH off).keep e12
  have lists : ∀ b ∈ [r.hl, r.al], ∃ xs, H2 b = some (.lst xs) := fun b hb => k2.lists b (by
    rcases List.mem_cons.mp hb with z | z
    · rw [z]; exact List.mem_cons_self
    · rw [List.mem_singleton.mp z]; exact List.mem_cons_of_mem _ (List.mem_cons_of_mem _ List.mem_cons_self))
  have sub2 : ∀ b ∈ [r.hl, r.al], b ∈ M := fun b hb => h.sub b (by
    rcases List.mem_cons.mp hb with z | z
    · rw [z]; exact List.mem_cons_self
    · rw [List.mem_singleton.mp z]; exact List.mem_cons_of_mem _ (List.mem_cons_of_mem _ List.mem_cons_self))
  have nl : ∀ {a : Addr} {xs : List V}, H a = some (.lst xs) → a ≠ d := fun z y => by unfold HeapAt at hdH; rw [y, hdH] at z; cases z
  have tb1 : HeapsAt H1 r.tl r.lds (r.Ls.set t.toNat (newL r.Ls t row c)) := ⟨off _ _ (nl h.tb.1) h.tb.1, paired_put h.tb.2 h.nd hd off hd1⟩
  have tb2 := heaps_xt e12 tb1
  have tb3 : HeapsAt H3 r.tl r.lds (r.Ls.set t.toNat (newL r.Ls t row c)) := ⟨e23.at_ _ _ (fun _ z => nomatch z) (fun z => h.n1 (sub2 _ z)) tb2.1, L2.Paired.mapP tb2.2 fun _ _ z => e23.off lists (fun _ z => nomatch z) (fun _ z => nomatch z) z⟩
  have isD : ∀ z ∈ r.lds, ∃ kvs, H2 z = some (.dT kvs) := fun z hz => by
    obtain ⟨i, hi⟩ := List.mem_iff_getElem?.mp hz
    obtain ⟨L, _, hL⟩ := KD.paired_at tb2.2 hi
    exact ⟨_, hL⟩
  obtain ⟨cl, len, wd⟩ := h.T t h0 h1
  have T2 : Tabs r.W (r.Ls.set t.toNat (newL r.Ls t row c)) := tabs_set h.T h0 h1 (put_clean cl (plus_pos cl hc)) (Nat.le_trans newL_len (by have := h.sz t h0 h1; omega)) (fun z hz => (put_mem hz).elim (fun e => by rw [e]; exact wid) fun e => wd z e)
  refine { ka := k3, w0 := ?_, tb := tb3, nd := h.nd, d1 := ?_, d2 := ?_, sub := h.sub, n0 := h.n0, n1 := h.n1, scr := ?_, T := T2, g := ?_, sz := ?_, tg0 := ?_, tg1 := ?_, lw := ?_, l1 := h.l1, l10 := h.l10, w6 := h.w6, bits := h.bits, v20 := h.v20, n63 := h.n63 }
  · exact e23.at_ _ _ (fun _ z => nomatch z) (fun z => h.n0 (sub2 _ z)) (e12.lst (off _ _ (nl h.w0) h.w0))
  · intro z hz y
    obtain ⟨kvs, e⟩ := isD z hz
    exact (ih z y).elim (h.d1 z hz) fun q => q kvs e
  · intro z hz y
    obtain ⟨kvs, e⟩ := isD z hz
    exact (ia z y).elim (h.d2 z hz) fun q => q kvs e
  · exact (((scr_off hdH off h.scr).xm (M' := []) (XM.of e12) (fun _ z => nomatch z) (fun _ z => nomatch z))).xm e23 lists sub2
  · intro v hv
    show GoodV (r.Ls.set t.toNat (newL r.Ls t row c)).length r.W v
    rw [List.length_set]
    exact h.g v hv
  · intro u u0 u1
    show (tabL (r.Ls.set t.toNat (newL r.Ls t row c)) u).length ≤ n + 1
    rw [tab_set h0 h1 u0]
    have u1' : u < r.Ls.length := by rw [← List.length_set (as := r.Ls) (i := t.toNat) (a := newL r.Ls t row c)]; exact u1
    split
    · exact Nat.le_trans newL_len (by have := h.sz t h0 h1; omega)
    · exact Nat.le_succ_of_le (h.sz u u0 u1')
  · exact e23.tab _ (e12.tab _ (off_tab hdH off h.tg0))
  · exact e23.tab _ (e12.tab _ (off_tab hdH off h.tg1))
  · show r.ws.length = (r.Ls.set t.toNat (newL r.Ls t row c)).length
    rw [List.length_set]
    exact h.lw
end
end K08

namespace K08
open PySem PySem.Spec PyProof.Rows L2 Evl KB KH KS
section
variable {K : PySem.W.Frag} {C P0 P1 : Addr} {M : List Addr} {n : Nat} {r : Rec} {H H' H1 H2 H3 : Hp} {t c : Int} {d lv : Addr} {row : List Int} {has' aas' : List Addr} {x : V} {v : View}
/-- the law's own list of views -/
structure LVs (lv : Addr) (r : Rec) (H : Hp) : Prop where
  at_ : H lv = some (.lst r.vxs)
  out : lv ∉ [r.wl, r.hl, r.vl, r.al]
theorem LVs.new (n1 : H lv = none) (h : LI K C P0 P1 M n r H) (hx : r.vxs = []) : LVs lv r (upd H lv (.lst [])) := by
  refine ⟨by rw [upd_same, hx], fun z => ?_⟩
  have ne : ∀ {b : Addr} {xs : List V}, H b = some (.lst xs) → lv ≠ b := fun e y => by rw [← y, n1] at e; cases e
  simp only [List.mem_cons, List.not_mem_nil, or_false] at z
  rcases z with z | z | z | z
  · exact ne h.ka.w z
  · exact ne h.ka.h.1 z
  · exact ne h.ka.v z
  · exact ne h.ka.a.1 z
theorem LVs.xt (e : XT H H') (h : LVs lv r H) : LVs lv r H' := ⟨e.lst h.at_, h.out⟩
/-- a list of M changes that the keeper doesn't hold -/
theorem LI.mut {a : Addr} {xs : List V} (e : XM [a] H H') (ha : H a = some (.lst xs)) (m : a ∈ M) (o : a ∉ [r.wl, r.hl, r.vl, r.al]) (h : LI K C P0 P1 M n r H) : LI K C P0 P1 M n r H' := by
  have lists : ∀ b ∈ [a], ∃ xs, H b = some (.lst xs) := fun b hb => by rw [List.mem_singleton.mp hb]; exact ⟨xs, ha⟩
  have sub : ∀ b ∈ [a], b ∈ M := fun b hb => by rw [List.mem_singleton.mp hb]; exact m
  have k1 : KAt C H' r.k r.wl r.hl r.vl r.al r.ws r.has r.Ls r.vxs r.vs r.aas r.As := h.ka.xm e lists (fun z => o (by rw [← List.mem_singleton.mp z]; simp)) (fun z => o (by rw [← List.mem_singleton.mp z]; simp)) (fun z => o (by rw [← List.mem_singleton.mp z]; simp)) (fun z => o (by rw [← List.mem_singleton.mp z]; simp))
  have w1 : H' r.wl0 = some (.lst (r.ws.map V.int)) := e.at_ _ _ (fun _ z => nomatch z) (fun z => h.n0 (sub _ z)) h.w0
  have t1 : HeapsAt H' r.tl r.lds r.Ls := ⟨e.at_ _ _ (fun _ z => nomatch z) (fun z => h.n1 (sub _ z)) h.tb.1, L2.Paired.mapP h.tb.2 fun _ _ z => e.off lists (fun _ z => nomatch z) (fun _ z => nomatch z) z⟩
  exact { h with ka := k1, w0 := w1, tb := t1, scr := h.scr.xm e lists sub, tg0 := e.tab _ h.tg0, tg1 := e.tab _ h.tg1 }
def Rec.add (r : Rec) (x : V) (v : View) (d : Addr) : Rec := { r with vxs := r.vxs ++ [x], vs := r.vs ++ [v], aas := r.aas ++ [d] }
/-- a view is put -/
theorem LI.put (h : LI K C P0 P1 M n r H) (e : XM [r.vl, r.al] H H') (nd : New H d) (k : KAt C H' r.k r.wl r.hl r.vl r.al r.ws r.has r.Ls (r.vxs ++ [x]) (r.vs ++ [v]) (r.aas ++ [d]) (r.As ++ [ansL r.Ls v])) (g : GoodV r.Ls.length r.W v) (l20 : r.vs.length < 20) : LI K C P0 P1 M n (r.add x v d) H' := by
  have inM : ∀ b ∈ [r.vl, r.al], b ∈ r.M := fun b hb => by
    rcases List.mem_cons.mp hb with z | z
    · rw [z]; exact List.mem_cons_of_mem _ List.mem_cons_self
    · rw [List.mem_singleton.mp z]; exact List.mem_cons_of_mem _ (List.mem_cons_of_mem _ List.mem_cons_self)
  have lists : ∀ b ∈ [r.vl, r.al], ∃ xs, H b = some (.lst xs) := fun b hb => h.ka.lists b (inM b hb)
  have sub2 : ∀ b ∈ [r.vl, r.al], b ∈ M := fun b hb => h.sub b (inM b hb)
  have w1 : H' r.wl0 = some (.lst (r.ws.map V.int)) := e.at_ _ _ (fun _ z => nomatch z) (fun z => h.n0 (sub2 _ z)) h.w0
  have t1 : HeapsAt H' r.tl r.lds r.Ls := ⟨e.at_ _ _ (fun _ z => nomatch z) (fun z => h.n1 (sub2 _ z)) h.tb.1, L2.Paired.mapP h.tb.2 fun _ _ z => e.off lists (fun _ z => nomatch z) (fun _ z => nomatch z) z⟩
  have isD : ∀ z ∈ r.lds, ∃ kvs, H z = some (.dT kvs) := fun z hz => by
    obtain ⟨i, hi⟩ := List.mem_iff_getElem?.mp hz
    obtain ⟨L, _, hL⟩ := KD.paired_at h.tb.2 hi
    exact ⟨_, hL⟩
  have ka' : KAt C H' (r.add x v d).k (r.add x v d).wl (r.add x v d).hl (r.add x v d).vl (r.add x v d).al (r.add x v d).ws (r.add x v d).has (r.add x v d).Ls (r.add x v d).vxs (r.add x v d).vs (r.add x v d).aas (r.add x v d).As := by
    have ea : (r.add x v d).As = r.As ++ [ansL r.Ls v] := by
      show (r.vs ++ [v]).map (ansL r.Ls) = _
      rw [List.map_append]
      rfl
    rw [ea]
    exact k
  have d2' : ∀ z ∈ r.lds, z ∉ r.aas ++ [d] := fun z hz y => (List.mem_append.mp y).elim (h.d2 z hz) fun q => by
    obtain ⟨kvs, e⟩ := isD z hz
    rw [List.mem_singleton.mp q] at e
    exact nd kvs e
  have g' : ∀ u ∈ r.vs ++ [v], GoodV r.Ls.length r.W u := fun u hu => (List.mem_append.mp hu).elim (h.g u) fun q => by rw [List.mem_singleton.mp q]; exact g
  exact { ka := ka', w0 := w1, tb := t1, nd := h.nd, d1 := h.d1, d2 := d2', sub := h.sub, n0 := h.n0, n1 := h.n1, scr := h.scr.xm e lists sub2, T := h.T, g := g', sz := h.sz, tg0 := e.tab _ h.tg0, tg1 := e.tab _ h.tg1, lw := h.lw, l1 := h.l1, l10 := h.l10, w6 := h.w6, bits := h.bits, v20 := (by show (r.vs ++ [v]).length ≤ 20; rw [List.length_append]; exact l20), n63 := h.n63 }
/-! an answer is compared -/
theorem tab_as {Ls : List Rows} {vs : List View} {i : Nat} {v : View} (h : vs[i]? = some v) : tabL (vs.map (ansL Ls)) (i : Int) = ansL Ls v := by
  unfold tabL
  rw [List.getD_eq_getElem?_getD, show (i : Int).toNat = i from rfl, List.getElem?_map, h]
  rfl
theorem ev_cmp {σ : L2.St} {ti : TE} {c5 : Addr} {i : Nat} (L : LI K C P0 P1 M n r H) (U : LVs lv r H) (h2 : σ[2]? = some (some (.ref r.k))) (h4 : σ[4]? = some (some (.ref r.tl))) (h8 : σ[8]? = some (some (.ref lv))) (hi : Ev ti σ H (.int i)) (lt : i < r.vs.length) (Q : Bool → Hp → Prop) (q : ∀ H2, Ex H H2 → Q false H2) :
    tTest (tOp KZ.rNeRows (tCall spHo [] E0 (tCons (tMethE C "answer" (spAw C c5) (fun _ _ _ _ => False) (tVar 2) (tCons ti tNil)) tNil)) (tCall (spAnswer K) [] E0 (tCons (tOp (rIxL K) (tVar 8) ti) (tCons (tVar 4) tNil)))) σ H Q := by
  obtain ⟨dx, hin⟩ := L.ka.ins
  obtain ⟨v, hv⟩ : ∃ v, r.vs[i]? = some v := ⟨_, List.getElem?_eq_getElem lt⟩
  obtain ⟨x, hx, hvx⟩ : ∃ x, r.vxs[i]? = some x ∧ VAt H v x := by
    have lx : i < r.vxs.length := by rw [Paired.length L.ka.vw]; exact lt
    obtain ⟨v', hv', h'⟩ := KD.paired_at L.ka.vw (List.getElem?_eq_getElem lx)
    rw [hv] at hv'
    cases hv'
    exact ⟨_, List.getElem?_eq_getElem lx, h'⟩
  have gv := L.g v (List.mem_of_getElem? hv)
  obtain ⟨cl, len⟩ := ans_ok L.T v gv
  refine ⟨_, h2, r.k, dx, _, rfl, hin, rfl, hi H (Ex.refl H) _ fun H1 e1 => ?_⟩
  have L1 := L.xt (XT.of_ex e1)
  refine ⟨r.k, r.wl, r.hl, r.vl, r.al, r.ws, r.has, r.Ls, r.vxs, r.vs, r.aas, r.As, i, rfl, L1.ka, fun A hA => ?_, fun h0 h1 H2 l as M' e2 nl pm so hl pr => ?_, fun hn => absurd ⟨by omega, by rw [L1.ka.la]; omega⟩ hn⟩
  · obtain ⟨u, hu, e⟩ := List.mem_map.mp hA
    obtain ⟨a, b⟩ := ans_ok L1.T u (L1.g u hu)
    rw [e] at a b
    exact ⟨a.1, by omega⟩
  have pm2 : M'.Perm (ansL r.Ls v) := by rw [← tab_as (Ls := r.Ls) hv]; exact pm
  refine ⟨l, as, M', rfl, hl, pr, by rw [pm2.length_eq]; omega, (pm2.map _).nodup_iff.mpr cl.1, fun p hp => by have := cl.2 p (pm2.mem_iff.mp hp); omega, so, fun H3 d1 e3 hd1 => ?_⟩
  have e13 := (e1.trans e2).trans e3
  refine ⟨_, h8, hi H3 e13 _ fun H4 e4 => ?_⟩
  have e14 := e13.trans e4
  refine ⟨lv, r.vxs, i, x, rfl, rfl, sq_of (e14 _ _ U.at_), atI_nat hx, _, h4, x, r.tl, r.lds, v, r.Ls, r.W, rfl, gv, VAt.pers _ _ _ _ e14 hvx, heaps_ex e14 L.tb, L.T, fun H5 d2 e5 hd2 => ?_⟩
  exact ⟨d1, d2, M', ansL r.Ls v, rfl, rfl, (e4.trans e5) _ _ hd1, hd2, pm2, false, rfl, q H5 (e14.trans e5)⟩
end
end K08

namespace K08
open PySem PySem.Spec PyProof.Rows L2 Evl KB KH KS
section
variable {P : Program} {w : World} {K : PySem.W.Frag} {mg : Str → Option Value} {base : Heap} {C P0 P1 cErr c0 c1 c2 c3 c4 c5 : Addr}
open KP
theorem passNo {X : Cx} : ∀ σ, PassesAt (L2N.CX X.prog X.w) X σ ((fun _ _ _ _ => False : L2.St → XK) σ) := fun _ _ _ _ _ _ _ h => by
  obtain ⟨_, _, _, _, _, _, _, _, _, _, _, _, h⟩ := h
  exact h.elim
def spLaw (K : PySem.W.Frag) (P0 P1 : Addr) : Sp := fun vs H Q _ => ∃ (a : Addr) (ns : List Int), vs = [.ref a] ∧ GxR.TabG H P0 ∧ GxR.TabG H P1 ∧ SqL K H a (ns.map V.int) ∧ (∀ c ∈ ns, c.natAbs < 2 ^ NB) ∧ ns.length ≤ 63 ∧ ∀ H', Q (.bl true) H'
abbrev SL (r : Rec) (o5 o6 o7 o8 o9 o10 o11 o12 o13 o14 : Option V) : L2.St := [some (.ref r.sc), some (.ref r.wl0), some (.ref r.k), none, some (.ref r.tl), o5, o6, o7, o8, o9, o10, o11, o12, o13, o14]
theorem Scr.of {H : Hp} {sc : Addr} {ns : List Int} {M : List Addr} (h : SqL K H sc (ns.map V.int)) (n : ∀ b ∈ M, H b = none) : Scr K H sc ns M := by
  rcases h with (h | ⟨o, h⟩) | h
  · exact .inl ⟨h, fun z => by rw [n sc z] at h; cases h⟩
  · exact .inr (.inl ⟨o, h⟩)
  · exact .inr (.inr fun _ => .inr h)
theorem Scr.ex {H H' : Hp} {sc : Addr} {ns : List Int} {M : List Addr} (e : Ex H H') (h : Scr K H sc ns M) : Scr K H' sc ns M := h.xm (M' := []) (XM.ex e) (fun _ z => nomatch z) (fun _ z => nomatch z)
theorem tab_rep {n : Nat} {t : Int} : tabL (List.replicate n []) t = [] := by
  unfold tabL
  rw [List.getD_eq_getElem?_getD, List.getElem?_replicate]
  split <;> rfl
theorem li_start {H H1 H2 H3 : Hp} {sc wl0 x dx wl hl vl al tl : Addr} {ns ws : List Int} {has lds : List Addr} (hP0 : GxR.TabG H P0) (hP1 : GxR.TabG H P1) (hsc : SqL K H sc (ns.map V.int)) (hbits : ∀ c ∈ ns, c.natAbs < 2 ^ NB) (h63 : ns.length ≤ 63) (e1 : Ex H H1) (hw : H1 wl0 = some (.lst (ws.map V.int))) (l1 : 1 ≤ ws.length) (l10 : ws.length ≤ 10) (w6 : ∀ c ∈ ws, 1 ≤ c ∧ c ≤ 6)
    (nx : H1 x = none) (ndx : H1 dx = none) (off : ∀ a o, a ≠ x → (upd (upd H1 dx (.own x)) x (.ins C dx [])) a = some o → H2 a = some o) (ka : KAt C H2 x wl hl vl al ws has (List.replicate ws.length []) [] [] [] []) (fr : ∀ d ∈ has, (upd (upd H1 dx (.own x)) x (.ins C dx [])) d = none) (n1 : (upd (upd H1 dx (.own x)) x (.ins C dx [])) hl = none) (n2 : (upd (upd H1 dx (.own x)) x (.ins C dx [])) vl = none) (n3 : (upd (upd H1 dx (.own x)) x (.ins C dx [])) al = none)
    (ntl : H2 tl = none) (e3 : Ex H2 H3) (htl : H3 tl = some (.lst (lds.map V.ref))) (ll : lds.length = ws.length) (nd : lds.Nodup) (hl3 : ∀ d ∈ lds, H2 d = none ∧ H3 d = some (.dT [])) :
    LI K C P0 P1 [hl, vl, al] 0 ⟨sc, wl0, x, wl, hl, vl, al, tl, ns, ws, has, lds, [], List.replicate ws.length [], [], []⟩ H3 := by
  have e2 : Ex H1 H2 := fun a o z => off a o (ne_of_none z nx) (by rw [upd_ne (ne_of_none z nx), upd_ne (ne_of_none z ndx)]; exact z)
  have e12 : Ex H1 (upd (upd H1 dx (.own x)) x (.ins C dx [])) := fun a o z => by rw [upd_ne (ne_of_none z nx), upd_ne (ne_of_none z ndx)]; exact z
  have e13 := e2.trans e3
  have none1 : ∀ {a : Addr}, (upd (upd H1 dx (.own x)) x (.ins C dx [])) a = none → H1 a = none := fun z => fresh_back e12 z
  have allM : ∀ b ∈ [hl, vl, al], H1 b = none := fun b hb => by
    simp only [List.mem_cons, List.not_mem_nil, or_false] at hb
    rcases hb with rfl | rfl | rfl
    · exact none1 n1
    · exact none1 n2
    · exact none1 n3
  refine { ka := ka.keep (XT.of_ex e3), w0 := e13 _ _ hw, tb := ⟨htl, heaps_rep ll fun d hd => (hl3 d hd).2⟩, nd := nd, d1 := fun d hd y => ?_, d2 := (fun d _ y => nomatch y), sub := fun a h => h, n0 := fun z => ?_, n1 := fun z => ?_, scr := ?_, T := fun t _ _ => ?_, g := (fun v h => nomatch h), sz := fun t _ _ => ?_, tg0 := (XT.of_ex (e1.trans e13)).tab _ hP0, tg1 := (XT.of_ex (e1.trans e13)).tab _ hP1, lw := (List.length_replicate ..).symm, l1 := l1, l10 := l10, w6 := w6, bits := hbits, v20 := Nat.zero_le _, n63 := h63 }
  · obtain ⟨i, hi⟩ := List.mem_iff_getElem?.mp y
    obtain ⟨L, _, hL⟩ := KD.paired_at ka.h.2 hi
    unfold HeapAt at hL
    rw [(hl3 d hd).1] at hL
    cases hL
  · rw [allM _ z] at hw
    cases hw
  · obtain ⟨xs, h⟩ := ka.lists _ z
    rw [ntl] at h
    cases h
  · exact ((Scr.of (M := [hl, vl, al]) (ex_l e1 hsc) allM).ex e13)
  · show Clean (tabL (List.replicate ws.length []) t) ∧ _
    rw [tab_rep]
    exact ⟨clean_nil, Nat.zero_le _, (fun p h => nomatch h)⟩
  · show (tabL (List.replicate ws.length []) t).length ≤ 0
    rw [tab_rep]
    exact Nat.le_refl _
theorem w_as {te : TE} {g : TG} {tz : TS} {D : Ends} {σ : L2.St} {H : Hp} (h : te σ H fun v H1 => g v σ H1 fun σ' H' => tz D σ' H') : tSeq (tAsg te g) tz D σ H := h
theorem bits3 {N : Nat} {c : Int} (h : c.natAbs < 2 ^ N) : (c / 3).natAbs < 2 ^ (N + 4) := Nat.lt_of_le_of_lt (abs_div c 3 (by omega)) (Nat.lt_of_lt_of_le h (Nat.pow_le_pow_right (by omega) (by omega)))
theorem bits9 {N : Nat} {c k : Int} (h : c.natAbs < 2 ^ N) (k0 : 0 ≤ k) (k1 : k ≤ 2) : (c / 9 + 5 * k).natAbs < 2 ^ (N + 4) := by
  have h1 := abs_div c 9 (by omega)
  have e : 2 ^ (N + 4) = 2 ^ N * 16 := by rw [Nat.pow_add]
  have p : 0 < 2 ^ N := Nat.pow_pos (by omega)
  rw [e]
  generalize 2 ^ N = n at *
  omega
theorem LI.add {M : List Addr} {n : Nat} {r : Rec} {H : Hp} {a : Addr} (na : H a = none) (h : LI K C P0 P1 M n r H) : LI K C P0 P1 (a :: M) n r H := by
  have m0 : r.wl0 ∉ a :: M := fun z => (List.mem_cons.mp z).elim (fun e => by
    have := h.w0
    rw [e, na] at this
    cases this) h.n0
  have m1 : r.tl ∉ a :: M := fun z => (List.mem_cons.mp z).elim (fun e => by
    have := h.tb.1
    rw [e, na] at this
    cases this) h.n1
  have m2 : Scr K H r.sc r.ns (a :: M) := by
    rcases h.scr with ⟨x, y⟩ | x | x
    · exact .inl ⟨x, fun z => (List.mem_cons.mp z).elim (fun e => by rw [e, na] at x; cases x) y⟩
    · exact .inr (.inl x)
    · exact .inr (.inr x)
  exact { h with sub := fun b hb => List.mem_cons_of_mem _ (h.sub b hb), n0 := m0, n1 := m1, scr := m2 }
theorem LI.up {M : List Addr} {n m : Nat} {r : Rec} {H : Hp} (h : LI K C P0 P1 M n r H) (l : n ≤ m) : LI K C P0 P1 M m r H := { h with sz := fun t a b => Nat.le_trans (h.sz t a b) l }
theorem cut_ints (ns : List Int) (a b : Option Int) : ∃ cs : List Int, cutV (ns.map V.int) a b = cs.map V.int ∧ cs.length ≤ ns.length := by
  unfold cutV
  refine ⟨_, by rw [← List.map_drop, ← List.map_take], ?_⟩
  rw [List.length_take, List.length_drop]
  omega
theorem est_catI {σ : L2.St} {H : Hp} {t1 : TE} {n i : Nat} {lc : Addr} {cs : List Int} (h : Est t1 σ H (fun v H' => ∃ p xs, v = .ref p ∧ H' p = some (.lst xs) ∧ AllZ IsInt n xs H')) (hv : σ[i]? = some (some (.ref lc))) (hlc : H lc = some (.lst (cs.map V.int))) (hn : n ≤ 1000) (hc : cs.length ≤ 1000) :
    Est (tOp rCat t1 (tVar i)) σ H (fun v H' => ∃ (p : Addr) (ds : List Int), v = .ref p ∧ H' p = some (.lst (ds.map V.int)) ∧ H p = none) := fun H1 e Q q => h H1 e _ fun v H2 e2 ⟨p, xs, ev, hp, hl, hx⟩ => ⟨_, hv, by
  obtain ⟨is, his⟩ := ints_of hx
  have c2 := (e.trans e2) _ _ hlc
  refine ⟨p, lc, xs, cs.map V.int, ev, rfl, hp, c2, sz_of (by rw [List.length_map]; omega), fun r hr => q _ _ (e2.trans (Ex.new hr)) ⟨r, is ++ cs, rfl, by rw [upd_same, his, List.map_append], fresh_back (e.trans e2) hr⟩⟩⟩
def IsDue (cell : Int) (n : Nat) (z : V) (_ : Hp) : Prop := (cell % 4 = 3 → z = .str "view") ∧ (¬ cell % 4 = 3 → n < 20 → z = .int n) ∧ (¬ cell % 4 = 3 → ¬ n < 20 → z = .str "full")
theorem est_due {σ : L2.St} {H : Hp} {t1 t2 : TT} {tl : TE} {cell : Int} {n : Nat} (h1 : EvT t1 σ H (decide (cell % 4 = 3))) (h2 : EvT t2 σ H (decide (n < 20))) (h3 : Ev tl σ H (.int n)) : Est (tIf t1 (tC (.str "view")) (tIf t2 tl (tC (.str "full")))) σ H (IsDue cell n) :=
  est_if h1 (fun b => (est_is _).imp fun z _ _ e => ⟨fun _ => e, fun h => absurd (of_decide_eq_true b) h, fun h => absurd (of_decide_eq_true b) h⟩) fun b => est_if h2 (fun b2 => (est_ev h3).imp fun z _ _ e => ⟨fun h => absurd h (of_decide_eq_false b), fun _ _ => e, fun _ h => absurd (of_decide_eq_true b2) h⟩) fun b2 => (est_is _).imp fun z _ _ e => ⟨fun h => absurd h (of_decide_eq_false b), fun _ h => absurd h (of_decide_eq_false b2), fun _ _ => e⟩
theorem t_op {r : R2} {ta tb : TE} {σ : L2.St} {H : Hp} {Q : VK} (h : ta σ H fun x H1 => tb σ H1 fun y H2 => r x y H2 Q) : tOp r ta tb σ H Q := h
theorem ok_law {f fI fat fwid frow fval fput fcg faw fho fwh fans fsome fwr fsaid fnv : Addr} {fd fdI fdat fdwid fdrow fdval fdput fdcg fdaw fdho fdwh fdans fdsome fdwr fdsaid fdnv : FuncData} {N : Nat}
    (A : FnAt K mg "law" sL PL f fd) (MK : Mk K C fI) (gK : mg "Keeper" = some (.ref C)) (Ainit : MtAt K C "__init__" "Keeper.__init__" sM__init__ PM__init__ fI fdI) (Aat : FnAt K mg "_law_at" sL_at PL_at fat fdat) (Awidths : FnAt K mg "_law_widths" sL_widths PL_widths fwid fdwid) (Arow : FnAt K mg "_law_row" sL_row PL_row frow fdrow) (Avalue : FnAt K mg "_law_value" sL_value PL_value fval fdval) (Aput : FnAt K mg "_law_put" sL_put PL_put fput fdput)
    (Acg : MtAt K C "change" "Keeper.change" sMchange PMchange fcg fdcg) (Aaw : MtAt K C "answer" "Keeper.answer" sManswer PManswer faw fdaw) (Aho : FnAt K mg "_law_heap_of" sL_heap_of PL_heap_of fho fdho) (Awhole : FnAt K mg "_law_whole" sL_whole PL_whole fwh fdwh) (Aanswer : FnAt K mg "_law_answer" sL_answer PL_answer fans fdans) (Asome : FnAt K mg "_law_some" sL_some PL_some fsome fdsome) (Awrong : FnAt K mg "_law_wrong" sL_wrong PL_wrong fwr fdwr)
    (Asaid : FnAt K mg "_law_said" sL_said PL_said fsaid fdsaid) (Anv : FnAt K mg "_law_no_view" sL_no_view PL_no_view fnv fdnv) (Z : ClsF K C) (B : B8 mg) (B2 : Bt mg)
    (Gcg : FnOk P w K mg base CX0 6 fcg fdcg PMchange (spCg C P1)) (Gaw : FnOk P w K mg base (L2N.CX P w) 2 faw fdaw PManswer (spAw C c5)) (Gsaid : FnOk P w K mg base CX0 35 fsaid fdsaid PL_said (spSaid C P0 8)) (Gnv : FnOk P w K mg base CX0 3 fnv fdnv PL_no_view (spNv C)) :
    FnOk P w K mg base CX0 36 f fd PL (spLaw K P0 P1) := by
  refine A.F.ok scL (fun vs H Q E h => ?_) (fun cdv A' outer s H vs Q E hr h => ?_)
  · obtain ⟨_, _, rfl, _⟩ := h
    rfl
  obtain ⟨sc, ns, rfl, hP0, hP1, hsc, hbits, h63, q⟩ := h
  have hrS : Room 35 _ := hr
  have hrS3 : Room 3 _ := hr.mono (by omega)
  have hrG : Room 6 _ := hr.mono (by omega)
  have hrW : Room 2 _ := hr.mono (by omega)
  have hrI : Room 2 _ := hr.mono (by omega)
  have hr2 : Room 2 _ := hr.mono (by omega)
  have hr1 : Room 1 _ := hr.mono (by omega)
  have hz : (A'.deeper (envOfC "law" (defScope sL) s.heap.objs.size f cdv)).units + 1 < cLine := by have := hr.un; omega
  have Ginit : FnOk P w K mg base CX0 1 fI fdI PM__init__ (spInit C) := ok_init Ainit Z B
  have Gat : FnOk P w K mg base CX0 1 fat fdat PL_at (spAtB K NB) := ok_at Aat B2
  have Gwidths : FnOk P w K mg base CX0 2 fwid fdwid PL_widths (spWidths K NB) := ok_widths Awidths Aat B2
  have Grow : FnOk P w K mg base CX0 2 frow fdrow PL_row (spRow (NB + 4)) := ok_row Arow Avalue B2 (by unfold NB; omega)
  have Gput : FnOk P w K mg base CX0 1 fput fdput PL_put spLput := ok_lput Aput
  have Gho : FnOk P w K mg base CX0 2 fho fdho PL_heap_of spHo := ok_ho Aho Awhole B B2
  have Ganswer : FnOk P w K mg base CX0 2 fans fdans PL_answer (spAnswer K) := ok_answer Aanswer Aput B
  have Gsome : FnOk P w K mg base CX0 2 fsome fdsome PL_some spSome := ok_some Asome Awrong B2
  refine ⟨_, (pss_cons (ps_set (i := 1) scL.nd rfl (.inl rfl) (pe_call Gwidths hr2 (by rfl) Awidths.g Awidths.F.kp Awidths.b .nil pass0 (pa_cons (pv 0) pa_nil)))
  (pss_cons (ps_set (i := 2) scL.nd rfl (.inl rfl) (pe_make MK Ginit hrI rfl gK Ainit.b .nil pass0 (pa_cons (pv 1) pa_nil)))
  (pss_cons (ps_setLc (i := 4) (own := [("_law_width", 3)]) (g := gName 3) (tt := tYes) rfl scL.nd rfl rfl (sw_true rfl rfl rfl (by decide +kernel)) (pi_list (pv 1)) (blkOk_by (N := NL) (sc := defScope sL) (by decide +kernel)) (fun _ _ _ _ _ => pg_name (i := 3) scL.nd rfl (.inl rfl)) (fun _ _ _ _ _ => pts_nil) (fun _ _ _ _ _ => pe_dnewT))
  (pss_cons (ps_for PassesOwn.never rfl (pi_range1 rfl B.range (pa_cons (pe_op op_mod (pe_call Gat hr1 (by rfl) Aat.g Aat.F.kp Aat.b .nil pass0 (pa_cons (pv 0) (pa_cons pe_int pa_nil))) pe_int) pa_nil)) (pg_name (i := 5) scL.nd rfl (.inl rfl))
    (pss_cons (ps_set (i := 6) scL.nd rfl (.inl rfl) (pe_op op_modN (pe_call Gat hr1 (by rfl) Aat.g Aat.F.kp Aat.b .nil pass0 (pa_cons (pv 0) (pa_cons (pe_op op_add pe_int (pv 5)) pa_nil))) (pe_callB call_len_seq (by rfl) B.len (by decide +kernel) (pa_cons (pv 1) pa_nil))))
  (pss_cons (ps_set (i := 7) scL.nd rfl (.inl rfl) (pe_call Grow hr2 (by rfl) Arow.g Arow.F.kp Arow.b .nil pass0 (pa_cons (pe_op op_fdiv (pe_call Gat hr1 (by rfl) Aat.g Aat.F.kp Aat.b .nil pass0 (pa_cons (pv 0) (pa_cons (pe_op op_add pe_int (pv 5)) pa_nil))) pe_int) (pa_cons (pe_ix (r := rIxL K) ix_list (pv 1) (pv 6) (fun _ _ => rfl)) pa_nil))))
  (pss_cons (ps_expr (pe_call Gput hr1 (by rfl) Aput.g Aput.F.kp Aput.b .nil pass0 (pa_cons (pe_ix (r := rIxL K) ix_list (pv 4) (pv 6) (fun _ _ => rfl)) (pa_cons (pv 7) (pa_cons (pe_op op_add pe_int (pv 5)) pa_nil)))))
  (pss_one (ps_expr (pe_meth (pv 2) Z.cl Acg.m Gcg hrG Acg.b .nil pass0 (pa_cons (pv 6) (pa_cons (pe_lst (pa_cons (pe_tup (pa_cons (pv 7) (pa_cons (pe_op op_add pe_int (pv 5)) pa_nil))) pa_nil)) pa_nil)))))))))
  (pss_cons (ps_set (i := 8) scL.nd rfl (.inl rfl) (pe_lst pa_nil))
  (pss_cons (ps_set (i := 9) scL.nd rfl (.inl rfl) (pe_slice sl_list (pv 0) (po_some pe_int) po_none))
  (pss_cons (ps_if (pt_cmpR op_eq (pe_op op_mod (pe_op op_fdiv (pe_call Gat hr1 (by rfl) Aat.g Aat.F.kp Aat.b .nil pass0 (pa_cons (pv 0) (pa_cons pe_int pa_nil))) pe_int) pe_int) pe_int (nomark _)) (pss_one (ps_set (i := 9) scL.nd rfl (.inl rfl) (pe_op op_cat (pe_lc (own := [("_law_k", 5)]) (g := gName 5) (tt := tYes) rfl scL.nd (pi_range1 rfl B.range (pa_cons pe_int pa_nil)) (blkOk_by (N := NL) (sc := defScope sL) (by decide +kernel)) (fun _ _ _ _ _ => pg_name (i := 5) scL.nd rfl (.inl rfl)) (fun _ _ _ _ _ => pts_nil) (fun _ _ _ _ _ => (pe_op op_add (pe_op op_mul pe_int (pv 5)) (pe_op op_mod (pv 5) pe_int)))) (pv 9)))) pss_nil)
  (pss_cons (ps_for PassesOwn.never rfl (pi_list (pv 9)) (pg_name (i := 10) scL.nd rfl (.inl rfl))
    (pss_cons (ps_set (i := 11) scL.nd rfl (.inl rfl) (pe_call Gsome hr2 (by rfl) Asome.g Asome.F.kp Asome.b .nil pass0 (pa_cons (pv 10) (pa_cons (pv 1) pa_nil))))
  (pss_cons (ps_set (i := 12) scL.nd rfl (.inl rfl) (pe_ifExp (pt_cmpR op_eq (pe_op op_mod (pv 10) pe_int) pe_int (nomark _)) pe_str (pe_ifExp (pt_cmpR op_lt (pe_callB call_len_seq (by rfl) B.len (by decide +kernel) (pa_cons (pv 8) pa_nil)) pe_int (nomark _)) (pe_callB call_len_seq (by rfl) B.len (by decide +kernel) (pa_cons (pv 8) pa_nil)) pe_str)))
  (pss_cons (ps_set (i := 13) scL.nd rfl (.inl rfl) (pe_call Gsaid hrS (by rfl) Asaid.g Asaid.F.kp Asaid.b .nil pass0 (pa_cons (pv 2) (pa_cons (pv 11) pa_nil))))
  (pss_cons (ps_if (PW.pt (pw_or (pt_val (pe_callB call_isi (by rfl) B.isinstance (by decide +kernel) (pa_cons (pv 13) (pa_cons (pe_bltn (v := .ty "bool") (u := .type "bool") (by rfl) B.bool (by decide +kernel) rfl) pa_nil)))) (pw_or1 (pt_cmpR op_ne (pv 13) (pv 12) (nomark _))))) (pss_one (ps_ret pe_bl)) pss_nil)
  (pss_one (ps_if (pt_cmpR op_eq (pv 12) (pe_callB call_len_seq (by rfl) B.len (by decide +kernel) (pa_cons (pv 8) pa_nil)) (nomark _)) (pss_one (ps_expr (pe_bm PySem.F.plainAttrs_list PySem.F.slot_list_append PySem.F.type_list_append mt_append (pv 8) (pa_cons (pv 11) pa_nil)))) pss_nil)))))))
  (pss_cons (ps_for PassesOwn.never rfl (pi_range1 rfl B.range (pa_cons (pe_op op_mod (pe_call Gat hr1 (by rfl) Aat.g Aat.F.kp Aat.b .nil pass0 (pa_cons (pv 0) (pa_cons pe_int pa_nil))) pe_int) pa_nil)) (pg_name (i := 5) scL.nd rfl (.inl rfl))
    (pss_cons (ps_set (i := 6) scL.nd rfl (.inl rfl) (pe_op op_modN (pe_op op_add (pe_op op_fdiv (pe_call Gat hr1 (by rfl) Aat.g Aat.F.kp Aat.b .nil pass0 (pa_cons (pv 0) (pa_cons pe_int pa_nil))) pe_int) (pv 5)) (pe_callB call_len_seq (by rfl) B.len (by decide +kernel) (pa_cons (pv 1) pa_nil))))
  (pss_cons (ps_set (i := 7) scL.nd rfl (.inl rfl) (pe_call Grow hr2 (by rfl) Arow.g Arow.F.kp Arow.b .nil pass0 (pa_cons (pe_op op_add (pe_op op_fdiv (pe_call Gat hr1 (by rfl) Aat.g Aat.F.kp Aat.b .nil pass0 (pa_cons (pv 0) (pa_cons pe_int pa_nil))) pe_int) (pe_op op_mul pe_int (pv 5))) (pa_cons (pe_ix (r := rIxL K) ix_list (pv 1) (pv 6) (fun _ _ => rfl)) pa_nil))))
  (pss_cons (ps_expr (pe_call Gput hr1 (by rfl) Aput.g Aput.F.kp Aput.b .nil pass0 (pa_cons (pe_ix (r := rIxL K) ix_list (pv 4) (pv 6) (fun _ _ => rfl)) (pa_cons (pv 7) (pa_cons pe_int pa_nil)))))
  (pss_one (ps_if (pt_cmpR op_ne (pe_callB call_len_seq (by rfl) B.len (by decide +kernel) (pa_cons (pe_meth (pv 2) Z.cl Acg.m Gcg hrG Acg.b .nil pass0 (pa_cons (pv 6) (pa_cons (pe_lst (pa_cons (pe_tup (pa_cons (pv 7) (pa_cons pe_int pa_nil))) pa_nil)) pa_nil))) pa_nil)) (pe_callB call_len_seq (by rfl) B.len (by decide +kernel) (pa_cons (pv 8) pa_nil)) (nomark _)) (pss_one (ps_ret pe_bl)) pss_nil))))))
  (pss_cons (ps_for PassesOwn.never rfl (pi_range1 rfl B.range (pa_cons (pe_callB call_len_seq (by rfl) B.len (by decide +kernel) (pa_cons (pv 8) pa_nil)) pa_nil)) (pg_name (i := 5) scL.nd rfl (.inl rfl))
    (pss_cons (ps_if (pt_cmpR (KZ.op_neRows hz) (pe_call Gho hr2 (by rfl) Aho.g Aho.F.kp Aho.b .nil pass0 (pa_cons (KB.pe_methE (E := fun _ _ _ _ => False) (pv 2) Z.cl Aaw.m Gaw hrW Aaw.b passNo (pa_cons (pv 5) pa_nil)) pa_nil)) (pe_call Ganswer hr2 (by rfl) Aanswer.g Aanswer.F.kp Aanswer.b .nil pass0 (pa_cons (pe_ix (r := rIxL K) ix_list (pv 8) (pv 5) (fun _ _ => rfl)) (pa_cons (pv 4) pa_nil))) (nomark _)) (pss_one (ps_ret pe_bl)) pss_nil)
  (pss_one (ps_expr (pe_bm PySem.F.plainAttrs_list PySem.F.slot_list_append PySem.F.type_list_append mt_append (KB.pe_methE (E := fun _ _ _ _ => False) (pv 2) Z.cl Aaw.m Gaw hrW Aaw.b passNo (pa_cons (pv 5) pa_nil)) (pa_cons pe_int pa_nil))))))
  (pss_cons (ps_if (PW.pt (pw_and (pt_cmpR op_gt (pe_callB call_len_seq (by rfl) B.len (by decide +kernel) (pa_cons (pv 8) pa_nil)) pe_int (nomark _)) (pw_and1 (pt_cmpR (KZ.op_neRows hz) (pe_call Gho hr2 (by rfl) Aho.g Aho.F.kp Aho.b .nil pass0 (pa_cons (KB.pe_methE (E := fun _ _ _ _ => False) (pv 2) Z.cl Aaw.m Gaw hrW Aaw.b passNo (pa_cons pe_int pa_nil)) pa_nil)) (pe_call Ganswer hr2 (by rfl) Aanswer.g Aanswer.F.kp Aanswer.b .nil pass0 (pa_cons (pe_ix (r := rIxL K) ix_list (pv 8) pe_int (fun _ _ => rfl)) (pa_cons (pv 4) pa_nil))) (nomark _))))) (pss_one (ps_ret pe_bl)) pss_nil)
  (pss_cons (ps_set (i := 14) scL.nd rfl (.inl rfl) (pe_op op_mod (pe_call Gat hr1 (by rfl) Aat.g Aat.F.kp Aat.b .nil pass0 (pa_cons (pv 0) (pa_cons pe_int pa_nil))) pe_int))
  (pss_one (ps_ret (pe_and (pe_call Gnv hrS3 (by rfl) Anv.g Anv.F.kp Anv.b .nil pass0 (pa_cons (pv 2) (pa_cons (pe_op op_add (pe_callB call_len_seq (by rfl) B.len (by decide +kernel) (pa_cons (pv 8) pa_nil)) (pv 14)) pa_nil))) (pe_one (pe_call Gnv hrS3 (by rfl) Anv.g Anv.F.kp Anv.b .nil pass0 (pa_cons (pv 2) (pa_cons (pe_op op_sub (pe_un un_neg pe_int) (pv 14)) pa_nil))))))))))))))))))), ?_⟩
  refine ⟨_, rfl, sc, ns, rfl, hsc, hbits, fun v H1 e1 ⟨wl0, ws, ev, hwl0, l1, l10, w6⟩ => ?_⟩
  subst ev
  refine ⟨_, rfl, fun x dx nx ndx ne => ?_⟩
  refine ⟨x, wl0, dx, ws, rfl, upd_same, (by rw [upd_ne (ne_of_none hwl0 nx), upd_ne (ne_of_none hwl0 ndx)]; exact hwl0), by omega, fun H2 wl hl vl al has off ka fr n1 n2 n3 => ⟨rfl, ?_⟩⟩
  have e2 : Ex H1 H2 := fun a o z => off a o (ne_of_none z nx) (by rw [upd_ne (ne_of_none z nx), upd_ne (ne_of_none z ndx)]; exact z)
  dsimp only
  refine w_as (KH.ev_empties (σ := [some (.ref sc), some (.ref wl0), some (.ref x), none, none, none, none, none, none, none, none, none, none, none, none]) (jh := 1) (j := 3) (vs := [3]) rfl (sq_of (e2 _ _ hwl0)) (by rw [List.length_map]; omega) (by intro _; rfl) _ fun tl lds H3 ntl e3 htl ll nd hl3 => ?_)
  have hLI : LI K C P0 P1 [hl, vl, al] 0 ⟨sc, wl0, x, wl, hl, vl, al, tl, ns, ws, has, lds, [], List.replicate ws.length [], [], []⟩ H3 := li_start hP0 hP1 hsc hbits h63 e1 hwl0 l1 l10 w6 nx ndx off ka fr n1 n2 n3 ntl e3 htl (by rw [ll, List.length_map]) nd hl3
  refine ⟨_, rfl, rfl, ⟨sc, ns, 4, rfl, hLI.scr.sl, hbits, by omega⟩, fun v H4 e4 ⟨n4, ev, hb4⟩ => ?_⟩
  subst ev
  (repeat (first | (refine ⟨_, rfl, ?_⟩) | (refine ⟨_, _, rfl, rfl, ?_⟩) | (refine ⟨⟨by decide, by decide⟩, ?_⟩) | (refine ⟨(by show (0 : Int) < _; decide), ?_⟩) | (refine ⟨rfl, ?_⟩) | (refine ⟨(by show _ ≠ (0 : Int); omega), ?_⟩) | (refine ⟨.inl ⟨by decide, by decide⟩, ?_⟩) | (refine ⟨(by assumption : CDivN _ _), ?_⟩)))
  refine ⟨by omega, by omega, ?_⟩
  refine for_range (n := (n4 % 9).toNat) (fun i σ G => ∃ (r : Rec) (o5 o6 o7 : Option V), σ = SL r o5 o6 o7 none none none none none none none ∧ LI K C P0 P1 [hl, vl, al] i r G ∧ r.vxs = [] ∧ r.vs = []) ⟨_, none, none, none, rfl, hLI.xt (XT.of_ex e4), rfl, rfl⟩ ?_ ?_
  · rintro i σ G hi ⟨r, o5, o6, o7, rfl, L, hx, hvs⟩
    rw [Int.zero_add]
    refine ⟨_, rfl, _, rfl, _, _, rfl, rfl, rfl, ⟨r.sc, r.ns, 5 + (i : Int), rfl, L.scr.sl, L.bits, by omega⟩, fun v H1 e1 ⟨c1, ev, hb1⟩ => ?_⟩
    subst ev
    have L1 := L.xt (XT.of_ex e1)
    have lz := L1.l1
    refine ⟨_, rfl, r.wl0, _, rfl, .inl (sq_of L1.w0), c1, _, rfl, rfl, (by rw [List.length_map]; show ((r.ws.length : Nat) : Int) ≠ 0; omega), ?_⟩
    rw [List.length_map]
    have t0 : 0 ≤ c1.fmod r.ws.length := Int.fmod_nonneg_of_pos _ (by omega)
    have t1 : c1.fmod r.ws.length < r.ws.length := Int.fmod_lt_of_pos _ (by omega)
    dsimp only
    generalize c1.fmod r.ws.length = t at *
    refine ⟨_, rfl, _, rfl, _, _, rfl, rfl, rfl, ⟨r.sc, r.ns, 5 + (i : Int), rfl, L1.scr.sl, L1.bits, by omega⟩, fun v H2 e2 ⟨c2, ev, hb2⟩ => ?_⟩
    subst ev
    have L2 := L1.xt (XT.of_ex e2)
    obtain ⟨m1, m6⟩ := L2.w6 _ (ws_mem t0 t1)
    refine ⟨c2, 3, rfl, rfl, ⟨by decide, by decide⟩, _, rfl, _, rfl, r.wl0, r.ws.map V.int, t, _, rfl, rfl, sq_of L2.w0, ws_at t0 t1, c2 / 3, r.ws.getD t.toNat 0, rfl, bits3 hb2, by omega, by omega, fun v H3 e3 ⟨qa, row, ev, hq, hrl⟩ => ?_⟩
    subst ev
    have L3 := L2.xt (XT.of_ex e3)
    have t2 : t < r.Ls.length := by rw [← L3.lw]; exact t1
    obtain ⟨d, had, hd, hdH⟩ := heaps_at L3.tb t0 t2
    obtain ⟨cl, len, wd⟩ := L3.T t t0 t2
    have pos := plus_pos (n := row) (c := 1 + (i : Int)) cl (by omega)
    have wid : (row.length : Int) = r.W t := by show (row.length : Int) = r.ws.getD t.toNat 0; omega
    refine ⟨_, rfl, _, rfl, r.tl, r.lds.map V.ref, t, _, rfl, rfl, sq_of L3.tb.1, had, _, rfl, _, rfl, _, _, rfl, rfl, d, qa, tabL r.Ls t, row, 1 + (i : Int), rfl, hdH, hq, (by omega), (by omega), fun H4 off hd4 => ?_⟩
    have k4 := L3.kat (List.mem_of_getElem? hd) hdH off
    obtain ⟨dx4, hi4⟩ := k4.ins
    have hq4 : H4 qa = some (.tup (row.map V.int)) := off _ _ (fun y => by unfold HeapAt at hdH; rw [y, hdH] at hq; cases hq) hq
    refine ⟨_, rfl, r.k, dx4, _, rfl, hi4, rfl, _, rfl, _, rfl, _, rfl, _, _, rfl, rfl, (by show 2 ≤ sizeLine; decide), fun pq npq => ?_⟩
    have e5 := Ex.new (o := .tup [.ref qa, .int (1 + (i : Int))]) npq
    refine ⟨(by show 1 ≤ sizeLine; decide), fun pl npl => ?_⟩
    have e6 := Ex.new (o := .lst [.ref pq]) npl
    have e46 := XT.of_ex (e5.trans e6)
    refine ⟨r.k, r.wl, r.hl, r.vl, r.al, r.ws, r.has, r.Ls, r.vxs, r.vs, r.aas, r.As, t, pl, qa, pq, row, 1 + (i : Int), rfl, k4.keep e46, t0, t2, L3.lw, L3.T, e46.tab _ (off_tab hdH off L3.tg1), upd_same, e6 _ _ upd_same, e46.tup hq4, wid, by omega, Nat.le_trans newL_len (by have := L3.sz t t0 t2; omega), L3.g, Nat.le_trans L3.v20 (by omega), fun L hL => ?_, fun H7 l ys has' aas' e7 hl7 ly ih ia k7 => ?_⟩
    · obtain ⟨v, hv, e⟩ := List.mem_map.mp hL
      rw [← e]
      exact ans_ok L3.T v (L3.g v hv)
    · have L7 := L3.step t0 t2 hd off hd4 e46 e7 ih ia k7 wid (by omega) (by omega)
      exact ⟨r.chg t row (1 + (i : Int)) has' aas', _, _, _, rfl, L7, hx, hvs⟩
  · rintro σ G ⟨r, o5, o6, o7, rfl, L, hx, hvs⟩
    have L := L.up (m := 8) (by omega)
    refine ⟨(by show 0 ≤ sizeLine; decide), fun lv nlv => ?_⟩
    have e1 := Ex.new (o := .lst []) nlv
    have L1 := (L.add nlv).xt (XT.of_ex e1)
    have V1 := LVs.new nlv L hx
    refine ⟨_, rfl, 15, rfl, r.sc, r.ns.map V.int, rfl, L1.scr.sl, fun lc nlc => ?_⟩
    obtain ⟨cs, hcs, lcs⟩ := cut_ints r.ns (some 15) none
    rw [hcs]
    have e2 := Ex.new (o := .lst (cs.map V.int)) nlc
    have c2 : (upd (upd G lv (.lst [])) lc (.lst (cs.map V.int))) lc = some (.lst (cs.map V.int)) := upd_same
    generalize upd (upd G lv (.lst [])) lc (.lst (cs.map V.int)) = G2 at *
    generalize upd G lv (.lst []) = G1 at *
    have n63 := L1.n63
    dsimp only
    refine w_join (fun σ' G' => ∃ (o5' : Option V) (lc : Addr) (cs : List Int), σ' = SL r o5' o6 o7 (some (.ref lv)) (some (.ref lc)) none none none none none ∧ Ex G1 G' ∧ G' lc = some (.lst (cs.map V.int)) ∧ G1 lc = none) (fun N hN => ?_) ?_
    · have L2 := L1.xt (XT.of_ex e2)
      refine ⟨_, rfl, rfl, ⟨r.sc, r.ns, 0, rfl, L2.scr.sl, L2.bits, by omega⟩, fun v G3 e3 ⟨c0, ev, hb⟩ => ?_⟩
      subst ev
      (repeat (first | (refine ⟨_, rfl, ?_⟩) | (refine ⟨_, _, rfl, rfl, ?_⟩) | (refine ⟨⟨by decide, by decide⟩, ?_⟩) | (refine ⟨(by show (0 : Int) < _; decide), ?_⟩) | (refine ⟨rfl, ?_⟩) | (refine ⟨(by show _ ≠ (0 : Int); omega), ?_⟩) | (refine ⟨.inl ⟨by decide, by decide⟩, ?_⟩) | (refine ⟨(by assumption : CDivN _ _), ?_⟩)))
      refine ite2 (fun hd => ?_) (fun hd => ?_)
      · exact w_asg1 (est_catI (n := 20) (i := 9) (est_lcR (n := 20) (Z := IsInt) (j := 5) (vs := [5]) (ea_cons ev_c ea_nil) (by omega) (by intro _; rfl) (fun i H1 e hi => (fun H1 e1 Q1 q1 => by (repeat (first | (refine ⟨_, rfl, ?_⟩) | (refine ⟨_, _, rfl, rfl, ?_⟩) | (refine ⟨⟨by decide, by decide⟩, ?_⟩) | (refine ⟨(by show (0 : Int) < _; decide), ?_⟩) | (refine ⟨rfl, ?_⟩) | (refine ⟨(by show _ ≠ (0 : Int); omega), ?_⟩) | (refine ⟨.inl ⟨by decide, by decide⟩, ?_⟩) | (refine ⟨(by assumption : CDivN _ _), ?_⟩))); exact q1 _ _ (Ex.refl _) ⟨_, rfl⟩)) IsInt.pers StL.int) rfl (e3 _ _ c2) (by omega) (by omega)) fun v G4 e4 ⟨p, ds, ev, hp, np⟩ => by
          subst ev
          exact hN _ _ ⟨o5, p, ds, rfl, (e2.trans e3).trans e4, hp, fresh_back (e2.trans e3) np⟩
      · exact hN _ _ ⟨o5, lc, cs, rfl, e2.trans e3, e3 _ _ c2, nlc⟩
    · rintro σ' G' ⟨o5', lc, cs, rfl, eG, hlc, nlc⟩
      have Lq := L1.xt (XT.of_ex eG)
      have V2 := V1.xt (XT.of_ex eG)
      have nc : lc ∉ [r.vl, r.al, lv] := fun z => by
        simp only [List.mem_cons, List.not_mem_nil, or_false] at z
        rcases z with z | z | z
        · rw [z, L1.ka.v] at nlc; cases nlc
        · rw [z, L1.ka.a.1] at nlc; cases nlc
        · rw [z, V1.at_] at nlc; cases nlc
      refine ⟨_, rfl, lc, rfl, ⟨_, sq_of hlc⟩, for_list (xs := cs.map V.int) (fun i σ G => ∃ (r : Rec) (o5 o6 o7 o10 o11 o12 o13 : Option V), σ = SL r o5 o6 o7 (some (.ref lv)) (some (.ref lc)) o10 o11 o12 o13 none ∧ LI K C P0 P1 [lv, hl, vl, al] 8 r G ∧ LVs lv r G ∧ G lc = some (.lst (cs.map V.int)) ∧ lc ∉ [r.vl, r.al, lv]) ⟨r, o5', o6, o7, none, none, none, none, rfl, Lq, V2, hlc, nc⟩ (fun i σ G _ ⟨_, _, _, _, _, _, _, _, _, _, _, h, _⟩ => sq_of h) ?_ ?_⟩
      · rintro i y σ G hy ⟨r, o5, o6, o7, o10, o11, o12, o13, rfl, L, U, hlc, nc⟩
        obtain ⟨cell, hcell, rfl⟩ : ∃ cell, cs[i]? = some cell ∧ y = .int cell := by
          rw [List.getElem?_map] at hy
          cases e : cs[i]? with
          | none => rw [e] at hy; cases hy
          | some c => rw [e] at hy; exact ⟨c, rfl, (Option.some.inj hy).symm⟩
        refine ⟨_, rfl, _, rfl, cell, r.wl0, r.ws, rfl, L.w0, L.l1, L.l10, L.w6, fun x v G2 e2 ok hv hbad hgood => ?_⟩
        have L3 := L.xt (XT.of_ex e2)
        have U3 := U.xt (XT.of_ex e2)
        have lvx : r.vxs.length = r.vs.length := Paired.length L3.ka.vw
        have lenE : ∀ {σ' : L2.St} {H' : Hp}, Ex G2 H' → σ'[8]? = some (some (.ref lv)) → ∀ (Q : VK), (∀ H2, Ex H' H2 → Q (.int r.vs.length) H2) → tCB (fun xs H Q => ∃ p ys, xs = [.ref p] ∧ (SqL K H p ys ∨ SqT K H p ys) ∧ Q (.int ys.length) H) (tCons (tVar 8) tNil) σ' H' Q := fun e h1 Q q => ⟨_, h1, lv, r.vxs, rfl, .inl (sq_of (e _ _ U3.at_)), by rw [lvx]; exact q _ (Ex.refl _)⟩
        dsimp only
        refine w_asg (est_due (cell := cell) (n := r.vs.length) (fun H1 e1 Q1 q1 => ?_) (fun H1 e1 Q1 q1 => ?_) (fun H1 e1 Q1 q1 => lenE (σ' := SL r o5 o6 o7 (some (.ref lv)) (some (.ref lc)) (some (.int cell)) (some x) o12 o13 none) e1 rfl _ fun H2 e2 => q1 H2 e2)) fun v12 G3 e3 hdue => ?_
        · (repeat (first | (refine ⟨_, rfl, ?_⟩) | (refine ⟨_, _, rfl, rfl, ?_⟩) | (refine ⟨⟨by decide, by decide⟩, ?_⟩) | (refine ⟨(by show (0 : Int) < _; decide), ?_⟩) | (refine ⟨rfl, ?_⟩) | (refine ⟨(by show _ ≠ (0 : Int); omega), ?_⟩) | (refine ⟨.inl ⟨by decide, by decide⟩, ?_⟩) | (refine ⟨(by assumption : CDivN _ _), ?_⟩)))
          rw [show decide ((fun i j => V.int (i % j)) cell 4 = V.int 3) = decide (cell % 4 = 3) from decide_eq_decide.mpr ⟨V.int.inj, congrArg V.int⟩]
          exact q1 _ (Ex.refl _)
        · show tOp _ _ _ _ _ _
          refine t_op (lenE (σ' := SL r o5 o6 o7 (some (.ref lv)) (some (.ref lc)) (some (.int cell)) (some x) o12 o13 none) e1 rfl _ fun H2 e2 => ?_)
          (repeat (first | (refine ⟨_, rfl, ?_⟩) | (refine ⟨_, _, rfl, rfl, ?_⟩) | (refine ⟨⟨by decide, by decide⟩, ?_⟩) | (refine ⟨(by show (0 : Int) < _; decide), ?_⟩) | (refine ⟨rfl, ?_⟩) | (refine ⟨(by show _ ≠ (0 : Int); omega), ?_⟩) | (refine ⟨.inl ⟨by decide, by decide⟩, ?_⟩) | (refine ⟨(by assumption : CDivN _ _), ?_⟩)))
          rw [show decide ((r.vs.length : Int) < 20) = decide (r.vs.length < 20) from decide_eq_decide.mpr (by omega)]
          exact q1 _ e2
        have L4 := L3.xt (XT.of_ex e3)
        have U4 := U3.xt (XT.of_ex e3)
        have hlc4 := e3 _ _ (e2 _ _ hlc)
        refine ⟨_, rfl, _, rfl, r.k, r.wl, r.hl, r.vl, r.al, r.ws, r.has, r.Ls, r.vxs, r.vs, r.aas, r.As, x, v, rfl, L4.ka, ok, VAt.pers _ _ _ _ e3 hv, L4.w6, L4.tg0, L4.T, Nat.le_trans L4.v20 (by omega), fun hn G5 e5 => ?_, fun m hm h20 G5 e5 => ?_, fun m hm h20 => ?_⟩
        · have h3 : cell % 4 = 3 := Decidable.byContradiction fun z => by
            obtain ⟨_, m, hm⟩ := hgood z
            rw [hn] at hm
            cases hm
          have ed := hdue.1 h3
          subst ed
          refine ⟨_, rfl, .str "view", .ty "bool", .type "str", .type "bool", false, rfl, (.ty "bool"), .base (.str _), kit_ty (by decide +kernel), false, rfl, ?_⟩
          (repeat (first | (refine ⟨_, _, _, _, rfl, rfl, st_of hp, rfl, ?_⟩) | (refine ⟨_, rfl, ?_⟩) | (refine ⟨_, _, rfl, rfl, ?_⟩) | (refine ⟨⟨by decide, by decide⟩, ?_⟩) | (refine ⟨(by show (0 : Int) < _; decide), ?_⟩) | (refine ⟨rfl, ?_⟩) | (refine ⟨(by show _ ≠ (0 : Int); omega), ?_⟩) | (refine ⟨.inl ⟨by decide, by decide⟩, ?_⟩) | (refine ⟨(by assumption : CDivN _ _), ?_⟩) | (refine ite_y (by decide) ?_) | (refine ite_n (by decide) ?_) | (refine ite_y rfl ?_) | (refine ite_n Bool.false_ne_true ?_)))
          have L5 := L4.xt e5
          have U5 := U4.xt e5
          refine ⟨lv, r.vxs, rfl, .inl (sq_of U5.at_), ?_⟩
          refine ⟨rfl, ?_⟩
          refine ⟨_, rfl, ?_⟩
          refine ite_n (fun z => V.noConfusion (of_decide_eq_true z)) ?_
          exact ⟨r, o5, o6, o7, _, _, _, _, rfl, L5, U5, e5.lst hlc4, nc⟩
        · have h3 : ¬ cell % 4 = 3 := fun z => by
            rw [hbad z] at hm
            cases hm
          have ed := hdue.2.2 h3 (by omega)
          subst ed
          refine ⟨_, rfl, .str "full", .ty "bool", .type "str", .type "bool", false, rfl, (.ty "bool"), .base (.str _), kit_ty (by decide +kernel), false, rfl, ?_⟩
          (repeat (first | (refine ⟨_, _, _, _, rfl, rfl, st_of hp, rfl, ?_⟩) | (refine ⟨_, rfl, ?_⟩) | (refine ⟨_, _, rfl, rfl, ?_⟩) | (refine ⟨⟨by decide, by decide⟩, ?_⟩) | (refine ⟨(by show (0 : Int) < _; decide), ?_⟩) | (refine ⟨rfl, ?_⟩) | (refine ⟨(by show _ ≠ (0 : Int); omega), ?_⟩) | (refine ⟨.inl ⟨by decide, by decide⟩, ?_⟩) | (refine ⟨(by assumption : CDivN _ _), ?_⟩) | (refine ite_y (by decide) ?_) | (refine ite_n (by decide) ?_) | (refine ite_y rfl ?_) | (refine ite_n Bool.false_ne_true ?_)))
          have L5 := L4.xt e5
          have U5 := U4.xt e5
          refine ⟨lv, r.vxs, rfl, .inl (sq_of U5.at_), ?_⟩
          refine ⟨rfl, ?_⟩
          refine ⟨_, rfl, ?_⟩
          refine ite_n (fun z => V.noConfusion (of_decide_eq_true z)) ?_
          exact ⟨r, o5, o6, o7, _, _, _, _, rfl, L5, U5, e5.lst hlc4, nc⟩
        · have h3 : ¬ cell % 4 = 3 := fun z => by
            rw [hbad z] at hm
            cases hm
          have ed := hdue.2.1 h3 h20
          subst ed
          have gv : GoodV r.Ls.length r.W v := by
            have := (hgood h3).1
            rw [L4.lw] at this
            exact this
          refine ⟨gv, fun G5 d e5 nd5 k5 => ?_⟩
          refine ⟨_, rfl, .int r.vs.length, .ty "bool", .type "int", .type "bool", false, rfl, (.ty "bool"), .base (.int _), kit_ty (by decide +kernel), false, rfl, ?_⟩
          (repeat (first | (refine ⟨_, _, _, _, rfl, rfl, st_of hp, rfl, ?_⟩) | (refine ⟨_, rfl, ?_⟩) | (refine ⟨_, _, rfl, rfl, ?_⟩) | (refine ⟨⟨by decide, by decide⟩, ?_⟩) | (refine ⟨(by show (0 : Int) < _; decide), ?_⟩) | (refine ⟨rfl, ?_⟩) | (refine ⟨(by show _ ≠ (0 : Int); omega), ?_⟩) | (refine ⟨.inl ⟨by decide, by decide⟩, ?_⟩) | (refine ⟨(by assumption : CDivN _ _), ?_⟩) | (refine ite_y (by decide) ?_) | (refine ite_n (by decide) ?_) | (refine ite_y rfl ?_) | (refine ite_n Bool.false_ne_true ?_)))
          refine ite_n (by rw [decide_eq_true rfl]; exact Bool.false_ne_true) ?_
          have out5 : lv ∉ [r.vl, r.al] := fun z => U4.out (List.mem_cons_of_mem _ (List.mem_cons_of_mem _ z))
          have at5 : G5 lv = some (.lst r.vxs) := e5.at_ _ _ (fun _ z => nomatch z) out5 U4.at_
          have L5 := L4.put e5 nd5 k5 gv h20
          (repeat (first | (refine ⟨_, _, _, _, rfl, rfl, st_of hp, rfl, ?_⟩) | (refine ⟨_, rfl, ?_⟩) | (refine ⟨_, _, rfl, rfl, ?_⟩) | (refine ⟨⟨by decide, by decide⟩, ?_⟩) | (refine ⟨(by show (0 : Int) < _; decide), ?_⟩) | (refine ⟨rfl, ?_⟩) | (refine ⟨(by show _ ≠ (0 : Int); omega), ?_⟩) | (refine ⟨.inl ⟨by decide, by decide⟩, ?_⟩) | (refine ⟨(by assumption : CDivN _ _), ?_⟩) | (refine ite_y (by decide) ?_) | (refine ite_n (by decide) ?_) | (refine ite_y rfl ?_) | (refine ite_n Bool.false_ne_true ?_)))
          refine ⟨lv, r.vxs, rfl, .inl (sq_of at5), ?_⟩
          rw [lvx]
          refine ⟨rfl, _, rfl, ?_⟩
          refine ite_y (decide_eq_true rfl) ?_
          refine ⟨_, rfl, .inl ⟨rfl, _, sq_of at5⟩, _, rfl, lv, r.vxs, x, rfl, rfl, at5, sz_lt (by omega), ?_⟩
          have m6 : XM [lv] G5 (upd G5 lv (.lst (r.vxs ++ [x]))) := XM.upd at5 List.mem_cons_self
          have hlc5 : G5 lc = some (.lst (cs.map V.int)) := e5.at_ _ _ (fun _ z => nomatch z) (fun z => nc (by
            simp only [List.mem_cons, List.not_mem_nil, or_false] at z ⊢
            rcases z with z | z
            · exact .inl z
            · exact .inr (.inl z))) hlc4
          refine ⟨r.add x v d, o5, o6, o7, _, _, _, _, rfl, L5.mut m6 at5 List.mem_cons_self U4.out, ⟨upd_same, U4.out⟩, ?_, nc⟩
          rw [upd_ne (fun z => nc (by rw [z]; simp))]
          exact hlc5
      · rintro σ G ⟨r, o5, o6, o7, o10, o11, o12, o13, rfl, L, U, hlc, nc⟩
        clear nc hlc
        refine ⟨_, rfl, rfl, ⟨r.sc, r.ns, 14, rfl, L.scr.sl, L.bits, by omega⟩, fun vv G1 e1 ⟨n14, ev, hb14⟩ => ?_⟩
        subst ev
        clear hb14
        have L1 := L.xt (XT.of_ex e1)
        have U1 := U.xt (XT.of_ex e1)
        (repeat (first | (refine ⟨_, rfl, ?_⟩) | (refine ⟨_, _, rfl, rfl, ?_⟩) | (refine ⟨⟨by decide, by decide⟩, ?_⟩) | (refine ⟨(by show (0 : Int) < _; decide), ?_⟩) | (refine ⟨rfl, ?_⟩) | (refine ⟨(by show _ ≠ (0 : Int); omega), ?_⟩) | (refine ⟨.inl ⟨by decide, by decide⟩, ?_⟩) | (refine ⟨(by assumption : CDivN _ _), ?_⟩)))
        refine ⟨by omega, by omega, ?_⟩
        refine for_range (n := (n14 % 3).toNat) (fun i σ G => ∃ (r : Rec) (o5 o6 o7 o9 o10 o11 o12 o13 : Option V), σ = SL r o5 o6 o7 (some (.ref lv)) o9 o10 o11 o12 o13 none ∧ LI K C P0 P1 [lv, hl, vl, al] (8 + i) r G ∧ LVs lv r G) ⟨r, o5, o6, o7, _, o10, o11, o12, o13, rfl, L1, U1⟩ ?_ ?_
        · clear L1 U1 L U
          rintro i σ G hi ⟨r, o5, o6, o7, o9, o10, o11, o12, o13, rfl, L, U⟩
          rw [Int.zero_add]
          refine ⟨_, rfl, rfl, ⟨r.sc, r.ns, 14, rfl, L.scr.sl, L.bits, by omega⟩, fun vv H1 e1 ⟨c1, ev, hb1⟩ => ?_⟩
          subst ev
          have L1 := L.xt (XT.of_ex e1)
          have lz := L1.l1
          refine ⟨c1, 3, rfl, rfl, ⟨by decide, by decide⟩, _, rfl, _, _, rfl, rfl, _, rfl, r.wl0, _, rfl, .inl (sq_of L1.w0), _, _, rfl, rfl, (by rw [List.length_map]; show ((r.ws.length : Nat) : Int) ≠ 0; omega), ?_⟩
          rw [List.length_map]
          have t0 : 0 ≤ (c1 / 3 + (i : Int)).fmod r.ws.length := Int.fmod_nonneg_of_pos _ (by omega)
          have t1 : (c1 / 3 + (i : Int)).fmod r.ws.length < r.ws.length := Int.fmod_lt_of_pos _ (by omega)
          dsimp only
          generalize (c1 / 3 + (i : Int)).fmod r.ws.length = t at *
          refine ⟨_, rfl, rfl, ⟨r.sc, r.ns, 14, rfl, L1.scr.sl, L1.bits, by omega⟩, fun vv H2 e2 ⟨c2, ev, hb2⟩ => ?_⟩
          subst ev
          have L2 := L1.xt (XT.of_ex e2)
          obtain ⟨m1, m6⟩ := L2.w6 _ (ws_mem t0 t1)
          have wmem := ws_at (ws := r.ws) t0 t1
          refine ⟨c2, 9, rfl, rfl, ⟨by decide, by decide⟩, _, rfl, 5, (i : Int), rfl, rfl, .inl ⟨by decide, by decide⟩, _, _, rfl, rfl, _, rfl, _, rfl, r.wl0, r.ws.map V.int, t, _, rfl, rfl, sq_of L2.w0, wmem, c2 / 9 + 5 * (i : Int), r.ws.getD t.toNat 0, rfl, bits9 hb2 (by omega) (by omega), by omega, by omega, fun vv H3 e3 ⟨qa, row, ev, hq, hrl⟩ => ?_⟩
          subst ev
          clear hb1 hb2
          have L3 := L2.xt (XT.of_ex e3)
          have U3 := U.xt (XT.of_ex ((e1.trans e2).trans e3))
          have t2 : t < r.Ls.length := by rw [← L3.lw]; exact t1
          obtain ⟨d, had, hd, hdH⟩ := heaps_at L3.tb t0 t2
          obtain ⟨cl, len, wd⟩ := L3.T t t0 t2
          have pos := plus_pos (n := row) (c := 2) cl (by omega)
          have wid : (row.length : Int) = r.W t := by show (row.length : Int) = r.ws.getD t.toNat 0; omega
          refine ⟨_, rfl, _, rfl, r.tl, r.lds.map V.ref, t, _, rfl, rfl, sq_of L3.tb.1, had, _, rfl, d, qa, tabL r.Ls t, row, 2, rfl, hdH, hq, (by omega), (by omega), fun H4 off hd4 => ?_⟩
          have k4 := L3.kat (List.mem_of_getElem? hd) hdH off
          obtain ⟨dx4, hi4⟩ := k4.ins
          have hq4 : H4 qa = some (.tup (row.map V.int)) := off _ _ (fun y => by unfold HeapAt at hdH; rw [y, hdH] at hq; cases hq) hq
          refine ⟨_, rfl, r.k, dx4, _, rfl, hi4, rfl, _, rfl, _, rfl, (by show 2 ≤ sizeLine; decide), fun pq npq => ?_⟩
          have e5 := Ex.new (o := .tup [.ref qa, .int 2]) npq
          refine ⟨(by show 1 ≤ sizeLine; decide), fun pl npl => ?_⟩
          have e6 := Ex.new (o := .lst [.ref pq]) npl
          have e46 := XT.of_ex (e5.trans e6)
          refine ⟨r.k, r.wl, r.hl, r.vl, r.al, r.ws, r.has, r.Ls, r.vxs, r.vs, r.aas, r.As, t, pl, qa, pq, row, 2, rfl, k4.keep e46, t0, t2, L3.lw, L3.T, e46.tab _ (off_tab hdH off L3.tg1), upd_same, e6 _ _ upd_same, e46.tup hq4, wid, by omega, Nat.le_trans newL_len (by have := L3.sz t t0 t2; omega), L3.g, Nat.le_trans L3.v20 (by omega), fun L hL => ?_, fun H7 l ys has' aas' e7 hl7 ly ih ia k7 => ?_⟩
          · obtain ⟨v, hv, e⟩ := List.mem_map.mp hL
            rw [← e]
            exact ans_ok L3.T v (L3.g v hv)
          · have L7 := L3.step t0 t2 hd off hd4 e46 e7 ih ia k7 wid (by omega) (by omega)
            have lv4 : H4 lv = some (.lst r.vxs) := off _ _ (fun y => by unfold HeapAt at hdH; rw [← y, U3.at_] at hdH; cases hdH) U3.at_
            have lv7 : H7 lv = some (.lst r.vxs) := e7.at_ _ _ (fun _ z => nomatch z) (fun z => U3.out (by
              simp only [List.mem_cons, List.not_mem_nil, or_false] at z ⊢
              rcases z with z | z
              · exact .inr (.inl z)
              · exact .inr (.inr (.inr z)))) (e46.lst lv4)
            refine ⟨l, ys, rfl, .inl (sq_of hl7), ?_⟩
            refine ⟨_, rfl, lv, r.vxs, rfl, .inl (sq_of lv7), ?_⟩
            rw [ly, show r.vxs.length = r.vs.length from Paired.length k7.vw]
            refine ⟨rfl, _, rfl, ?_⟩
            refine ite_n (by rw [decide_eq_true rfl]; exact Bool.false_ne_true) ?_
            exact ⟨r.chg t row 2 has' aas', _, _, _, _, _, _, _, _, rfl, L7, lv7, U3.out⟩
        · clear L1 U1 L U
          rintro σ G ⟨r, o5, o6, o7, o9, o10, o11, o12, o13, rfl, L, U⟩
          have lvx : r.vxs.length = r.vs.length := Paired.length L.ka.vw
          have l20 := L.v20
          have ansC : ∀ A ∈ r.As, Clean A ∧ A.length ≤ 20 := fun A hA => by
            obtain ⟨v, hv, e⟩ := List.mem_map.mp hA
            rw [← e]
            exact ans_ok L.T v (L.g v hv)
          refine ⟨_, rfl, lv, r.vxs, rfl, .inl (sq_of U.at_), ?_⟩
          rw [lvx]
          (repeat (first | (refine ⟨_, rfl, ?_⟩) | (refine ⟨_, _, rfl, rfl, ?_⟩) | (refine ⟨⟨by decide, by decide⟩, ?_⟩) | (refine ⟨(by show (0 : Int) < _; decide), ?_⟩) | (refine ⟨rfl, ?_⟩) | (refine ⟨(by show _ ≠ (0 : Int); omega), ?_⟩) | (refine ⟨.inl ⟨by decide, by decide⟩, ?_⟩) | (refine ⟨(by assumption : CDivN _ _), ?_⟩)))
          refine ⟨by omega, by omega, ?_⟩
          refine for_range (n := r.vs.length) (fun i σ G' => ∃ o5 : Option V, σ = SL r o5 o6 o7 (some (.ref lv)) o9 o10 o11 o12 o13 none ∧ Ex G G') ⟨o5, rfl, Ex.refl G⟩ ?_ ?_
          · rintro i σ G' hi ⟨o5', rfl, e⟩
            rw [Int.zero_add]
            have L1 := L.xt (XT.of_ex e)
            have U1 := U.xt (XT.of_ex e)
            refine w_ifE (b := false) (σ := SL r (some (.int i)) o6 o7 (some (.ref lv)) o9 o10 o11 o12 o13 none) (fun H1 e1 Q1 q1 => ev_cmp (L1.xt (XT.of_ex e1)) (U1.xt (XT.of_ex e1)) rfl rfl rfl (ev_var rfl) hi Q1 q1) (fun z => absurd z (by decide)) fun _ H1 e1 => ?_
            have L2 := L1.xt (XT.of_ex e1)
            obtain ⟨dx1, hi1⟩ := L2.ka.ins
            refine ⟨_, rfl, r.k, dx1, _, rfl, hi1, rfl, _, rfl, r.k, r.wl, r.hl, r.vl, r.al, r.ws, r.has, r.Ls, r.vxs, r.vs, r.aas, r.As, i, rfl, L2.ka, fun A hA => ⟨(ansC A hA).1.1, by have := (ansC A hA).2; omega⟩, fun h0 h1 H2 l as M' e2 nl pm so hl pr => ?_, fun hn => absurd ⟨by omega, by rw [L2.ka.la]; omega⟩ hn⟩
            have lpr : as.length = M'.length := by have := Paired.length pr; rwa [List.length_map] at this
            have lM : M'.length ≤ 20 := by
              obtain ⟨v, hv⟩ : ∃ v, r.vs[i]? = some v := ⟨_, List.getElem?_eq_getElem hi⟩
              have pm2 : M'.Perm (ansL r.Ls v) := by rw [← tab_as (Ls := r.Ls) hv]; exact pm
              rw [pm2.length_eq]
              exact (ans_ok L.T v (L.g v (List.mem_of_getElem? hv))).2
            refine ⟨.inl ⟨rfl, _, sq_of hl⟩, l, as.map V.ref, .int 1, rfl, rfl, hl, sz_lt (by rw [List.length_map]; omega), ?_⟩
            exact ⟨_, rfl, Ex.mut ((e.trans e1).trans e2) (fresh_back (e.trans e1) nl)⟩
          · rintro σ G' ⟨o5', rfl, e⟩
            have L1 := L.xt (XT.of_ex e)
            have U1 := U.xt (XT.of_ex e)
            dsimp only
            refine w_ifE (b := false) (σ := SL r o5' o6 o7 (some (.ref lv)) o9 o10 o11 o12 o13 none) (fun H1 e1 Q1 q1 => ?_) (fun z => absurd z (by decide)) fun _ H1 e1 => ?_
            · have L2 := L1.xt (XT.of_ex e1)
              have U2 := U1.xt (XT.of_ex e1)
              refine ⟨_, rfl, lv, r.vxs, rfl, .inl (sq_of U2.at_), ?_⟩
              rw [lvx]
              (repeat (first | (refine ⟨_, rfl, ?_⟩) | (refine ⟨_, _, rfl, rfl, ?_⟩) | (refine ⟨⟨by decide, by decide⟩, ?_⟩) | (refine ⟨(by show (0 : Int) < _; decide), ?_⟩) | (refine ⟨rfl, ?_⟩) | (refine ⟨(by show _ ≠ (0 : Int); omega), ?_⟩) | (refine ⟨.inl ⟨by decide, by decide⟩, ?_⟩) | (refine ⟨(by assumption : CDivN _ _), ?_⟩)))
              by_cases h0 : 0 < r.vs.length
              · refine ite_y (decide_eq_true (by omega)) ?_
                exact ev_cmp (i := 0) L2 U2 rfl rfl rfl ev_c h0 Q1 q1
              · refine ite_n (by rw [decide_eq_false (by omega)]; exact Bool.false_ne_true) ?_
                exact q1 _ (Ex.refl _)
            refine at_next ?_
            have L2 := L1.xt (XT.of_ex e1)
            refine w_asg (P := In 0 9) (est_mod (est_at (ev_var rfl) ev_c L2.scr.sl (by omega) L2.bits) (by omega)) fun vv H2 e2 ⟨far, ef, f0, f1⟩ => ?_
            subst ef
            have L3 := L2.xt (XT.of_ex e2)
            have U3 := U1.xt (XT.of_ex (e1.trans e2))
            have ansD : ∀ A ∈ r.As, (A.map (·.1)).Nodup ∧ A.length < 64 := fun A hA => ⟨(ansC A hA).1.1, by have := (ansC A hA).2; omega⟩
            refine ⟨_, rfl, _, rfl, lv, r.vxs, rfl, .inl (sq_of U3.at_), ?_⟩
            rw [lvx]
            refine ⟨_, rfl, _, _, rfl, rfl, r.k, r.wl, r.hl, r.vl, r.al, r.ws, r.has, r.Ls, r.vxs, r.vs, r.aas, r.As, r.vs.length + far, rfl, L3.ka, ansD, fun z => by have := z.2; rw [L3.ka.la] at this; omega, fun H4 e4 => ?_⟩
            have L4 := L3.xt e4
            refine ⟨true, rfl, ite_y rfl ?_⟩
            refine ⟨_, rfl, ?_⟩
            (repeat (first | (refine ⟨_, rfl, ?_⟩) | (refine ⟨_, _, rfl, rfl, ?_⟩) | (refine ⟨⟨by decide, by decide⟩, ?_⟩) | (refine ⟨(by show (0 : Int) < _; decide), ?_⟩) | (refine ⟨rfl, ?_⟩) | (refine ⟨(by show _ ≠ (0 : Int); omega), ?_⟩) | (refine ⟨.inl ⟨by decide, by decide⟩, ?_⟩) | (refine ⟨(by assumption : CDivN _ _), ?_⟩)))
            exact ⟨r.k, r.wl, r.hl, r.vl, r.al, r.ws, r.has, r.Ls, r.vxs, r.vs, r.aas, r.As, -1 - far, rfl, L4.ka, ansD, fun z => by have := z.1; omega, fun H5 e5 => q H5⟩
end
end K08

namespace K08
open PySem PySem.Spec PyProof.Rows L2 Evl KB KH KS
theorem kit_no {K : PySem.W.Frag} {C c : Addr} (i : PySem.W.isClsIn K c = true) (t : PySem.W.typeIn K (.ref c) = some (.type "type")) (s : PySem.W.subIn K (.ref C) (.ref c) = some false) (n : (Value.ref C == Value.ref c) = false) : PySem.W.kitOne K (.ref C) (.ref c) = some false := by
  unfold PySem.W.kitOne
  rw [n, if_neg Bool.false_ne_true]
  have i2 : (PySem.W.clsIn K c).isSome = true := i
  show (if ((PySem.W.clsIn K c).isSome && PySem.W.typeIn K (.ref c) == some (.type "type")) = true then PySem.W.subIn K (.ref C) (.ref c) else none) = some false
  rw [i2, t]
  exact s
theorem all_mk {l : PySem.W.OpenLaw} {w : World} {K : PySem.W.Frag} {h : Heap} {mg : Str → Option Value} {fa : Addr} (X : K.In h) (G : h.Ns mainGlobals mg) (hfa : mg "law" = some (.ref fa)) {P0 P1 : Addr} (hT0 : h.get? P0 = some (PySem.W.tabObj #[])) (hT1 : h.get? P1 = some (PySem.W.tabObj #[]))
    {q0 q1 q2 q3 q4 q5 q6 q7 q8 q9 q10 q11 q12 q13 q14 q15 q16 q17 q18 q19 q20 q21 q22 q23 q24 q25 q26 q27 q28 q29 q30 q31 qm0 qm1 qm2 qm3 qm4 qm5 qm6 C c0 c1 c2 c3 c4 c5 cErr cA cB : Addr} {tk tk2 : Tok} {od0 an0 od1 an1 od2 an2 od3 an3 od4 an4 od5 an5 od6 an6 od7 an7 od8 an8 od9 an9 od10 an10 od11 an11 od12 an12 od13 an13 od14 an14 od15 an15 od16 an16 od17 an17 od18 an18 od19 an19 od20 an20 od21 an21 od22 an22 od23 an23 od24 an24 od25 an25 od26 an26 od27 an27 od28 an28 od29 an29 od30 an30 od31 an31 odm0 anm0 odm1 anm1 odm2 anm2 odm3 anm3 odm4 anm4 odm5 anm5 odm6 anm6 : Option Addr} {sl0 sl1 sl2 sl3 sl4 sl5 sl6 sl7 sl8 sl9 sl10 sl11 sl12 sl13 sl14 sl15 sl16 sl17 sl18 sl19 sl20 sl21 sl22 sl23 sl24 sl25 sl26 sl27 sl28 sl29 sl30 sl31 slm0 slm1 slm2 slm3 slm4 slm5 slm6 : Array (Option Value)} {oc0 kV0 dc0 pm0 cd0 ct0 oc1 kV1 dc1 pm1 cd1 ct1 oc2 kV2 dc2 pm2 cd2 ct2 oc3 kV3 dc3 pm3 cd3 ct3 oc4 kV4 dc4 pm4 cd4 ct4 oc5 kV5 dc5 pm5 cd5 ct5 oc6 kV6 dc6 pm6 cd6 ct6 oc7 kV7 dc7 pm7 cd7 ct7 oc8 kV8 dc8 pm8 cd8 ct8 oc9 kV9 dc9 pm9 cd9 ct9 oc10 kV10 dc10 pm10 cd10 ct10 oc11 kV11 dc11 pm11 cd11 ct11 oc12 kV12 dc12 pm12 cd12 ct12 oc13 kV13 dc13 pm13 cd13 ct13 oc14 kV14 dc14 pm14 cd14 ct14 oc15 kV15 dc15 pm15 cd15 ct15 oc16 kV16 dc16 pm16 cd16 ct16 oc17 kV17 dc17 pm17 cd17 ct17 oc18 kV18 dc18 pm18 cd18 ct18 oc19 kV19 dc19 pm19 cd19 ct19 oc20 kV20 dc20 pm20 cd20 ct20 oc21 kV21 dc21 pm21 cd21 ct21 oc22 kV22 dc22 pm22 cd22 ct22 oc23 kV23 dc23 pm23 cd23 ct23 oc24 kV24 dc24 pm24 cd24 ct24 oc25 kV25 dc25 pm25 cd25 ct25 oc26 kV26 dc26 pm26 cd26 ct26 oc27 kV27 dc27 pm27 cd27 ct27 oc28 kV28 dc28 pm28 cd28 ct28 oc29 kV29 dc29 pm29 cd29 ct29 oc30 kV30 dc30 pm30 ct30 oc31 kV31 dc31 pm31 cd31 ct31 ocm0 kVm0 dcm0 pmm0 cdm0 ctm0 ocm1 kVm1 dcm1 pmm1 cdm1 ctm1 ocm2 kVm2 dcm2 pmm2 cdm2 ctm2 ocm3 kVm3 dcm3 pmm3 cdm3 ctm3 ocm4 kVm4 dcm4 pmm4 cdm4 ctm4 ocm5 kVm5 dcm5 pmm5 ctm5 ocm6 kVm6 dcm6 pmm6 cdm6 ctm6 : Value}
    (a0 : PySem.W.nsIn K mainGlobals "law" = some (some (.ref q0)))
    (l0 : K.lookup q0 = some ⟨oc0, od0, .func (PySem.W.fnOf "law" "law" (defArgs sL) (defBody sL) (defScope sL) .none kV0 dc0 pm0 an0 cd0 ct0), sl0⟩)
    (c0x : PySem.W.codeIn K cd0 "law" = true)
    (k0 : PySem.W.keepIn K (.ref q0) = true)
    (a1 : PySem.W.nsIn K mainGlobals "_law_at" = some (some (.ref q1)))
    (l1 : K.lookup q1 = some ⟨oc1, od1, .func (PySem.W.fnOf "_law_at" "_law_at" (defArgs sL_at) (defBody sL_at) (defScope sL_at) .none kV1 dc1 pm1 an1 cd1 ct1), sl1⟩)
    (c1x : PySem.W.codeIn K cd1 "_law_at" = true)
    (k1 : PySem.W.keepIn K (.ref q1) = true)
    (a2 : PySem.W.nsIn K mainGlobals "_law_widths" = some (some (.ref q2)))
    (l2 : K.lookup q2 = some ⟨oc2, od2, .func (PySem.W.fnOf "_law_widths" "_law_widths" (defArgs sL_widths) (defBody sL_widths) (defScope sL_widths) .none kV2 dc2 pm2 an2 cd2 ct2), sl2⟩)
    (c2x : PySem.W.codeIn K cd2 "_law_widths" = true)
    (k2 : PySem.W.keepIn K (.ref q2) = true)
    (a3 : PySem.W.nsIn K mainGlobals "_law_row" = some (some (.ref q3)))
    (l3 : K.lookup q3 = some ⟨oc3, od3, .func (PySem.W.fnOf "_law_row" "_law_row" (defArgs sL_row) (defBody sL_row) (defScope sL_row) .none kV3 dc3 pm3 an3 cd3 ct3), sl3⟩)
    (c3x : PySem.W.codeIn K cd3 "_law_row" = true)
    (k3 : PySem.W.keepIn K (.ref q3) = true)
    (a4 : PySem.W.nsIn K mainGlobals "_law_value" = some (some (.ref q4)))
    (l4 : K.lookup q4 = some ⟨oc4, od4, .func (PySem.W.fnOf "_law_value" "_law_value" (defArgs sL_value) (defBody sL_value) (defScope sL_value) .none kV4 dc4 pm4 an4 cd4 ct4), sl4⟩)
    (c4x : PySem.W.codeIn K cd4 "_law_value" = true)
    (k4 : PySem.W.keepIn K (.ref q4) = true)
    (a5 : PySem.W.nsIn K mainGlobals "_law_put" = some (some (.ref q5)))
    (l5 : K.lookup q5 = some ⟨oc5, od5, .func (PySem.W.fnOf "_law_put" "_law_put" (defArgs sL_put) (defBody sL_put) (defScope sL_put) .none kV5 dc5 pm5 an5 cd5 ct5), sl5⟩)
    (c5x : PySem.W.codeIn K cd5 "_law_put" = true)
    (k5 : PySem.W.keepIn K (.ref q5) = true)
    (a6 : PySem.W.nsIn K mainGlobals "_law_heap_of" = some (some (.ref q6)))
    (l6 : K.lookup q6 = some ⟨oc6, od6, .func (PySem.W.fnOf "_law_heap_of" "_law_heap_of" (defArgs sL_heap_of) (defBody sL_heap_of) (defScope sL_heap_of) .none kV6 dc6 pm6 an6 cd6 ct6), sl6⟩)
    (c6x : PySem.W.codeIn K cd6 "_law_heap_of" = true)
    (k6 : PySem.W.keepIn K (.ref q6) = true)
    (a7 : PySem.W.nsIn K mainGlobals "_law_whole" = some (some (.ref q7)))
    (l7 : K.lookup q7 = some ⟨oc7, od7, .func (PySem.W.fnOf "_law_whole" "_law_whole" (defArgs sL_whole) (defBody sL_whole) (defScope sL_whole) .none kV7 dc7 pm7 an7 cd7 ct7), sl7⟩)
    (c7x : PySem.W.codeIn K cd7 "_law_whole" = true)
    (k7 : PySem.W.keepIn K (.ref q7) = true)
    (a8 : PySem.W.nsIn K mainGlobals "_law_answer" = some (some (.ref q8)))
    (l8 : K.lookup q8 = some ⟨oc8, od8, .func (PySem.W.fnOf "_law_answer" "_law_answer" (defArgs sL_answer) (defBody sL_answer) (defScope sL_answer) .none kV8 dc8 pm8 an8 cd8 ct8), sl8⟩)
    (c8x : PySem.W.codeIn K cd8 "_law_answer" = true)
    (k8 : PySem.W.keepIn K (.ref q8) = true)
    (a9 : PySem.W.nsIn K mainGlobals "_law_some" = some (some (.ref q9)))
    (l9 : K.lookup q9 = some ⟨oc9, od9, .func (PySem.W.fnOf "_law_some" "_law_some" (defArgs sL_some) (defBody sL_some) (defScope sL_some) .none kV9 dc9 pm9 an9 cd9 ct9), sl9⟩)
    (c9x : PySem.W.codeIn K cd9 "_law_some" = true)
    (k9 : PySem.W.keepIn K (.ref q9) = true)
    (a10 : PySem.W.nsIn K mainGlobals "_law_wrong" = some (some (.ref q10)))
    (l10 : K.lookup q10 = some ⟨oc10, od10, .func (PySem.W.fnOf "_law_wrong" "_law_wrong" (defArgs sL_wrong) (defBody sL_wrong) (defScope sL_wrong) .none kV10 dc10 pm10 an10 cd10 ct10), sl10⟩)
    (c10x : PySem.W.codeIn K cd10 "_law_wrong" = true)
    (k10 : PySem.W.keepIn K (.ref q10) = true)
    (a11 : PySem.W.nsIn K mainGlobals "_law_said" = some (some (.ref q11)))
    (l11 : K.lookup q11 = some ⟨oc11, od11, .func (PySem.W.fnOf "_law_said" "_law_said" (defArgs sL_said) (defBody sL_said) (defScope sL_said) .none kV11 dc11 pm11 an11 cd11 ct11), sl11⟩)
    (c11x : PySem.W.codeIn K cd11 "_law_said" = true)
    (k11 : PySem.W.keepIn K (.ref q11) = true)
    (a12 : PySem.W.nsIn K mainGlobals "_law_no_view" = some (some (.ref q12)))
    (l12 : K.lookup q12 = some ⟨oc12, od12, .func (PySem.W.fnOf "_law_no_view" "_law_no_view" (defArgs sL_no_view) (defBody sL_no_view) (defScope sL_no_view) .none kV12 dc12 pm12 an12 cd12 ct12), sl12⟩)
    (c12x : PySem.W.codeIn K cd12 "_law_no_view" = true)
    (k12 : PySem.W.keepIn K (.ref q12) = true)
    (a13 : PySem.W.nsIn K mainGlobals "_law_word" = some (some (.ref q13)))
    (l13 : K.lookup q13 = some ⟨oc13, od13, .func (PySem.W.fnOf "_law_word" "_law_word" (defArgs sL_word) (defBody sL_word) (defScope sL_word) .none kV13 dc13 pm13 an13 cd13 ct13), sl13⟩)
    (c13x : PySem.W.codeIn K cd13 "_law_word" = true)
    (k13 : PySem.W.keepIn K (.ref q13) = true)
    (a14 : PySem.W.nsIn K mainGlobals "heaped" = some (some (.ref q14)))
    (l14 : K.lookup q14 = some ⟨oc14, od14, .func (PySem.W.fnOf "heaped" "heaped" (defArgs sheaped) (defBody sheaped) (defScope sheaped) .none kV14 dc14 pm14 an14 cd14 ct14), sl14⟩)
    (c14x : PySem.W.codeIn K cd14 "heaped" = true)
    (k14 : PySem.W.keepIn K (.ref q14) = true)
    (a15 : PySem.W.nsIn K mainGlobals "listed" = some (some (.ref q15)))
    (l15 : K.lookup q15 = some ⟨oc15, od15, .func (PySem.W.fnOf "listed" "listed" (defArgs slisted) (defBody slisted) (defScope slisted) .none kV15 dc15 pm15 an15 cd15 ct15), sl15⟩)
    (c15x : PySem.W.codeIn K cd15 "listed" = true)
    (k15 : PySem.W.keepIn K (.ref q15) = true)
    (a16 : PySem.W.nsIn K mainGlobals "added" = some (some (.ref q16)))
    (l16 : K.lookup q16 = some ⟨oc16, od16, .func (PySem.W.fnOf "added" "added" (defArgs sadded) (defBody sadded) (defScope sadded) .none kV16 dc16 pm16 an16 cd16 ct16), sl16⟩)
    (c16x : PySem.W.codeIn K cd16 "added" = true)
    (k16 : PySem.W.keepIn K (.ref q16) = true)
    (a17 : PySem.W.nsIn K mainGlobals "turned" = some (some (.ref q17)))
    (l17 : K.lookup q17 = some ⟨oc17, od17, .func (PySem.W.fnOf "turned" "turned" (defArgs sturned) (defBody sturned) (defScope sturned) .none kV17 dc17 pm17 an17 cd17 ct17), sl17⟩)
    (c17x : PySem.W.codeIn K cd17 "turned" = true)
    (k17 : PySem.W.keepIn K (.ref q17) = true)
    (a18 : PySem.W.nsIn K mainGlobals "columns" = some (some (.ref q18)))
    (l18 : K.lookup q18 = some ⟨oc18, od18, .func (PySem.W.fnOf "columns" "columns" (defArgs scolumns) (defBody scolumns) (defScope scolumns) .none kV18 dc18 pm18 an18 cd18 ct18), sl18⟩)
    (c18x : PySem.W.codeIn K cd18 "columns" = true)
    (k18 : PySem.W.keepIn K (.ref q18) = true)
    (a19 : PySem.W.nsIn K mainGlobals "once" = some (some (.ref q19)))
    (l19 : K.lookup q19 = some ⟨oc19, od19, .func (PySem.W.fnOf "once" "once" (defArgs sonce) (defBody sonce) (defScope sonce) .none kV19 dc19 pm19 an19 cd19 ct19), sl19⟩)
    (c19x : PySem.W.codeIn K cd19 "once" = true)
    (k19 : PySem.W.keepIn K (.ref q19) = true)
    (a20 : PySem.W.nsIn K mainGlobals "_picked_numbers" = some (some (.ref q20)))
    (l20 : K.lookup q20 = some ⟨oc20, od20, .func (PySem.W.fnOf "_picked_numbers" "_picked_numbers" (defArgs s_picked_numbers) (defBody s_picked_numbers) (defScope s_picked_numbers) .none kV20 dc20 pm20 an20 cd20 ct20), sl20⟩)
    (c20x : PySem.W.codeIn K cd20 "_picked_numbers" = true)
    (k20 : PySem.W.keepIn K (.ref q20) = true)
    (a21 : PySem.W.nsIn K mainGlobals "answered" = some (some (.ref q21)))
    (l21 : K.lookup q21 = some ⟨oc21, od21, .func (PySem.W.fnOf "answered" "answered" (defArgs sanswered) (defBody sanswered) (defScope sanswered) .none kV21 dc21 pm21 an21 cd21 ct21), sl21⟩)
    (c21x : PySem.W.codeIn K cd21 "answered" = true)
    (k21 : PySem.W.keepIn K (.ref q21) = true)
    (a22 : PySem.W.nsIn K mainGlobals "width_of" = some (some (.ref q22)))
    (l22 : K.lookup q22 = some ⟨oc22, od22, .func (PySem.W.fnOf "width_of" "width_of" (defArgs swidth_of) (defBody swidth_of) (defScope swidth_of) .none kV22 dc22 pm22 an22 cd22 ct22), sl22⟩)
    (c22x : PySem.W.codeIn K cd22 "width_of" = true)
    (k22 : PySem.W.keepIn K (.ref q22) = true)
    (a23 : PySem.W.nsIn K mainGlobals "_told_width" = some (some (.ref q23)))
    (l23 : K.lookup q23 = some ⟨oc23, od23, .func (PySem.W.fnOf "_told_width" "_told_width" (defArgs s_told_width) (defBody s_told_width) (defScope s_told_width) .none kV23 dc23 pm23 an23 cd23 ct23), sl23⟩)
    (c23x : PySem.W.codeIn K cd23 "_told_width" = true)
    (k23 : PySem.W.keepIn K (.ref q23) = true)
    (a24 : PySem.W.nsIn K mainGlobals "_table_width" = some (some (.ref q24)))
    (l24 : K.lookup q24 = some ⟨oc24, od24, .func (PySem.W.fnOf "_table_width" "_table_width" (defArgs s_table_width) (defBody s_table_width) (defScope s_table_width) .none kV24 dc24 pm24 an24 cd24 ct24), sl24⟩)
    (c24x : PySem.W.codeIn K cd24 "_table_width" = true)
    (k24 : PySem.W.keepIn K (.ref q24) = true)
    (a25 : PySem.W.nsIn K mainGlobals "_width_with" = some (some (.ref q25)))
    (l25 : K.lookup q25 = some ⟨oc25, od25, .func (PySem.W.fnOf "_width_with" "_width_with" (defArgs s_width_with) (defBody s_width_with) (defScope s_width_with) .none kV25 dc25 pm25 an25 cd25 ct25), sl25⟩)
    (c25x : PySem.W.codeIn K cd25 "_width_with" = true)
    (k25 : PySem.W.keepIn K (.ref q25) = true)
    (a26 : PySem.W.nsIn K mainGlobals "_columns_width" = some (some (.ref q26)))
    (l26 : K.lookup q26 = some ⟨oc26, od26, .func (PySem.W.fnOf "_columns_width" "_columns_width" (defArgs s_columns_width) (defBody s_columns_width) (defScope s_columns_width) .none kV26 dc26 pm26 an26 cd26 ct26), sl26⟩)
    (c26x : PySem.W.codeIn K cd26 "_columns_width" = true)
    (k26 : PySem.W.keepIn K (.ref q26) = true)
    (a27 : PySem.W.nsIn K mainGlobals "_like_width" = some (some (.ref q27)))
    (l27 : K.lookup q27 = some ⟨oc27, od27, .func (PySem.W.fnOf "_like_width" "_like_width" (defArgs s_like_width) (defBody s_like_width) (defScope s_like_width) .none kV27 dc27 pm27 an27 cd27 ct27), sl27⟩)
    (c27x : PySem.W.codeIn K cd27 "_like_width" = true)
    (k27 : PySem.W.keepIn K (.ref q27) = true)
    (a28 : PySem.W.nsIn K mainGlobals "_meet_width" = some (some (.ref q28)))
    (l28 : K.lookup q28 = some ⟨oc28, od28, .func (PySem.W.fnOf "_meet_width" "_meet_width" (defArgs s_meet_width) (defBody s_meet_width) (defScope s_meet_width) .none kV28 dc28 pm28 an28 cd28 ct28), sl28⟩)
    (c28x : PySem.W.codeIn K cd28 "_meet_width" = true)
    (k28 : PySem.W.keepIn K (.ref q28) = true)
    (a29 : PySem.W.nsIn K mainGlobals "_reach_width" = some (some (.ref q29)))
    (l29 : K.lookup q29 = some ⟨oc29, od29, .func (PySem.W.fnOf "_reach_width" "_reach_width" (defArgs s_reach_width) (defBody s_reach_width) (defScope s_reach_width) .none kV29 dc29 pm29 an29 cd29 ct29), sl29⟩)
    (c29x : PySem.W.codeIn K cd29 "_reach_width" = true)
    (k29 : PySem.W.keepIn K (.ref q29) = true)
    (a30 : PySem.W.nsIn K mainGlobals "_check_columns" = some (some (.ref q30)))
    (l30 : K.lookup q30 = some ⟨oc30, od30, .func (PySem.W.fnOf "_check_columns" "_check_columns" (defArgs s_check_columns) (defBody s_check_columns) (defScope s_check_columns) .none kV30 dc30 pm30 an30 (.ref cA) ct30), sl30⟩)
    (c30x : PySem.W.codeIn K (.ref cA) "_check_columns" = true)
    (k30 : PySem.W.keepIn K (.ref q30) = true)
    (a31 : PySem.W.nsIn K mainGlobals "_two_widths" = some (some (.ref q31)))
    (l31 : K.lookup q31 = some ⟨oc31, od31, .func (PySem.W.fnOf "_two_widths" "_two_widths" (defArgs s_two_widths) (defBody s_two_widths) (defScope s_two_widths) .none kV31 dc31 pm31 an31 cd31 ct31), sl31⟩)
    (c31x : PySem.W.codeIn K cd31 "_two_widths" = true)
    (k31 : PySem.W.keepIn K (.ref q31) = true)
    (aK : PySem.W.nsIn K mainGlobals "Keeper" = some (some (.ref C)))
    (am0 : PySem.W.findIn K (.ref C) "__init__" = some (some (.ref qm0)))
    (im0 : PySem.W.isFn K (.ref qm0) = true)
    (lm0 : K.lookup qm0 = some ⟨ocm0, odm0, .func (PySem.W.fnOf "__init__" "Keeper.__init__" (defArgs sM__init__) (defBody sM__init__) (defScope sM__init__) .none kVm0 dcm0 pmm0 anm0 cdm0 ctm0), slm0⟩)
    (cm0x : PySem.W.codeIn K cdm0 "Keeper.__init__" = true)
    (km0 : PySem.W.keepIn K (.ref qm0) = true)
    (am1 : PySem.W.findIn K (.ref C) "put" = some (some (.ref qm1)))
    (im1 : PySem.W.isFn K (.ref qm1) = true)
    (lm1 : K.lookup qm1 = some ⟨ocm1, odm1, .func (PySem.W.fnOf "put" "Keeper.put" (defArgs sMput) (defBody sMput) (defScope sMput) .none kVm1 dcm1 pmm1 anm1 cdm1 ctm1), slm1⟩)
    (cm1x : PySem.W.codeIn K cdm1 "Keeper.put" = true)
    (km1 : PySem.W.keepIn K (.ref qm1) = true)
    (am2 : PySem.W.findIn K (.ref C) "change" = some (some (.ref qm2)))
    (im2 : PySem.W.isFn K (.ref qm2) = true)
    (lm2 : K.lookup qm2 = some ⟨ocm2, odm2, .func (PySem.W.fnOf "change" "Keeper.change" (defArgs sMchange) (defBody sMchange) (defScope sMchange) .none kVm2 dcm2 pmm2 anm2 cdm2 ctm2), slm2⟩)
    (cm2x : PySem.W.codeIn K cdm2 "Keeper.change" = true)
    (km2 : PySem.W.keepIn K (.ref qm2) = true)
    (am3 : PySem.W.findIn K (.ref C) "answer" = some (some (.ref qm3)))
    (im3 : PySem.W.isFn K (.ref qm3) = true)
    (lm3 : K.lookup qm3 = some ⟨ocm3, odm3, .func (PySem.W.fnOf "answer" "Keeper.answer" (defArgs sManswer) (defBody sManswer) (defScope sManswer) .none kVm3 dcm3 pmm3 anm3 cdm3 ctm3), slm3⟩)
    (cm3x : PySem.W.codeIn K cdm3 "Keeper.answer" = true)
    (km3 : PySem.W.keepIn K (.ref qm3) = true)
    (am4 : PySem.W.findIn K (.ref C) "_check_table" = some (some (.ref qm4)))
    (im4 : PySem.W.isFn K (.ref qm4) = true)
    (lm4 : K.lookup qm4 = some ⟨ocm4, odm4, .func (PySem.W.fnOf "_check_table" "Keeper._check_table" (defArgs sM_check_table) (defBody sM_check_table) (defScope sM_check_table) .none kVm4 dcm4 pmm4 anm4 cdm4 ctm4), slm4⟩)
    (cm4x : PySem.W.codeIn K cdm4 "Keeper._check_table" = true)
    (km4 : PySem.W.keepIn K (.ref qm4) = true)
    (am5 : PySem.W.findIn K (.ref C) "_changed" = some (some (.ref qm5)))
    (im5 : PySem.W.isFn K (.ref qm5) = true)
    (lm5 : K.lookup qm5 = some ⟨ocm5, odm5, .func (PySem.W.fnOf "_changed" "Keeper._changed" (defArgs sM_changed) (defBody sM_changed) (defScope sM_changed) .none kVm5 dcm5 pmm5 anm5 (.ref cB) ctm5), slm5⟩)
    (cm5x : PySem.W.codeIn K (.ref cB) "Keeper._changed" = true)
    (km5 : PySem.W.keepIn K (.ref qm5) = true)
    (am6 : PySem.W.findIn K (.ref C) "_renewed" = some (some (.ref qm6)))
    (im6 : PySem.W.isFn K (.ref qm6) = true)
    (lm6 : K.lookup qm6 = some ⟨ocm6, odm6, .func (PySem.W.fnOf "_renewed" "Keeper._renewed" (defArgs sM_renewed) (defBody sM_renewed) (defScope sM_renewed) .none kVm6 dcm6 pmm6 anm6 cdm6 ctm6), slm6⟩)
    (cm6x : PySem.W.codeIn K cdm6 "Keeper._renewed" = true)
    (km6 : PySem.W.keepIn K (.ref qm6) = true)
    (clg : PySem.W.plainGet K C Str.empty = true)
    (cld : PySem.W.hasDictIn K C = true)
    (clo : PySem.W.plainOver K C = true)
    (cls : PySem.W.findIn K (.ref C) "__setattr__" = some (some (.builtin "object.__setattr__")))
    (nw : PySem.W.findIn K (.ref C) "_widths" = some none)
    (nh : PySem.W.findIn K (.ref C) "_heaps" = some none)
    (nv : PySem.W.findIn K (.ref C) "_views" = some none)
    (na : PySem.W.findIn K (.ref C) "_answers" = some none)
    (mk : PySem.W.makesIn K C = true)
    (kpC : PySem.W.keepIn K (.ref C) = true)
    (tA : PySem.W.codeHdIn K cA P0 = true)
    (nA : K.lookup P0 = none)
    (tB : PySem.W.codeHdIn K cB P1 = true)
    (nB : K.lookup P1 = none)
    (aWIDEST : PySem.W.nsIn K mainGlobals "WIDEST" = some (some (.int 40 tk)))
    (aMOST : PySem.W.nsIn K mainGlobals "MOST_VIEWS" = some (some (.int 20 tk2)))
    (ac0 : PySem.W.nsIn K mainGlobals "NoTable" = some (some (.ref c0)))
    (ac1 : PySem.W.nsIn K mainGlobals "BadRow" = some (some (.ref c1)))
    (ac2 : PySem.W.nsIn K mainGlobals "Lacking" = some (some (.ref c2)))
    (ac3 : PySem.W.nsIn K mainGlobals "BadView" = some (some (.ref c3)))
    (ac4 : PySem.W.nsIn K mainGlobals "Full" = some (some (.ref c4)))
    (ac5 : PySem.W.nsIn K mainGlobals "NoView" = some (some (.ref c5)))
    (acErr : PySem.W.nsIn K mainGlobals "ChangeError" = some (some (.ref cErr)))
    (zlen : PySem.W.nsIn K mainGlobals "len" = some none)
    (zrange : PySem.W.nsIn K mainGlobals "range" = some none)
    (ztuple : PySem.W.nsIn K mainGlobals "tuple" = some none)
    (zlist : PySem.W.nsIn K mainGlobals "list" = some none)
    (zint : PySem.W.nsIn K mainGlobals "int" = some none)
    (zbool : PySem.W.nsIn K mainGlobals "bool" = some none)
    (zisinstance : PySem.W.nsIn K mainGlobals "isinstance" = some none)
    (zmin : PySem.W.nsIn K mainGlobals "min" = some none)
    (zreversed : PySem.W.nsIn K mainGlobals "reversed" = some none)
    (zsorted : PySem.W.nsIn K mainGlobals "sorted" = some none)
    (zany : PySem.W.nsIn K mainGlobals "any" = some none)
    (zValueError : PySem.W.nsIn K mainGlobals "ValueError" = some none)
    (eE : PySem.W.subIn K (.ref cErr) (.type "BaseException") = some true)
    (dE : PySem.W.hasDictIn K cErr = true)
    (tE : PySem.W.typeIn K (.ref cErr) = some (.type "type"))
    (hgc3 : PySem.W.findIn K (.ref c3) "__getattribute__" = some (some (.builtin "BaseException.__getattribute__")))
    (hkc3 : PySem.W.findIn K (.ref c3) "__getattr__" = some none)
    (hsc3 : PySem.W.subIn K (.ref c3) (.type "BaseException") = some true)
    (hdc3 : PySem.W.hasDictIn K c3 = true)
    (hac3 : PySem.W.findIn K (.ref c3) "__class__" = some (some (.builtin "object.__class__")))
    (hmc3 : PySem.W.mroIn K c3 (.type "object") = some true)
    (sVc3 : PySem.W.subIn K (.ref c3) (.type "ValueError") = some true)
    (sEc3 : PySem.W.subIn K (.ref c3) (.ref cErr) = some true)
    (kCc3 : PySem.W.keepIn K (.ref c3) = true)
    (sc3c0 : PySem.W.subIn K (.ref c3) (.ref c0) = some false)
    (nc3c0 : (Value.ref c3 == Value.ref c0) = false)
    (sc3c1 : PySem.W.subIn K (.ref c3) (.ref c1) = some false)
    (nc3c1 : (Value.ref c3 == Value.ref c1) = false)
    (sc3c2 : PySem.W.subIn K (.ref c3) (.ref c2) = some false)
    (nc3c2 : (Value.ref c3 == Value.ref c2) = false)
    (sc3c4 : PySem.W.subIn K (.ref c3) (.ref c4) = some false)
    (nc3c4 : (Value.ref c3 == Value.ref c4) = false)
    (sc3c5 : PySem.W.subIn K (.ref c3) (.ref c5) = some false)
    (nc3c5 : (Value.ref c3 == Value.ref c5) = false)
    (xc3 : PySem.W.excIn K c3 [.type "ValueError", .type "Exception", .type "BaseException", .type "object"] "ValueError.__new__" = true)
    (hgc4 : PySem.W.findIn K (.ref c4) "__getattribute__" = some (some (.builtin "BaseException.__getattribute__")))
    (hkc4 : PySem.W.findIn K (.ref c4) "__getattr__" = some none)
    (hsc4 : PySem.W.subIn K (.ref c4) (.type "BaseException") = some true)
    (hdc4 : PySem.W.hasDictIn K c4 = true)
    (hac4 : PySem.W.findIn K (.ref c4) "__class__" = some (some (.builtin "object.__class__")))
    (hmc4 : PySem.W.mroIn K c4 (.type "object") = some true)
    (sVc4 : PySem.W.subIn K (.ref c4) (.type "ValueError") = some true)
    (sEc4 : PySem.W.subIn K (.ref c4) (.ref cErr) = some true)
    (kCc4 : PySem.W.keepIn K (.ref c4) = true)
    (sc4c0 : PySem.W.subIn K (.ref c4) (.ref c0) = some false)
    (nc4c0 : (Value.ref c4 == Value.ref c0) = false)
    (sc4c1 : PySem.W.subIn K (.ref c4) (.ref c1) = some false)
    (nc4c1 : (Value.ref c4 == Value.ref c1) = false)
    (sc4c2 : PySem.W.subIn K (.ref c4) (.ref c2) = some false)
    (nc4c2 : (Value.ref c4 == Value.ref c2) = false)
    (sc4c3 : PySem.W.subIn K (.ref c4) (.ref c3) = some false)
    (nc4c3 : (Value.ref c4 == Value.ref c3) = false)
    (sc4c5 : PySem.W.subIn K (.ref c4) (.ref c5) = some false)
    (nc4c5 : (Value.ref c4 == Value.ref c5) = false)
    (xc4 : PySem.W.excIn K c4 [.type "ValueError", .type "Exception", .type "BaseException", .type "object"] "ValueError.__new__" = true)
    (hgc5 : PySem.W.findIn K (.ref c5) "__getattribute__" = some (some (.builtin "BaseException.__getattribute__")))
    (hkc5 : PySem.W.findIn K (.ref c5) "__getattr__" = some none)
    (hsc5 : PySem.W.subIn K (.ref c5) (.type "BaseException") = some true)
    (hdc5 : PySem.W.hasDictIn K c5 = true)
    (hac5 : PySem.W.findIn K (.ref c5) "__class__" = some (some (.builtin "object.__class__")))
    (hmc5 : PySem.W.mroIn K c5 (.type "object") = some true)
    (sVc5 : PySem.W.subIn K (.ref c5) (.type "ValueError") = some true)
    (sEc5 : PySem.W.subIn K (.ref c5) (.ref cErr) = some true)
    (kCc5 : PySem.W.keepIn K (.ref c5) = true)
    (sc5c0 : PySem.W.subIn K (.ref c5) (.ref c0) = some false)
    (nc5c0 : (Value.ref c5 == Value.ref c0) = false)
    (sc5c1 : PySem.W.subIn K (.ref c5) (.ref c1) = some false)
    (nc5c1 : (Value.ref c5 == Value.ref c1) = false)
    (sc5c2 : PySem.W.subIn K (.ref c5) (.ref c2) = some false)
    (nc5c2 : (Value.ref c5 == Value.ref c2) = false)
    (sc5c3 : PySem.W.subIn K (.ref c5) (.ref c3) = some false)
    (nc5c3 : (Value.ref c5 == Value.ref c3) = false)
    (sc5c4 : PySem.W.subIn K (.ref c5) (.ref c4) = some false)
    (nc5c4 : (Value.ref c5 == Value.ref c4) = false)
    (xc5 : PySem.W.excIn K c5 [.type "ValueError", .type "Exception", .type "BaseException", .type "object"] "ValueError.__new__" = true)
    (hn : PySem.W.specialIn K (.builtin "object.__class__") "__get__" = some (some (.builtin "getset_descriptor.__get__")))
    (ht : PySem.W.takesIn K (.builtin "object.__class__") = some true)
    (ic0 : PySem.W.isClsIn K c0 = true)
    (tc0 : PySem.W.typeIn K (.ref c0) = some (.type "type"))
    (ic1 : PySem.W.isClsIn K c1 = true)
    (tc1 : PySem.W.typeIn K (.ref c1) = some (.type "type"))
    (ic2 : PySem.W.isClsIn K c2 = true)
    (tc2 : PySem.W.typeIn K (.ref c2) = some (.type "type"))
    (ic3 : PySem.W.isClsIn K c3 = true)
    (tc3 : PySem.W.typeIn K (.ref c3) = some (.type "type"))
    (ic4 : PySem.W.isClsIn K c4 = true)
    (tc4 : PySem.W.typeIn K (.ref c4) = some (.type "type"))
    (ic5 : PySem.W.isClsIn K c5 = true)
    (tc5 : PySem.W.typeIn K (.ref c5) = some (.type "type")) :
    LamX.LawAtS l w K CX0 36 63 "_law_script" mg fa h := by
  have e := hfa.symm.trans (PySem.W.mg_of X G a0)
  cases e
  have F0 := fun_mk (st := sL) l0 c0x k0
  have b0 := F0.binds (ps := PL) fun _ _ _ _ _ _ us hl => match us, hl with | [_], _ => rfl
  have A0 : FnAt K mg "law" sL PL fa _ := ⟨PySem.W.mg_of X G a0, F0, b0⟩
  have F1 := fun_mk (st := sL_at) l1 c1x k1
  have b1 := F1.binds (ps := PL_at) fun _ _ _ _ _ _ us hl => match us, hl with | [_, _], _ => rfl
  have A1 : FnAt K mg "_law_at" sL_at PL_at q1 _ := ⟨PySem.W.mg_of X G a1, F1, b1⟩
  have F2 := fun_mk (st := sL_widths) l2 c2x k2
  have b2 := F2.binds (ps := PL_widths) fun _ _ _ _ _ _ us hl => match us, hl with | [_], _ => rfl
  have A2 : FnAt K mg "_law_widths" sL_widths PL_widths q2 _ := ⟨PySem.W.mg_of X G a2, F2, b2⟩
  have F3 := fun_mk (st := sL_row) l3 c3x k3
  have b3 := F3.binds (ps := PL_row) fun _ _ _ _ _ _ us hl => match us, hl with | [_, _], _ => rfl
  have A3 : FnAt K mg "_law_row" sL_row PL_row q3 _ := ⟨PySem.W.mg_of X G a3, F3, b3⟩
  have F4 := fun_mk (st := sL_value) l4 c4x k4
  have b4 := F4.binds (ps := PL_value) fun _ _ _ _ _ _ us hl => match us, hl with | [_], _ => rfl
  have A4 : FnAt K mg "_law_value" sL_value PL_value q4 _ := ⟨PySem.W.mg_of X G a4, F4, b4⟩
  have F5 := fun_mk (st := sL_put) l5 c5x k5
  have b5 := F5.binds (ps := PL_put) fun _ _ _ _ _ _ us hl => match us, hl with | [_, _, _], _ => rfl
  have A5 : FnAt K mg "_law_put" sL_put PL_put q5 _ := ⟨PySem.W.mg_of X G a5, F5, b5⟩
  have F6 := fun_mk (st := sL_heap_of) l6 c6x k6
  have b6 := F6.binds (ps := PL_heap_of) fun _ _ _ _ _ _ us hl => match us, hl with | [_], _ => rfl
  have A6 : FnAt K mg "_law_heap_of" sL_heap_of PL_heap_of q6 _ := ⟨PySem.W.mg_of X G a6, F6, b6⟩
  have F7 := fun_mk (st := sL_whole) l7 c7x k7
  have b7 := F7.binds (ps := PL_whole) fun _ _ _ _ _ _ us hl => match us, hl with | [_], _ => rfl
  have A7 : FnAt K mg "_law_whole" sL_whole PL_whole q7 _ := ⟨PySem.W.mg_of X G a7, F7, b7⟩
  have F8 := fun_mk (st := sL_answer) l8 c8x k8
  have b8 := F8.binds (ps := PL_answer) fun _ _ _ _ _ _ us hl => match us, hl with | [_, _], _ => rfl
  have A8 : FnAt K mg "_law_answer" sL_answer PL_answer q8 _ := ⟨PySem.W.mg_of X G a8, F8, b8⟩
  have F9 := fun_mk (st := sL_some) l9 c9x k9
  have b9 := F9.binds (ps := PL_some) fun _ _ _ _ _ _ us hl => match us, hl with | [_, _], _ => rfl
  have A9 : FnAt K mg "_law_some" sL_some PL_some q9 _ := ⟨PySem.W.mg_of X G a9, F9, b9⟩
  have F10 := fun_mk (st := sL_wrong) l10 c10x k10
  have b10 := F10.binds (ps := PL_wrong) fun _ _ _ _ _ _ us hl => match us, hl with | [_, _, _, _, _], _ => rfl
  have A10 : FnAt K mg "_law_wrong" sL_wrong PL_wrong q10 _ := ⟨PySem.W.mg_of X G a10, F10, b10⟩
  have F11 := fun_mk (st := sL_said) l11 c11x k11
  have b11 := F11.binds (ps := PL_said) fun _ _ _ _ _ _ us hl => match us, hl with | [_, _], _ => rfl
  have A11 : FnAt K mg "_law_said" sL_said PL_said q11 _ := ⟨PySem.W.mg_of X G a11, F11, b11⟩
  have F12 := fun_mk (st := sL_no_view) l12 c12x k12
  have b12 := F12.binds (ps := PL_no_view) fun _ _ _ _ _ _ us hl => match us, hl with | [_, _], _ => rfl
  have A12 : FnAt K mg "_law_no_view" sL_no_view PL_no_view q12 _ := ⟨PySem.W.mg_of X G a12, F12, b12⟩
  have F13 := fun_mk (st := sL_word) l13 c13x k13
  have b13 := F13.binds (ps := PL_word) fun _ _ _ _ _ _ us hl => match us, hl with | [_], _ => rfl
  have A13 : FnAt K mg "_law_word" sL_word PL_word q13 _ := ⟨PySem.W.mg_of X G a13, F13, b13⟩
  have F14 := fun_mk (st := sheaped) l14 c14x k14
  have b14 := F14.binds (ps := Pheaped) fun _ _ _ _ _ _ us hl => match us, hl with | [_], _ => rfl
  have A14 : FnAt K mg "heaped" sheaped Pheaped q14 _ := ⟨PySem.W.mg_of X G a14, F14, b14⟩
  have F15 := fun_mk (st := slisted) l15 c15x k15
  have b15 := F15.binds (ps := Plisted) fun _ _ _ _ _ _ us hl => match us, hl with | [_], _ => rfl
  have A15 : FnAt K mg "listed" slisted Plisted q15 _ := ⟨PySem.W.mg_of X G a15, F15, b15⟩
  have F16 := fun_mk (st := sadded) l16 c16x k16
  have b16 := F16.binds (ps := Padded) fun _ _ _ _ _ _ us hl => match us, hl with | [_, _], _ => rfl
  have A16 : FnAt K mg "added" sadded Padded q16 _ := ⟨PySem.W.mg_of X G a16, F16, b16⟩
  have F17 := fun_mk (st := sturned) l17 c17x k17
  have b17 := F17.binds (ps := Pturned) fun _ _ _ _ _ _ us hl => match us, hl with | [_], _ => rfl
  have A17 : FnAt K mg "turned" sturned Pturned q17 _ := ⟨PySem.W.mg_of X G a17, F17, b17⟩
  have F18 := fun_mk (st := scolumns) l18 c18x k18
  have b18 := F18.binds (ps := Pcolumns) fun _ _ _ _ _ _ us hl => match us, hl with | [_, _], _ => rfl
  have A18 : FnAt K mg "columns" scolumns Pcolumns q18 _ := ⟨PySem.W.mg_of X G a18, F18, b18⟩
  have F19 := fun_mk (st := sonce) l19 c19x k19
  have b19 := F19.binds (ps := Ponce) fun _ _ _ _ _ _ us hl => match us, hl with | [_], _ => rfl
  have A19 : FnAt K mg "once" sonce Ponce q19 _ := ⟨PySem.W.mg_of X G a19, F19, b19⟩
  have F20 := fun_mk (st := s_picked_numbers) l20 c20x k20
  have b20 := F20.binds (ps := P_picked_numbers) fun _ _ _ _ _ _ us hl => match us, hl with | [_, _], _ => rfl
  have A20 : FnAt K mg "_picked_numbers" s_picked_numbers P_picked_numbers q20 _ := ⟨PySem.W.mg_of X G a20, F20, b20⟩
  have F21 := fun_mk (st := sanswered) l21 c21x k21
  have b21 := F21.binds (ps := Panswered) fun _ _ _ _ _ _ us hl => match us, hl with | [_, _], _ => rfl
  have A21 : FnAt K mg "answered" sanswered Panswered q21 _ := ⟨PySem.W.mg_of X G a21, F21, b21⟩
  have F22 := fun_mk (st := swidth_of) l22 c22x k22
  have b22 := F22.binds (ps := Pwidth_of) fun _ _ _ _ _ _ us hl => match us, hl with | [_, _], _ => rfl
  have A22 : FnAt K mg "width_of" swidth_of Pwidth_of q22 _ := ⟨PySem.W.mg_of X G a22, F22, b22⟩
  have F23 := fun_mk (st := s_told_width) l23 c23x k23
  have b23 := F23.binds (ps := P_told_width) fun _ _ _ _ _ _ us hl => match us, hl with | [_, _], _ => rfl
  have A23 : FnAt K mg "_told_width" s_told_width P_told_width q23 _ := ⟨PySem.W.mg_of X G a23, F23, b23⟩
  have F24 := fun_mk (st := s_table_width) l24 c24x k24
  have b24 := F24.binds (ps := P_table_width) fun _ _ _ _ _ _ us hl => match us, hl with | [_, _], _ => rfl
  have A24 : FnAt K mg "_table_width" s_table_width P_table_width q24 _ := ⟨PySem.W.mg_of X G a24, F24, b24⟩
  have F25 := fun_mk (st := s_width_with) l25 c25x k25
  have b25 := F25.binds (ps := P_width_with) fun _ _ _ _ _ _ us hl => match us, hl with | [_, _, _], _ => rfl
  have A25 : FnAt K mg "_width_with" s_width_with P_width_with q25 _ := ⟨PySem.W.mg_of X G a25, F25, b25⟩
  have F26 := fun_mk (st := s_columns_width) l26 c26x k26
  have b26 := F26.binds (ps := P_columns_width) fun _ _ _ _ _ _ us hl => match us, hl with | [_, _, _], _ => rfl
  have A26 : FnAt K mg "_columns_width" s_columns_width P_columns_width q26 _ := ⟨PySem.W.mg_of X G a26, F26, b26⟩
  have F27 := fun_mk (st := s_like_width) l27 c27x k27
  have b27 := F27.binds (ps := P_like_width) fun _ _ _ _ _ _ us hl => match us, hl with | [_, _, _], _ => rfl
  have A27 : FnAt K mg "_like_width" s_like_width P_like_width q27 _ := ⟨PySem.W.mg_of X G a27, F27, b27⟩
  have F28 := fun_mk (st := s_meet_width) l28 c28x k28
  have b28 := F28.binds (ps := P_meet_width) fun _ _ _ _ _ _ us hl => match us, hl with | [_, _, _, _], _ => rfl
  have A28 : FnAt K mg "_meet_width" s_meet_width P_meet_width q28 _ := ⟨PySem.W.mg_of X G a28, F28, b28⟩
  have F29 := fun_mk (st := s_reach_width) l29 c29x k29
  have b29 := F29.binds (ps := P_reach_width) fun _ _ _ _ _ _ us hl => match us, hl with | [_, _], _ => rfl
  have A29 : FnAt K mg "_reach_width" s_reach_width P_reach_width q29 _ := ⟨PySem.W.mg_of X G a29, F29, b29⟩
  have F30 := fun_mk (st := s_check_columns) l30 c30x k30
  have b30 := F30.binds (ps := P_check_columns) fun _ _ _ _ _ _ us hl => match us, hl with | [_, _], _ => rfl
  have A30 : FnAt K mg "_check_columns" s_check_columns P_check_columns q30 _ := ⟨PySem.W.mg_of X G a30, F30, b30⟩
  have F31 := fun_mk (st := s_two_widths) l31 c31x k31
  have b31 := F31.binds (ps := P_two_widths) fun _ _ _ _ _ _ us hl => match us, hl with | [_, _, _], _ => rfl
  have A31 : FnAt K mg "_two_widths" s_two_widths P_two_widths q31 _ := ⟨PySem.W.mg_of X G a31, F31, b31⟩
  have Fm0 := fun_mk (st := sM__init__) lm0 cm0x km0
  have bm0 := Fm0.binds (ps := PM__init__) fun _ _ _ _ _ _ us hl => match us, hl with | [_, _], _ => rfl
  have Am0 : MtAt K C "__init__" "Keeper.__init__" sM__init__ PM__init__ qm0 _ := ⟨⟨am0, im0, km0⟩, Fm0, bm0⟩
  have Fm1 := fun_mk (st := sMput) lm1 cm1x km1
  have bm1 := Fm1.binds (ps := PMput) fun _ _ _ _ _ _ us hl => match us, hl with | [_, _], _ => rfl
  have Am1 : MtAt K C "put" "Keeper.put" sMput PMput qm1 _ := ⟨⟨am1, im1, km1⟩, Fm1, bm1⟩
  have Fm2 := fun_mk (st := sMchange) lm2 cm2x km2
  have bm2 := Fm2.binds (ps := PMchange) fun _ _ _ _ _ _ us hl => match us, hl with | [_, _, _], _ => rfl
  have Am2 : MtAt K C "change" "Keeper.change" sMchange PMchange qm2 _ := ⟨⟨am2, im2, km2⟩, Fm2, bm2⟩
  have Fm3 := fun_mk (st := sManswer) lm3 cm3x km3
  have bm3 := Fm3.binds (ps := PManswer) fun _ _ _ _ _ _ us hl => match us, hl with | [_, _], _ => rfl
  have Am3 : MtAt K C "answer" "Keeper.answer" sManswer PManswer qm3 _ := ⟨⟨am3, im3, km3⟩, Fm3, bm3⟩
  have Fm4 := fun_mk (st := sM_check_table) lm4 cm4x km4
  have bm4 := Fm4.binds (ps := PM_check_table) fun _ _ _ _ _ _ us hl => match us, hl with | [_, _], _ => rfl
  have Am4 : MtAt K C "_check_table" "Keeper._check_table" sM_check_table PM_check_table qm4 _ := ⟨⟨am4, im4, km4⟩, Fm4, bm4⟩
  have Fm5 := fun_mk (st := sM_changed) lm5 cm5x km5
  have bm5 := Fm5.binds (ps := PM_changed) fun _ _ _ _ _ _ us hl => match us, hl with | [_, _, _], _ => rfl
  have Am5 : MtAt K C "_changed" "Keeper._changed" sM_changed PM_changed qm5 _ := ⟨⟨am5, im5, km5⟩, Fm5, bm5⟩
  have Fm6 := fun_mk (st := sM_renewed) lm6 cm6x km6
  have bm6 := Fm6.binds (ps := PM_renewed) fun _ _ _ _ _ _ us hl => match us, hl with | [_, _], _ => rfl
  have Am6 : MtAt K C "_renewed" "Keeper._renewed" sM_renewed PM_renewed qm6 _ := ⟨⟨am6, im6, km6⟩, Fm6, bm6⟩
  have B2 : Bt mg := ⟨PySem.W.mg_none_of X G zlen, PySem.W.mg_none_of X G zrange, PySem.W.mg_none_of X G ztuple, PySem.W.mg_none_of X G zlist, PySem.W.mg_none_of X G zint, PySem.W.mg_none_of X G zbool, PySem.W.mg_none_of X G zisinstance, PySem.W.mg_none_of X G zmin, PySem.W.mg_none_of X G zreversed⟩
  have B : B8 mg := ⟨PySem.W.mg_none_of X G zlen, PySem.W.mg_none_of X G zrange, PySem.W.mg_none_of X G ztuple, PySem.W.mg_none_of X G zlist, PySem.W.mg_none_of X G zint, PySem.W.mg_none_of X G zbool, PySem.W.mg_none_of X G zisinstance, PySem.W.mg_none_of X G zsorted, PySem.W.mg_none_of X G zany⟩
  have Z : ClsF K C := ⟨⟨clg, cld, clo, cls⟩, nw, nh, nv, na⟩
  have MK : Mk K C qm0 := ⟨mk, am0, im0, kpC⟩
  have Ec3 : ExcC K c3 := ⟨hgc3, hkc3, hsc3, hdc3, hac3, hn, ht, hmc3⟩
  have Zc3 : ErrK K c3 c0 c1 c2 c3 c4 c5 3 := ⟨Ec3, kit_no ic0 tc0 sc3c0 nc3c0, kit_no ic1 tc1 sc3c1 nc3c1, kit_no ic2 tc2 sc3c2 nc3c2, if_pos (beq_self_eq_true _), kit_no ic4 tc4 sc3c4 nc3c4, kit_no ic5 tc5 sc3c5 nc3c5, sVc3⟩
  have Ec4 : ExcC K c4 := ⟨hgc4, hkc4, hsc4, hdc4, hac4, hn, ht, hmc4⟩
  have Zc4 : ErrK K c4 c0 c1 c2 c3 c4 c5 4 := ⟨Ec4, kit_no ic0 tc0 sc4c0 nc4c0, kit_no ic1 tc1 sc4c1 nc4c1, kit_no ic2 tc2 sc4c2 nc4c2, kit_no ic3 tc3 sc4c3 nc4c3, if_pos (beq_self_eq_true _), kit_no ic5 tc5 sc4c5 nc4c5, sVc4⟩
  have Ec5 : ExcC K c5 := ⟨hgc5, hkc5, hsc5, hdc5, hac5, hn, ht, hmc5⟩
  have Zc5 : ErrK K c5 c0 c1 c2 c3 c4 c5 5 := ⟨Ec5, kit_no ic0 tc0 sc5c0 nc5c0, kit_no ic1 tc1 sc5c1 nc5c1, kit_no ic2 tc2 sc5c2 nc5c2, kit_no ic3 tc3 sc5c3 nc5c3, kit_no ic4 tc4 sc5c4 nc5c4, if_pos (beq_self_eq_true _), sVc5⟩
  have GE : ErrG mg c0 c1 c2 c3 c4 c5 := ⟨PySem.W.mg_of X G ac0, PySem.W.mg_of X G ac1, PySem.W.mg_of X G ac2, PySem.W.mg_of X G ac3, PySem.W.mg_of X G ac4, PySem.W.mg_of X G ac5, PySem.W.mg_none_of X G zValueError⟩
  have gE := PySem.W.mg_of X G acErr
  have RV : Rs K mg c3 tk := ⟨PySem.W.mg_of X G ac3, xc3, kCc3, hsc3, tc3, PySem.W.mg_none_of X G zany, PySem.W.mg_of X G aWIDEST⟩
  have RF : RsE K mg "Full" c4 := ⟨PySem.W.mg_of X G ac4, xc4, kCc4, hsc4, tc4⟩
  have RN : RsE K mg "NoView" c5 := ⟨PySem.W.mg_of X G ac5, xc5, kCc5, hsc5, tc5⟩
  have hA := PySem.W.codeHd_of_K X tA
  have hB := PySem.W.codeHd_of_K X tB
  have main : ∀ base : Heap, K.In base → base.Ns mainGlobals mg → LamX.TabB base mg cA P0 → LamX.TabB base mg cB P1 → FnOk l.prog w K mg base CX0 36 fa _ PL (spLaw K P0 P1) := fun base _ _ TA TB => by
    have Gans : FnOk l.prog w K mg base CX0 4 q21 _ Panswered (spAns fun _ => True) := ok_ans A21 A16 A14 A19 A18 A20 B
    have Gchk : FnOk l.prog w K mg base (L2N.CX l.prog w) 1 q30 _ P_check_columns (spCheck K c3 P0) := ok_check (k := 0) l30 c30x ⟨TA.code, TA.bm, TA.gP⟩ RV
    have Gwof := ok_wof (P := l.prog) (w := w) (base := base) A22 A23 A24 A25 A26 A27 A28 A29 A30 A31 B2 RV Gchk 8 (by omega)
    have Gput : FnOk l.prog w K mg base (L2N.CX l.prog w) 34 qm1 _ PMput (spPut C P0 c3 c4 8) := ok_put (M := 33) Am1 A22 A21 Gwof Gans (by omega) Z B RF (PySem.W.mg_of X G aMOST)
    have Gchg : FnOk l.prog w K mg base CX0 3 qm5 _ PM_changed (spChg C P1) := ok_chg (hm := ⟨am5, im5, km5⟩) lm5 cm5x ⟨TB.code, TB.bm, TB.gP⟩ Am4 A16 A14 Z B
    have Grn : FnOk l.prog w K mg base CX0 5 qm6 _ PM_renewed (spRn C) := ok_rn (k := 0) Am6 A21 A15 A16 A14 A17 Gans Z B
    have Gcg : FnOk l.prog w K mg base CX0 6 qm2 _ PMchange (spCg C P1) := ok_cg Am2 Am5 Am6 Gchg Grn Z B
    have Gaw : FnOk l.prog w K mg base (L2N.CX l.prog w) 2 qm3 _ PManswer (spAw C c5) := ok_aw (k := 0) Am3 A15 Z B RN
    have Gsaid : FnOk l.prog w K mg base CX0 35 q11 _ PL_said (spSaid C P0 8) := ok_said (M := 33) A11 A13 Am1 Z Gput B2 GE Zc3 Zc4 gE (PySem.W.exm_ref eE dE tE sEc3) (PySem.W.exm_ref eE dE tE sEc4)
    have Gnv : FnOk l.prog w K mg base CX0 3 q12 _ PL_no_view (spNv C) := ok_nv (M := 1) A12 A13 Am3 Z Gaw B2 GE Zc5 gE (PySem.W.exm_ref eE dE tE sEc5)
    exact ok_law (N := 0) A0 MK (PySem.W.mg_of X G aK) Am0 A1 A2 A3 A4 A5 Am2 Am3 A6 A7 A8 A9 A10 A11 A12 Z B B2 Gcg Gaw Gsaid Gnv
  have mem2 : ∀ {T : Addr × Addr → Prop}, T (cA, P0) → T (cB, P1) → ∀ p ∈ [(cA, P0), (cB, P1)], T p := fun a b p hp => by
    rcases List.mem_cons.mp hp with z | z
    · rw [z]; exact a
    · rw [List.mem_singleton.mp z]; exact b
  refine ⟨PySem.W.fnOf "law" "law" (defArgs sL) (defBody sL) (defScope sL) .none kV0 dc0 pm0 an0 cd0 ct0, [(cA, P0), (cB, P1)], spLaw K P0 P1, mem2 hT0 hT1, mem2 nA nB, mem2 hA hB, fun s v => .of_eq rfl, fun H a ns hl hb hH hS => ⟨a, ns, rfl, ⟨#[], hH _ List.mem_cons_self, trivial⟩, ⟨#[], hH _ (List.mem_cons_of_mem _ List.mem_cons_self), trivial⟩, hS, fun c hc => KP.bits_ge (n := NB) (hb c hc), hl, fun _ => rfl⟩, fun base h1 h2 hTB => ?_⟩
  exact (main base h1 h2 (hTB _ List.mem_cons_self) (hTB _ (List.mem_cons_of_mem _ List.mem_cons_self)))
end K08
open PySem PySem.W PyProof.Rows
local macro_rules | `(tactic| o_head ($_f:ident $K:term $a:term $e:term)) => `(tactic| o_head (PySem.W.kmHook $K $a $e [238, 306]))
set_option maxHeartbeats 0 in
theorem PySem.Challenge.cw_changeview_k08_views_put_holds : PySem.Challenge.rw_changeview_k08_views_put.Holds := by
  w_on; o_law; k_head; (case hw => w_witness2)
  k_fill
  refine LamX.walk_ofTsE (l := PySem.Challenge.rw_changeview_k08_views_put) (n := 63) (k := 36) (x := "_law_script") (CX := fun _ => L2.CX0) rfl (by decide) rfl ⟨rfl, by decide, by decide⟩ ?F (fun _ _ _ _ _ h => h)
  case F =>
    intro w mg fa h Y G hmg
    refine ⟨_, PySem.W.km_in_of Y, ?_⟩
    refine' K08.all_mk (P0 := 238) (P1 := 306) (PySem.W.km_in_of Y) G hmg (PySem.W.km_tabs_of Y _ (by simp)) (PySem.W.km_tabs_of Y _ (by simp)) ?a0 ?l0 ?c0x ?k0 ?a1 ?l1 ?c1x ?k1 ?a2 ?l2 ?c2x ?k2 ?a3 ?l3 ?c3x ?k3 ?a4 ?l4 ?c4x ?k4 ?a5 ?l5 ?c5x ?k5 ?a6 ?l6 ?c6x ?k6 ?a7 ?l7 ?c7x ?k7 ?a8 ?l8 ?c8x ?k8 ?a9 ?l9 ?c9x ?k9 ?a10 ?l10 ?c10x ?k10 ?a11 ?l11 ?c11x ?k11 ?a12 ?l12 ?c12x ?k12 ?a13 ?l13 ?c13x ?k13 ?a14 ?l14 ?c14x ?k14 ?a15 ?l15 ?c15x ?k15 ?a16 ?l16 ?c16x ?k16 ?a17 ?l17 ?c17x ?k17 ?a18 ?l18 ?c18x ?k18 ?a19 ?l19 ?c19x ?k19 ?a20 ?l20 ?c20x ?k20 ?a21 ?l21 ?c21x ?k21 ?a22 ?l22 ?c22x ?k22 ?a23 ?l23 ?c23x ?k23 ?a24 ?l24 ?c24x ?k24 ?a25 ?l25 ?c25x ?k25 ?a26 ?l26 ?c26x ?k26 ?a27 ?l27 ?c27x ?k27 ?a28 ?l28 ?c28x ?k28 ?a29 ?l29 ?c29x ?k29 ?a30 ?l30 ?c30x ?k30 ?a31 ?l31 ?c31x ?k31 ?aK ?am0 ?im0 ?lm0 ?cm0x ?km0 ?am1 ?im1 ?lm1 ?cm1x ?km1 ?am2 ?im2 ?lm2 ?cm2x ?km2 ?am3 ?im3 ?lm3 ?cm3x ?km3 ?am4 ?im4 ?lm4 ?cm4x ?km4 ?am5 ?im5 ?lm5 ?cm5x ?km5 ?am6 ?im6 ?lm6 ?cm6x ?km6 ?clg ?cld ?clo ?cls ?nw ?nh ?nv ?na ?mk ?kpC ?tA ?nA ?tB ?nB ?aWIDEST ?aMOST ?ac0 ?ac1 ?ac2 ?ac3 ?ac4 ?ac5 ?acErr ?zlen ?zrange ?ztuple ?zlist ?zint ?zbool ?zisinstance ?zmin ?zreversed ?zsorted ?zany ?zValueError ?eE ?dE ?tE ?hgc3 ?hkc3 ?hsc3 ?hdc3 ?hac3 ?hmc3 ?sVc3 ?sEc3 ?kCc3 ?sc3c0 ?nc3c0 ?sc3c1 ?nc3c1 ?sc3c2 ?nc3c2 ?sc3c4 ?nc3c4 ?sc3c5 ?nc3c5 ?xc3 ?hgc4 ?hkc4 ?hsc4 ?hdc4 ?hac4 ?hmc4 ?sVc4 ?sEc4 ?kCc4 ?sc4c0 ?nc4c0 ?sc4c1 ?nc4c1 ?sc4c2 ?nc4c2 ?sc4c3 ?nc4c3 ?sc4c5 ?nc4c5 ?xc4 ?hgc5 ?hkc5 ?hsc5 ?hdc5 ?hac5 ?hmc5 ?sVc5 ?sEc5 ?kCc5 ?sc5c0 ?nc5c0 ?sc5c1 ?nc5c1 ?sc5c2 ?nc5c2 ?sc5c3 ?nc5c3 ?sc5c4 ?nc5c4 ?xc5 ?hn ?ht ?ic0 ?tc0 ?ic1 ?tc1 ?ic2 ?tc2 ?ic3 ?tc3 ?ic4 ?tc4 ?ic5 ?tc5
    (case a0 => k_is); (case l0 => k_is); (case c0x => k_is); (case k0 => k_is); (case a1 => k_is); (case l1 => k_is); (case c1x => k_is); (case k1 => k_is); (case a2 => k_is); (case l2 => k_is); (case c2x => k_is); (case k2 => k_is); (case a3 => k_is); (case l3 => k_is); (case c3x => k_is); (case k3 => k_is); (case a4 => k_is); (case l4 => k_is); (case c4x => k_is); (case k4 => k_is); (case a5 => k_is); (case l5 => k_is); (case c5x => k_is); (case k5 => k_is); (case a6 => k_is); (case l6 => k_is); (case c6x => k_is); (case k6 => k_is); (case a7 => k_is); (case l7 => k_is); (case c7x => k_is); (case k7 => k_is); (case a8 => k_is); (case l8 => k_is); (case c8x => k_is); (case k8 => k_is); (case a9 => k_is); (case l9 => k_is); (case c9x => k_is); (case k9 => k_is); (case a10 => k_is); (case l10 => k_is); (case c10x => k_is); (case k10 => k_is); (case a11 => k_is); (case l11 => k_is); (case c11x => k_is); (case k11 => k_is); (case a12 => k_is); (case l12 => k_is); (case c12x => k_is); (case k12 => k_is); (case a13 => k_is); (case l13 => k_is); (case c13x => k_is); (case k13 => k_is); (case a14 => k_is); (case l14 => k_is); (case c14x => k_is); (case k14 => k_is); (case a15 => k_is); (case l15 => k_is); (case c15x => k_is); (case k15 => k_is); (case a16 => k_is); (case l16 => k_is); (case c16x => k_is); (case k16 => k_is); (case a17 => k_is); (case l17 => k_is); (case c17x => k_is); (case k17 => k_is); (case a18 => k_is); (case l18 => k_is); (case c18x => k_is); (case k18 => k_is); (case a19 => k_is); (case l19 => k_is); (case c19x => k_is); (case k19 => k_is); (case a20 => k_is); (case l20 => k_is); (case c20x => k_is); (case k20 => k_is); (case a21 => k_is); (case l21 => k_is); (case c21x => k_is); (case k21 => k_is); (case a22 => k_is); (case l22 => k_is); (case c22x => k_is); (case k22 => k_is); (case a23 => k_is); (case l23 => k_is); (case c23x => k_is); (case k23 => k_is); (case a24 => k_is); (case l24 => k_is); (case c24x => k_is); (case k24 => k_is); (case a25 => k_is); (case l25 => k_is); (case c25x => k_is); (case k25 => k_is); (case a26 => k_is); (case l26 => k_is); (case c26x => k_is); (case k26 => k_is); (case a27 => k_is); (case l27 => k_is); (case c27x => k_is); (case k27 => k_is); (case a28 => k_is); (case l28 => k_is); (case c28x => k_is); (case k28 => k_is); (case a29 => k_is); (case l29 => k_is); (case c29x => k_is); (case k29 => k_is); (case a30 => k_is); (case l30 => k_is); (case c30x => k_is); (case k30 => k_is); (case a31 => k_is); (case l31 => k_is); (case c31x => k_is); (case k31 => k_is); (case aK => k_is); (case am0 => k_is); (case im0 => k_is); (case lm0 => k_is); (case cm0x => k_is); (case km0 => k_is); (case am1 => k_is); (case im1 => k_is); (case lm1 => k_is); (case cm1x => k_is); (case km1 => k_is); (case am2 => k_is); (case im2 => k_is); (case lm2 => k_is); (case cm2x => k_is); (case km2 => k_is); (case am3 => k_is); (case im3 => k_is); (case lm3 => k_is); (case cm3x => k_is); (case km3 => k_is); (case am4 => k_is); (case im4 => k_is); (case lm4 => k_is); (case cm4x => k_is); (case km4 => k_is); (case am5 => k_is); (case im5 => k_is); (case lm5 => k_is); (case cm5x => k_is); (case km5 => k_is); (case am6 => k_is); (case im6 => k_is); (case lm6 => k_is); (case cm6x => k_is); (case km6 => k_is); (case clg => k_is); (case cld => k_is); (case clo => k_is); (case cls => k_is); (case nw => k_is); (case nh => k_is); (case nv => k_is); (case na => k_is); (case mk => k_is); (case kpC => k_is); (case aWIDEST => k_is); (case aMOST => k_is); (case ac0 => k_is); (case ac1 => k_is); (case ac2 => k_is); (case ac3 => k_is); (case ac4 => k_is); (case ac5 => k_is); (case acErr => k_is); (case zlen => k_is); (case zrange => k_is); (case ztuple => k_is); (case zlist => k_is); (case zint => k_is); (case zbool => k_is); (case zisinstance => k_is); (case zmin => k_is); (case zreversed => k_is); (case zsorted => k_is); (case zany => k_is); (case zValueError => k_is); (case eE => k_is); (case dE => k_is); (case tE => k_is); (case hgc3 => k_is); (case hkc3 => k_is); (case hsc3 => k_is); (case hdc3 => k_is); (case hac3 => k_is); (case hmc3 => k_is); (case sVc3 => k_is); (case sEc3 => k_is); (case kCc3 => k_is); (case sc3c0 => k_is); (case sc3c1 => k_is); (case sc3c2 => k_is); (case sc3c4 => k_is); (case sc3c5 => k_is); (case hgc4 => k_is); (case hkc4 => k_is); (case hsc4 => k_is); (case hdc4 => k_is); (case hac4 => k_is); (case hmc4 => k_is); (case sVc4 => k_is); (case sEc4 => k_is); (case kCc4 => k_is); (case sc4c0 => k_is); (case sc4c1 => k_is); (case sc4c2 => k_is); (case sc4c3 => k_is); (case sc4c5 => k_is); (case hgc5 => k_is); (case hkc5 => k_is); (case hsc5 => k_is); (case hdc5 => k_is); (case hac5 => k_is); (case hmc5 => k_is); (case sVc5 => k_is); (case sEc5 => k_is); (case kCc5 => k_is); (case sc5c0 => k_is); (case sc5c1 => k_is); (case sc5c2 => k_is); (case sc5c3 => k_is); (case sc5c4 => k_is); (case hn => k_is); (case ht => k_is); (case ic0 => k_is); (case tc0 => k_is); (case ic1 => k_is); (case tc1 => k_is); (case ic2 => k_is); (case tc2 => k_is); (case ic3 => k_is); (case tc3 => k_is); (case ic4 => k_is); (case tc4 => k_is); (case ic5 => k_is); (case tc5 => k_is)
    (case nc3c0 => decide +kernel); (case nc3c1 => decide +kernel); (case nc3c2 => decide +kernel); (case nc3c4 => decide +kernel); (case nc3c5 => decide +kernel); (case nc4c0 => decide +kernel); (case nc4c1 => decide +kernel); (case nc4c2 => decide +kernel); (case nc4c3 => decide +kernel); (case nc4c5 => decide +kernel); (case nc5c0 => decide +kernel); (case nc5c1 => decide +kernel); (case nc5c2 => decide +kernel); (case nc5c3 => decide +kernel); (case nc5c4 => decide +kernel)
    (case tA => kernel_rfl); (case nA => kernel_rfl); (case tB => kernel_rfl); (case nB => kernel_rfl)
    (case xc3 => k_exc); (case xc4 => k_exc); (case xc5 => k_exc)

