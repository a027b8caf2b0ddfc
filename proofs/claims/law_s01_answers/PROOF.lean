import PyProof.Rows.All
import Wide.All
import OpenK.AllK
import Wide.FinOn
import PyKp417
import PyProof.EqAt
import PyProof.EqKinds
import PyProof.TupleCall
import Open.SpecLaws
import KE.OsGo
import PySem.Challenge.RW_policywatch_s01_answers
import HandS.ForSpec
import HandS.Comp
import HandS.Iter
import HandS.Walk
import HandS.Wide
import HandS.WideBits
import HandS.CallLocal
import HandS.SetFor
import HandS.ClsMeth
import HandS.HeadHook4
import HandS.Head4
import HandS.ExcSuper
import KE.KExcInit
import HandS.Text
/-! The mathematics: fractions in lowest terms, their sizes; no Python here. -/
namespace PW

/-! ### fractions -/
theorem mk_num {n : Int} {d : Nat} (h : d ≠ 0) : (mkRat n d).num = n / ((Nat.gcd n.natAbs d : Nat) : Int) := by
  rw [← Rat.normalize_eq_mkRat h, Rat.normalize_eq]
theorem mk_den {n : Int} {d : Nat} (h : d ≠ 0) : (mkRat n d).den = d / Nat.gcd n.natAbs d := by
  rw [← Rat.normalize_eq_mkRat h, Rat.normalize_eq]
theorem add_mk (x y : Rat) : x + y = mkRat (x.num * (y.den : Int) + y.num * (x.den : Int)) (x.den * y.den) := by
  rw [Rat.add_def, Rat.normalize_eq_mkRat]
theorem sub_mk (x y : Rat) : x - y = mkRat (x.num * (y.den : Int) - y.num * (x.den : Int)) (x.den * y.den) := by
  rw [Rat.sub_def, Rat.normalize_eq_mkRat]
theorem mul_mk (x y : Rat) : x * y = mkRat (x.num * y.num) (x.den * y.den) := by
  rw [Rat.mul_def, Rat.normalize_eq_mkRat]
theorem mk_self (x : Rat) : mkRat x.num x.den = x := Rat.mkRat_self x
theorem nat_div (a b : Nat) : (a : Rat) / (b : Rat) = mkRat (a : Int) b := by
  rw [Rat.mkRat_eq_div] <;> rfl
theorem inv_mk {y : Rat} (h : 0 < y.num) : y⁻¹ = mkRat (y.den : Int) y.num.toNat := by
  rw [Rat.inv_def]
  have e : y.num = ((y.num.toNat : Nat) : Int) := by omega
  rw [e, Rat.divInt_ofNat] <;> rfl
theorem div_mk {x y : Rat} (h : 0 < y.num) : x / y = mkRat (x.num * (y.den : Int)) (x.den * y.num.toNat) := by
  rw [Rat.div_def, inv_mk h]
  have e : x = mkRat x.num x.den := (mk_self x).symm
  conv => lhs; rw [e]
  rw [Rat.mkRat_mul_mkRat]
theorem gcd_dvd_int (n : Int) (d : Nat) : ((Nat.gcd n.natAbs d : Nat) : Int) ∣ n := Int.ofNat_dvd_left.mpr (Nat.gcd_dvd_left _ _)
theorem le_mk {x : Rat} {n : Int} {d : Nat} (h : d ≠ 0) : (x ≤ mkRat n d) ↔ x.num * (d : Int) ≤ n * (x.den : Int) := by
  have g0 : 0 < Nat.gcd n.natAbs d := Nat.gcd_pos_of_pos_right _ (Nat.pos_of_ne_zero h)
  have g1 : (0 : Int) < ((Nat.gcd n.natAbs d : Nat) : Int) := Int.natCast_pos.mpr g0
  have e1 : x.num * ((d / Nat.gcd n.natAbs d : Nat) : Int) * ((Nat.gcd n.natAbs d : Nat) : Int) = x.num * (d : Int) := by
    rw [Int.mul_assoc, ← Int.natCast_mul, Nat.div_mul_cancel (Nat.gcd_dvd_right _ _)]
  have e2 : n / ((Nat.gcd n.natAbs d : Nat) : Int) * (x.den : Int) * ((Nat.gcd n.natAbs d : Nat) : Int) = n * (x.den : Int) := by
    rw [Int.mul_right_comm, Int.ediv_mul_cancel (gcd_dvd_int n d)]
  rw [Rat.le_iff, mk_num h, mk_den h, ← e1, ← e2]
  constructor
  · intro q
    exact Int.mul_le_mul_of_nonneg_right q (Int.le_of_lt g1)
  · intro q
    exact Int.le_of_mul_le_mul_right q g1
theorem num_pos {x : Rat} : (0 < x.num) ↔ 0 < x := by
  rw [Rat.lt_iff]
  show 0 < x.num ↔ 0 * (x.den : Int) < x.num * ((1 : Nat) : Int)
  rw [Int.zero_mul, Int.natCast_one, Int.mul_one]
theorem num_zero {x : Rat} : (x.num = 0) ↔ x = 0 := Rat.num_eq_zero
theorem eq_iff {x y : Rat} : (x = y) ↔ x.num = y.num ∧ (x.den : Int) = (y.den : Int) := by
  constructor
  · rintro rfl; exact ⟨rfl, rfl⟩
  · rintro ⟨h1, h2⟩; exact Rat.ext h1 (Int.ofNat.inj h2)

/-! ### sizes -/
def Bd (x : Rat) (k : Nat) : Prop := x.num.natAbs < 2 ^ k ∧ x.den < 2 ^ k
theorem Bd.mono {x : Rat} {j k : Nat} (h : Bd x j) (hk : j ≤ k) : Bd x k :=
  ⟨Nat.lt_of_lt_of_le h.1 (Nat.pow_le_pow_right (by decide) hk), Nat.lt_of_lt_of_le h.2 (Nat.pow_le_pow_right (by decide) hk)⟩
theorem bd_mk {n : Int} {d k : Nat} (h1 : n.natAbs < 2 ^ k) (h2 : d < 2 ^ k) (hd : d ≠ 0) : Bd (mkRat n d) k := by
  refine ⟨?_, ?_⟩
  · rw [mk_num hd]
    refine Nat.lt_of_le_of_lt ?_ h1
    exact Int.natAbs_ediv_le_natAbs _ _
  · rw [mk_den hd]
    exact Nat.lt_of_le_of_lt (Nat.div_le_self _ _) h2
theorem lt_mul {a b j k : Nat} (ha : a < 2 ^ j) (hb : b < 2 ^ k) : a * b < 2 ^ (j + k) := by
  rw [Nat.pow_add]
  exact Nat.mul_lt_mul'' ha hb
theorem Bd.mul {x y : Rat} {j k : Nat} (hx : Bd x j) (hy : Bd y k) : Bd (x * y) (j + k) := by
  rw [mul_mk]
  refine bd_mk ?_ (lt_mul hx.2 hy.2) (Nat.mul_ne_zero x.den_nz y.den_nz)
  rw [Int.natAbs_mul]
  exact lt_mul hx.1 hy.1
theorem cross {x y : Rat} {j k : Nat} (hx : Bd x j) (hy : Bd y k) : (x.num * (y.den : Int)).natAbs < 2 ^ (j + k) := by
  rw [Int.natAbs_mul]
  exact lt_mul hx.1 hy.2
theorem Bd.add {x y : Rat} {j k : Nat} (hx : Bd x j) (hy : Bd y k) : Bd (x + y) (j + k + 1) := by
  rw [add_mk]
  have h1 := cross hx hy
  have h2 := cross hy hx
  rw [Nat.add_comm k j] at h2
  refine bd_mk ?_ (Nat.lt_trans (lt_mul hx.2 hy.2) (Nat.pow_lt_pow_right (by decide) (Nat.lt_succ_self _))) (Nat.mul_ne_zero x.den_nz y.den_nz)
  rw [Nat.pow_succ]
  omega
theorem Bd.sub {x y : Rat} {j k : Nat} (hx : Bd x j) (hy : Bd y k) : Bd (x - y) (j + k + 1) := by
  rw [sub_mk]
  have h1 := cross hx hy
  have h2 := cross hy hx
  rw [Nat.add_comm k j] at h2
  refine bd_mk ?_ (Nat.lt_trans (lt_mul hx.2 hy.2) (Nat.pow_lt_pow_right (by decide) (Nat.lt_succ_self _))) (Nat.mul_ne_zero x.den_nz y.den_nz)
  rw [Nat.pow_succ]
  omega
theorem Bd.div {x y : Rat} {j k : Nat} (hx : Bd x j) (hy : Bd y k) (h : 0 < y.num) : Bd (x / y) (j + k) := by
  rw [div_mk h]
  refine bd_mk (cross hx hy) (lt_mul hx.2 (by have := hy.1; omega)) (Nat.mul_ne_zero x.den_nz (by omega))
theorem bd0 : Bd 0 1 := by unfold Bd; decide
theorem bd1 : Bd 1 1 := by unfold Bd; decide
theorem bd_nat {a k : Nat} (h : a < 2 ^ k) (hk : 1 ≤ k) : Bd (a : Rat) k := by
  refine ⟨?_, ?_⟩
  · show (a : Int).natAbs < _
    rw [Int.natAbs_natCast]; exact h
  · show 1 < 2 ^ k
    exact Nat.lt_of_lt_of_le (by decide : 1 < 2 ^ 1) (Nat.pow_le_pow_right (by decide) hk)
theorem natRat_num (a : Nat) : ((a : Nat) : Rat).num = (a : Int) := rfl
theorem natRat_den (a : Nat) : ((a : Nat) : Rat).den = 1 := rfl

/-! ### sums -/
theorem foldl_sum : ∀ (l : List Rat) (a : Rat), l.foldl (fun x y => x + y) a = a + l.sum
  | [], a => by rw [List.sum_nil, Rat.add_zero]; rfl
  | x :: l, a => by
    show l.foldl (fun x y => x + y) (a + x) = _
    rw [foldl_sum l (a + x), List.sum_cons, Rat.add_assoc]
theorem sum_total (l : List Rat) : l.foldl (fun x y => x + y) 0 = l.sum := by rw [foldl_sum, Rat.zero_add]
theorem bd_fold {k : Nat} : ∀ (l : List Rat) (a : Rat) (j : Nat), Bd a j → (∀ x ∈ l, Bd x k) → Bd (l.foldl (fun x y => x + y) a) (j + l.length * (k + 1))
  | [], a, j, h, _ => by simpa using h
  | x :: l, a, j, h, hl => by
    have := bd_fold l (a + x) (j + k + 1) (h.add (hl x (List.mem_cons_self ..))) fun y hy => hl y (List.mem_cons_of_mem _ hy)
    refine this.mono ?_
    rw [List.length_cons, Nat.succ_mul]
    omega
theorem bd_sum {k n : Nat} {l : List Rat} (hl : ∀ x ∈ l, Bd x k) (hn : l.length ≤ n) : Bd l.sum (1 + n * (k + 1)) := by
  rw [← sum_total]
  refine (bd_fold l 0 1 bd0 hl).mono ?_
  have := Nat.mul_le_mul_right (k + 1) hn
  omega

/-! ### shares -/
open Kp415 in
theorem share_mk (ws : List Nat) (s : Nat) : share ws s = mkRat ((ws.getD s 0 : Nat) : Int) ws.sum := by
  unfold share
  rw [nat_div]
theorem mk_zero (d : Nat) : mkRat 0 d = 0 := Rat.zero_mkRat d
theorem mk_add_same (a b : Int) (d : Nat) : mkRat a d + mkRat b d = mkRat (a + b) d := by
  rw [Rat.mkRat_eq_div, Rat.mkRat_eq_div, Rat.mkRat_eq_div, Rat.div_def, Rat.div_def, Rat.div_def, ← Rat.add_mul, ← Rat.intCast_add]
theorem sum_mk (d : Nat) : ∀ (l : List Nat), (l.map fun (n : Nat) => mkRat (n : Int) d).sum = mkRat ((l.sum : Nat) : Int) d
  | [] => by rw [List.map_nil, List.sum_nil, List.sum_nil]; exact (mk_zero d).symm
  | a :: l => by
    rw [List.map_cons, List.sum_cons, sum_mk d l, mk_add_same, List.sum_cons]
    rfl
/-- the weights of the signals in the set -/
def inside (ws : List Nat) (set : Nat) : List Nat := ((List.range ws.length).filter fun s => Kp415.contains set s).map fun s => ws.getD s 0
theorem setShare_mk (ws : List Nat) (set : Nat) : Kp415.setShare ws set = mkRat (((inside ws set).sum : Nat) : Int) ws.sum := by
  unfold Kp415.setShare inside
  rw [← sum_mk, List.map_map]
  congr 1
  refine List.map_congr_left fun s _ => ?_
  exact share_mk ws s
theorem getD_le_sum : ∀ (ws : List Nat) (s : Nat), ws.getD s 0 ≤ ws.sum
  | [], s => by simp
  | a :: l, 0 => by simp
  | a :: l, s + 1 => by
    have := getD_le_sum l s
    simp only [List.getD_cons_succ, List.sum_cons]
    omega
theorem filt_sum_le (p : Nat → Bool) (f : Nat → Nat) : ∀ l : List Nat, ((l.filter p).map f).sum ≤ (l.map f).sum
  | [] => by simp
  | a :: l => by
    have := filt_sum_le p f l
    by_cases h : p a = true
    · rw [List.filter_cons_of_pos h]; simp only [List.map_cons, List.sum_cons]; omega
    · rw [List.filter_cons_of_neg h]; simp only [List.map_cons, List.sum_cons]; omega
theorem map_getD (ws : List Nat) : (List.range ws.length).map (fun s => ws.getD s 0) = ws := by
  apply List.ext_getElem
  · simp
  · intro i h1 h2
    simp
    rw [List.getElem?_eq_getElem h2]; rfl
theorem inside_le (ws : List Nat) (set : Nat) : (inside ws set).sum ≤ ws.sum := by
  have := filt_sum_le (fun s => Kp415.contains set s) (fun s => ws.getD s 0) (List.range ws.length)
  rw [map_getD] at this
  exact this
/-- weights that the document lets be (merges too): a sum that is not 0, below 4096 -/
structure WOk (n : Nat) (ws : List Nat) : Prop where
  len : ws.length = n
  pos : ws.sum ≠ 0
  lt : ws.sum < 4096
theorem bd_share {n : Nat} {ws : List Nat} (h : WOk n ws) (s : Nat) : Bd (Kp415.share ws s) 12 := by
  rw [share_mk]
  refine bd_mk ?_ h.lt h.pos
  rw [Int.natAbs_natCast]
  exact Nat.lt_of_le_of_lt (getD_le_sum ws s) h.lt
theorem bd_setShare {n : Nat} {ws : List Nat} (h : WOk n ws) (s : Nat) : Bd (Kp415.setShare ws s) 12 := by
  rw [setShare_mk]
  refine bd_mk ?_ h.lt h.pos
  rw [Int.natAbs_natCast]
  exact Nat.lt_of_le_of_lt (inside_le ws s) h.lt
theorem mk_nonneg (a d : Nat) : 0 ≤ mkRat (a : Int) d := by
  rw [← Rat.divInt_ofNat]
  exact Rat.divInt_nonneg (Int.natCast_nonneg a) (Int.natCast_nonneg d)
theorem share_nonneg (ws : List Nat) (s : Nat) : 0 ≤ Kp415.share ws s := by rw [share_mk]; exact mk_nonneg _ _
end PW
set_option Elab.async false
set_option linter.all false
set_option maxRecDepth 100000
set_option maxHeartbeats 4000000
namespace PW
open PySem PySem.Spec PyProof.Rows L2

/-! ### the text -/
def topS (i : Nat) : Stmt := PySem.Challenge.pw_policywatch_s01_answers.main.body.getD i (.Pass ⟨0, 0, 0, 0⟩)

/-! ### a def of the top, as it stands behind the top -/
structure Df (K : PySem.W.Frag) (mg : Str → Option Value) (x : Str) (st : Stmt) : Prop where
  ex : ∃ (f : Addr) (fd : FuncData), Fun K x x st f fd ∧ mg x = some (.ref f)
/-- a def of the top that keeps its promise -/
structure Cal (P : Program) (w : World) (K : PySem.W.Frag) (mg : Str → Option Value) (base : Heap) (CX : CXT) (k : Nat) (x : Str) (sp : Sp) : Prop where
  ex : ∃ (f : Addr) (fd : FuncData) (ps : List Str), FnOk P w K mg base CX k f fd ps sp ∧ mg x = some (.ref f) ∧ PySem.W.keepIn K (.ref f) = true ∧ Binds K fd ps []
abbrev BindsBy (st : Stmt) (x : Str) (ps : List Str) : Prop := ∀ (kV doc pm : Value) (an : Option Addr) (cdv ct : Value) (us : List Value), us.length = ps.length →
  bindArgs (PySem.W.fnOf x x (defArgs st) (defBody st) (defScope st) .none kV doc pm an cdv ct) ⟨us, []⟩ = pure (ps.zip us)
section
variable {P : Program} {w : World} {K : PySem.W.Frag} {mg : Str → Option Value} {base : Heap}
theorem Df.ok0 {x : Str} {st : Stmt} {N ps : List Str} {k : Nat} {sp : Sp} (D : Df K mg x st) (S : FnScope N ps (defScope st)) (bd : BindsBy st x ps) (len : ∀ vs H Q E, sp vs H Q E → vs.length = ps.length)
    (hbody : ∀ (f : Addr) (cdv : Value) (A : Around) (outer : List Env) (s : Shared) (H : Hp) (vs : List V) (Q : VK) (E : XK), Room k (A.deeper (envOfC x (defScope st) s.heap.objs.size f cdv)) → sp vs H Q E →
      ∃ t, PSs (cxOf CX0 P w K mg base N x (defScope st) f cdv A outer s H E).nox (defBody st) t ∧ t { nx := fun _ H' => Q .non H', rt := Q } (start N vs) H) : Cal P w K mg base CX0 (k + 1) x sp := by
  obtain ⟨f, fd, F, g⟩ := D.ex
  exact ⟨f, fd, ps, F.ok S len (hbody f), g, F.kp, F.binds bd⟩
theorem Df.okX {x : Str} {st : Stmt} {N ps : List Str} {k : Nat} {sp : Sp} (D : Df K mg x st) (S : FnScope N ps (defScope st)) (bd : BindsBy st x ps) (len : ∀ vs H Q E, sp vs H Q E → vs.length = ps.length)
    (hbody : ∀ (f : Addr) (cdv : Value) (A : Around) (outer : List Env) (s : Shared) (H : Hp) (vs : List V) (Q : VK) (E : XK), Room k (A.deeper (envOfC x (defScope st) s.heap.objs.size f cdv)) → sp vs H Q E →
      ∃ t, PSs (cxOf (L2.CX P w) P w K mg base N x (defScope st) f cdv A outer s H E) (defBody st) t ∧ t { nx := fun _ H' => Q .non H', rt := Q } (start N vs) H) : Cal P w K mg base (L2.CX P w) (k + 1) x sp := by
  obtain ⟨f, fd, F, g⟩ := D.ex
  exact ⟨f, fd, ps, F.okX S len (hbody f), g, F.kp, F.binds bd⟩
theorem Cal.imp {CX : CXT} {k : Nat} {x : Str} {sp sp' : Sp} (C : Cal P w K mg base CX k x sp) (h : ∀ vs H Q E, sp' vs H Q E → sp vs H Q E) : Cal P w K mg base CX k x sp' := by
  obtain ⟨f, fd, ps, F, g, kp, b⟩ := C.ex
  exact ⟨f, fd, ps, F.imp h, g, kp, b⟩
end
/-- f(e, ..) by such a def -/
def tCal (sp : Sp) (E : XK) (t : TA) : TE := fun σ H Q => t σ H fun vs H1 => sp vs H1 Q E
section
variable {X : Cx} {CX : CXT} {k : Nat} {x : Str} {sp : Sp} {E : XK} {p pos : Pos} {e : Expr} {es : List Expr} {t : TA}
theorem pe_cal (C : Cal X.prog X.w X.K X.mg X.base CX k x sp) (hr : Room k X.A) (hx : Passes CX X E) (ha : PA X (e :: es) t) (hg : Gl X x := by rfl) (hdb : (x == ("__debug__" : Str)) = false := by decide)
    (he : starEach (e :: es) X.env = (false, eval e X.env) :: starEach es X.env := by rfl) (hpl : (backTo pos (starEach es X.env)).any (·.1) = false := by rfl) : PE X (.Call (.Name x p) (e :: es) [] pos) (tCal sp E t) := by
  obtain ⟨f, fd, ps, F, g, kp, b⟩ := C.ex
  have z := pe_call (dvs := []) (pos := pos) (p := p) F hr hg g kp b .nil hx ha hdb he hpl
  exact ⟨fun pins s σ H Q I h => z.run pins s σ H Q I (by
    show t σ H fun vs H1 => sp (vs ++ []) H1 Q E
    simp only [List.append_nil]
    exact h)⟩
end

/-- a list of numbers that are not below 0 -/
def natL (ns : List Nat) : List V := ns.map fun (n : Nat) => V.int (n : Int)
/-! ### a module's number, fields of one's own class, its making -/
section
variable {X : Cx} {o e value : Expr} {f x : Str} {pos pos' p : Pos} {ta tv : TE} {C : Addr}
theorem pe_gint {i : Int} (h : ∃ t, X.mg x = some (.int i t)) (hg : Gl X x := by rfl) (hd : (x == ("__debug__" : Str)) = false := by decide) : PE X (.Name x pos) (tC (.int i)) := by
  obtain ⟨t, h⟩ := h
  exact pe_glob hg h ⟨t, rfl⟩ hd
/-- e.f of an instance of the class at C -/
def tFldC (C : Addr) (ta : TE) (f : Str) : TE := fun σ H Q => ta σ H fun x H1 => ∃ a dx fs v, x = .ref a ∧ H1 a = some (.ins C dx fs) ∧ fs.lookup f = some v ∧ Q v H1
/-- e.f = value -/
def sFldC (C : Addr) (ta tv : TE) (f : Str) : TS := fun D σ H => tv σ H fun y H1 => ta σ H1 fun x H2 => ∃ a dx fs, x = .ref a ∧ H2 a = some (.ins C dx fs) ∧ fs.length < 1000 ∧ D.nx σ (upd H2 a (.ins C dx (putF f y fs)))
theorem pe_fldC (c : Cls X.K C) (n : NoAttr X.K C f) (he : PE X e ta) (hb : attributeBase e f X.env (eval e X.env) = eval e X.env := by rfl) : PE X (.Attribute e f pos) (tFldC C ta f) := by
  refine ⟨fun pins s σ H Q I q => ?_⟩
  refine attr_of hb (thn (he.run pins s σ H _ I q) fun u s1 hh => ?_)
  obtain ⟨x, H1, I1, rx, a, dx, fs, v, rfl, ea, l, q1⟩ := hh
  cases rx
  exact getattr_ok I1 ea c n l fun u2 s2 I2 ru => ⟨v, H1, I2, ru, q1⟩
theorem ps_fldC (c : Cls X.K C) (n : NoAttr X.K C f) (ha : PE X o ta) (hv : PE X value tv) (hs : swapsWith value (some (.Attribute o f pos')) pos.line X.env = pure false := by rfl) : PS X (.Assign [.Attribute o f pos'] value pos) (sFldC C ta tv f) := by
  refine ⟨fun pins s σ H D I q => ?_⟩
  refine plainObj_wpAny_Assign_Attribute (thn (hv.run pins s σ H _ I q) fun u s1 h1 => ?_) hs
  obtain ⟨y, H1, I1, ry, q1⟩ := h1
  refine thn (ha.run pins s1 σ H1 _ I1 q1) fun ov s2 h2 => ?_
  obtain ⟨x, H2, I2, rx, a, dx, fs, rfl, ea, l, q2⟩ := h2
  cases rx
  exact setattr_ok I2 ea c n l ry fun s3 I3 => ⟨σ, _, I3, q2⟩
theorem OpR.weak {g : Value → Value → Sem Value} {r r' : R2} (h : OpR X g r) (i : ∀ x y H Q, r' x y H Q → r x y H Q) : OpR X g r' := fun pins s σ H x y v u Q I rx ry q => h pins s σ H x y v u Q I rx ry (i x y H Q q)
theorem CallR.weak {g : Value} {r r' : List V → Hp → VK → Prop} (h : CallR X g r) (i : ∀ xs H Q, r' xs H Q → r xs H Q) : CallR X g r' := fun pins s σ H xs us Q I rx q => h pins s σ H xs us Q I rx (i xs H Q q)
theorem IxR.weak {r r' : R2} (h : IxR X r) (i : ∀ x y H Q, r' x y H Q → r x y H Q) : IxR X r' := fun a b pins s σ H x y v u Q I rx ry q => h a b pins s σ H x y v u Q I rx ry (i x y H Q q)
/-- t[n], a tuple of the heap -/
theorem ixT : IxR X (fun x y H Q => ∃ p xs n v, x = .ref p ∧ y = .int ((n : Nat) : Int) ∧ H p = some (.tup xs) ∧ xs[n]? = some v ∧ Q v H) := IxR.weak ix_tup fun x y H Q ⟨p, xs, n, v, h1, h2, h3, h4, h5⟩ =>
  ⟨p, xs, _, v, h1, h2, SqT.of h3, atI_nat h4, h5⟩
/-- xs[n], a list of the heap -/
theorem ixL : IxR X (fun x y H Q => ∃ p xs n v, x = .ref p ∧ y = .int ((n : Nat) : Int) ∧ H p = some (.lst xs) ∧ xs[n]? = some v ∧ Q v H) := IxR.weak ix_list fun x y H Q ⟨p, xs, n, v, h1, h2, h3, h4, h5⟩ =>
  ⟨p, xs, _, v, h1, h2, SqL.of h3, atI_nat h4, h5⟩
theorem eqI : OpR X (compareOp .Eq) (rI0 fun i j => .bl (decide (i = j))) := OpR.weak op_eq fun x y H Q ⟨i, j, h1, h2, h3⟩ => by
  subst h1
  subst h2
  refine ⟨rfl, ?_⟩
  have e : decide (V.int i = V.int j) = decide (i = j) := by
    by_cases z : i = j
    · subst z; simp
    · rw [decide_eq_false z, decide_eq_false fun q => z (V.int.inj q)]
  rw [e]
  exact h3
theorem neI : OpR X (compareOp .NotEq) (rI0 fun i j => .bl (!decide (i = j))) := OpR.weak op_ne fun x y H Q ⟨i, j, h1, h2, h3⟩ => by
  subst h1
  subst h2
  refine ⟨rfl, ?_⟩
  have e : decide (V.int i = V.int j) = decide (i = j) := by
    by_cases z : i = j
    · subst z; simp
    · rw [decide_eq_false z, decide_eq_false fun q => z (V.int.inj q)]
  rw [e]
  exact h3
/-- len(xs), list(t): of the heap -/
theorem lenL : CallR X (.builtin "len") (fun xs H Q => ∃ p ys, xs = [.ref p] ∧ H p = some (.lst ys) ∧ Q (.int ys.length) H) := CallR.weak call_len_seq fun xs H Q ⟨p, ys, h1, h2, h3⟩ => ⟨p, ys, h1, .inl (SqL.of h2), h3⟩
theorem listT : CallR X (.type "list") (fun xs H Q => ∃ p ys, xs = [.ref p] ∧ H p = some (.tup ys) ∧ ∀ l, H l = none → Q (.ref l) (upd H l (.lst ys))) := CallR.weak call_list_of fun xs H Q ⟨p, ys, h1, h2, h3⟩ => ⟨p, ys, h1, .inr (SqT.of h2), h3⟩
theorem listL : CallR X (.type "list") (fun xs H Q => ∃ p ys, xs = [.ref p] ∧ H p = some (.lst ys) ∧ ∀ l, H l = none → Q (.ref l) (upd H l (.lst ys))) := CallR.weak call_list_of fun xs H Q ⟨p, ys, h1, h2, h3⟩ => ⟨p, ys, h1, .inl (SqL.of h2), h3⟩
theorem natSum (ns : List Nat) : (ns.map fun (n : Nat) => (n : Int)).sum = ((ns.sum : Nat) : Int) := by
  induction ns with
  | nil => rfl
  | cons a l ih => rw [List.map_cons, List.sum_cons, ih, List.sum_cons]; rfl
theorem sumL (hc : X.calm = true) : CallR X (.builtin "sum") (fun xs H Q => ∃ (p : Addr) (ns : List Nat), xs = [.ref p] ∧ H p = some (.lst (natL ns)) ∧ Q (.int (ns.sum : Nat)) H) := CallR.weak (cr_sum hc) fun xs H Q ⟨p, ns, h1, h2, h3⟩ => by
  refine ⟨p, ns.map fun (n : Nat) => (n : Int), h1, SqL.of ?_, ?_⟩
  · rw [h2, List.map_map]; rfl
  · rw [natSum]
    exact h3
end
theorem szl {α : Type} {xs : List α} (h : Nat.ble xs.length 1000 = true := by rfl) : xs.length ≤ sizeLine := Nat.le_trans (Nat.le_of_ble_eq_true h) (by decide)

/-! ### making an instance of one's own class -/
structure CalM (P : Program) (w : World) (K : PySem.W.Frag) (mg : Str → Option Value) (base : Heap) (k : Nat) (x : Str) (C : Addr) (sp : Sp) : Prop where
  ex : ∃ (f : Addr) (fd : FuncData) (ps : List Str), FnOk P w K mg base CX0 k f fd ps sp ∧ mg x = some (.ref C) ∧ Mk K C f ∧ Binds K fd ps []
def tMk (C : Addr) (sp : Sp) (t : TA) : TE := fun σ H Q => t σ H fun vs H1 => ∀ x dx, H1 x = none → H1 dx = none → dx ≠ x → sp (.ref x :: vs) (upd (upd H1 dx (.own x)) x (.ins C dx [])) (fun v H2 => v = .non ∧ Q (.ref x) H2) E0
section
variable {X : Cx} {k : Nat} {C : Addr} {x : Str} {sp : Sp} {p pos : Pos} {e : Expr} {es : List Expr} {t : TA}
theorem pe_mk (M : CalM X.prog X.w X.K X.mg X.base k x C sp) (hr : Room (k + 1) X.A) (ha : PA X (e :: es) t) (hg : Gl X x := by rfl) (hdb : (x == ("__debug__" : Str)) = false := by decide)
    (he : starEach (e :: es) X.env = (false, eval e X.env) :: starEach es X.env := by rfl) (hpl : (backTo pos (starEach es X.env)).any (·.1) = false := by rfl) : PE X (.Call (.Name x p) (e :: es) [] pos) (tMk C sp t) := by
  obtain ⟨f, fd, ps, F, g, M, b⟩ := M.ex
  have z := pe_make (dvs := []) (pos := pos) (p := p) M F hr hg g b .nil pass0 ha hdb he hpl
  exact ⟨fun pins s σ H Q I q => z.run pins s σ H Q I (by
    show t σ H fun vs H1 => ∀ x dx, H1 x = none → H1 dx = none → dx ≠ x → sp (.ref x :: (vs ++ [])) (upd (upd H1 dx (.own x)) x (.ins C dx [])) (fun v H2 => v = .non ∧ Q (.ref x) H2) E0
    simp only [List.append_nil]
    exact q)⟩
theorem pe_mk0 (M : CalM X.prog X.w X.K X.mg X.base k x C sp) (hr : Room (k + 1) X.A) (hg : Gl X x := by rfl) (hdb : (x == ("__debug__" : Str)) = false := by decide) : PE X (.Call (.Name x p) [] [] pos) (tMk C sp tNil) := by
  obtain ⟨f, fd, ps, F, g, M, b⟩ := M.ex
  have z := pe_make0 (dvs := []) (pos := pos) (p := p) M F hr hg g b .nil pass0 hdb
  exact ⟨fun pins s σ H Q I q => z.run pins s σ H Q I q⟩
end
/-! ### a def of a class -/
structure DfM (K : PySem.W.Frag) (mg : Str → Option Value) (x q : Str) (st : Stmt) : Prop where
  ex : ∃ (f : Addr) (fd : FuncData), Fun K "__init__" q st f fd ∧ mg x = some (.ref (He.ga K x)) ∧ Mk K (He.ga K x) f
abbrev BindsM (st : Stmt) (q : Str) (ps : List Str) : Prop := ∀ (kV doc pm : Value) (an : Option Addr) (cdv ct : Value) (us : List Value), us.length = ps.length →
  bindArgs (PySem.W.fnOf "__init__" q (defArgs st) (defBody st) (defScope st) .none kV doc pm an cdv ct) ⟨us, []⟩ = pure (ps.zip us)
theorem DfM.ok {P : Program} {w : World} {K : PySem.W.Frag} {mg : Str → Option Value} {base : Heap} {x q : Str} {st : Stmt} {N ps : List Str} {k : Nat} {sp : Sp} (D : DfM K mg x q st) (S : FnScope N ps (defScope st)) (bd : BindsM st q ps) (len : ∀ vs H Q E, sp vs H Q E → vs.length = ps.length)
    (hbody : ∀ (f : Addr) (cdv : Value) (A : Around) (outer : List Env) (s : Shared) (H : Hp) (vs : List V) (Q : VK) (E : XK), Room k (A.deeper (envOfC q (defScope st) s.heap.objs.size f cdv)) → sp vs H Q E →
      ∃ t, PSs (cxOf CX0 P w K mg base N q (defScope st) f cdv A outer s H E).nox (defBody st) t ∧ t { nx := fun _ H' => Q .non H', rt := Q } (start N vs) H) : CalM P w K mg base (k + 1) x (He.ga K x) sp := by
  obtain ⟨f, fd, F, g, M⟩ := D.ex
  exact ⟨f, fd, ps, F.ok S len (hbody f), g, M, F.binds bd⟩
/-! ### heaps -/
theorem Same.new {H : Hp} {p : Addr} {o : HO} (n : H p = none) : Same H (upd H p o) := fun b u e => by
  rw [upd_ne (ne_of_none e n)]
  exact e
theorem bt_abs : bootBuiltins "abs" = some (.builtin "abs") := by decide +kernel
theorem bt_len : bootBuiltins "len" = some (.builtin "len") := by decide +kernel
theorem bt_sum : bootBuiltins "sum" = some (.builtin "sum") := by decide +kernel
theorem bt_all : bootBuiltins "all" = some (.builtin "all") := by decide +kernel
theorem bt_list : bootBuiltins "list" = some (.type "list") := by decide +kernel
end PW
set_option Elab.async false
set_option linter.all false
set_option maxRecDepth 100000
set_option maxHeartbeats 4000000
/-! The program's refusals: Refusal(Exception) keeps a code; each of its classes hands its own code to Refusal.__init__. -/
namespace PySem
namespace RefX
open PySem.W PySem.Calls PyProof.Rows PySem.HandSPX
abbrev bmR : List Value := [.type "Exception", .type "BaseException", .type "object"]
/-- own classes, then the tail -/
def ownThen : List Value → Bool
  | .ref _ :: r => ownThen r
  | l => l == bmR
theorem own_cases : ∀ l : List Value, ownThen l = true → (∃ c r, l = .ref c :: r ∧ ownThen r = true) ∨ l = bmR := by
  intro l e
  cases l with
  | nil => exact .inr (beq_iff_eq.mp e)
  | cons a r =>
    cases a with
    | ref c => exact .inl ⟨c, r, rfl, e⟩
    | _ => exact .inr (beq_iff_eq.mp e)
theorem own_pass (u : Value) : ∀ l : List Value, ownThen l = true → refuseLoop u "__setattr__" l = pure () := by
  intro l
  induction l with
  | nil => intro e; cases e
  | cons a r ih =>
    intro e
    rcases own_cases (a :: r) e with ⟨c, r', hq, hh⟩ | hq
    · injection hq with e1 e2
      subst e1
      subst e2
      rw [refuseLoop_ref]
      exact ih hh
    · rw [hq]
      exact F.store_Exception.passes u
theorem own_has (T : String) : ∀ l : List Value, ownThen l = true → l.contains (.type T) = bmR.contains (.type T) := by
  intro l
  induction l with
  | nil => intro e; exact absurd e (by decide)
  | cons a r ih =>
    intro e
    rcases own_cases (a :: r) e with ⟨c, r', hq, hh⟩ | hq
    · injection hq with e1 e2
      subst e1
      subst e2
      rw [List.contains_cons, ih hh]
      rfl
    · rw [hq]
theorem own_ne {l : List Value} (e : ownThen l = true) : l.isEmpty = false := by
  cases l with
  | cons _ _ => rfl
  | nil => cases e
section
open Builtin Builtin.ObjectAttr
variable {prog : Program} {w : World} {A : Around} {R : Result → Shared → Prop} {hp : Heap} {g : Array GenState} {d : Drawn} {t : Nat} {os : OsState}
/-- the first field of a fresh error whose class stands over Exception by own classes -/
theorem osa_first {K : W.Frag} {fld : Str} {ft : Tok} {val : Value} {x C : Addr} {parts : Array Value} {cd : ClassData} (KI : K.In hp) (at_x : hp.get? x = some { cls := .ref C, data := .fields parts }) (is_c : W.clsIn K C = some cd)
    (over : ownThen cd.mro = true) (has_d : cd.hasDict = true) (no_f : W.findIn K (.ref C) fld = some none)
    (done : ∀ h₂ tk₂ D, (∀ b ob, b ≠ x → hp.get? b = some ob → h₂.get? b = some ob) → hp.objs.size ≤ D → D ≠ x → h₂.get? x = some { cls := .ref C, dict := some D, data := .fields parts } → h₂.Ns1 D (fun y => if y = fld then some val else none) →
      R (.ok (.ret .none)) ⟨h₂, g, d, tk₂, os⟩) : codeAny (model prog w) A (.call (.builtin "object.__setattr__") ⟨[.ref x, .str fld ft, val], []⟩) R ⟨hp, g, d, t, os⟩ := by
  have at_i : W.InstAt hp x { cls := .ref C, data := .fields parts } C none := ⟨at_x, rfl, rfl, trivial⟩
  have apart : hp.objs.size ≠ x := Nat.ne_of_gt (Heap.lt_size at_x)
  have obj : cd.mro.contains (.type "object") = true := by rw [own_has "object" _ over]; decide +kernel
  have is_o : W.Looks (model prog w) hp (isInstance (.ref x) (.type "object")) true := by
    refine at_i.type.andThen (W.looks_mroIn KI ?_)
    unfold W.mroIn
    rw [is_c, Option.bind_some, if_neg (by rw [own_ne over]; exact Bool.false_ne_true), obj]
  have of_m : W.Looks (model prog w) hp (mroOf (.ref C)) cd.mro := W.Looks.andThen (W.looks_clsIn KI is_c) .now
  have of_c : W.Looks (model prog w) hp (classData C) cd := W.looks_clsIn KI is_c
  have no_t : W.Looks (model prog w) hp (storeTaker? none) none := .now
  have fits := F.store_object.args (.ref x) (.str fld ft) val
  refine codeAny_call_builtin F.store_object.slot.plain F.store_object.entry (@W.check_slot (model prog w) _ _ ⟨hp, g, d, t, os⟩ "object.__setattr__" "object" "__setattr__" (.ref x)
    [.str fld ft, val] [] _ F.store_object.kind F.store_object.split is_o fits ?_)
  rw [W.osa_eq, refuse_eq]
  refine wpAny_bind (wpAny_bind (at_i.type.at (wpAny_bind (of_m.at ?_))))
  rw [own_pass (.ref x) cd.mro over]
  refine wpAny_pure (wpAny_bind (at_i.type.at (wpAny_bind ((W.looks_findIn KI no_f).at (wpAny_bind (no_t.at ?_))))))
  show wpAny _ _ (storeInOwnDict (.ref x) (.ref C) (.str fld ft) fld val false) _ _ _
  rcases cd with ⟨f1, f2, f3, f4, f5, f6, f7, f8, f9, f10, f11⟩
  have e6 : f6 = true := has_d
  subst e6
  unfold storeInOwnDict ownDictForStores
  repeat (first | with_reducible refine store_in_new ?_ ?_ | with_reducible refine wpAny_loadPart_at at_x ?_ | with_reducible refine of_c.at ?_ | wp_step)
  · refine ⟨_, #[], _, Eq.trans (Heap.get?_update_ne _ _ _ _ apart) (Heap.get?_push_at rfl rfl), rfl, fun e he => ?_, fun _ => rfl⟩
    exact absurd he (by simp)
  · intro h₂ tk₂ ns same
    have at_p : (hp.push { cls := .type "dict", data := .dict #[] }).get? x = some { cls := .ref C, data := .fields parts } := Heap.get?_push_of_some _ at_x
    refine done h₂ tk₂ hp.objs.size (fun b ob nb hb => ?_) (Nat.le_refl _) apart ?_ ns
    · have nD : b ≠ hp.objs.size := Nat.ne_of_lt (Heap.lt_size hb)
      rw [same.2 b nD, Heap.get?_update_ne _ _ _ _ nb]
      exact Heap.get?_push_of_some _ hb
    · rw [same.2 x apart.symm]
      exact Heap.get?_update_self _ at_p rfl
end

/-! ### the texts of the two kinds of __init__ -/
def rA (p1 p2 : Pos) : Arguments := { posonlyargs := [], args := [⟨"self", none, p1⟩, ⟨"code", none, p2⟩], vararg := none, kwonlyargs := [], kw_defaults := [], kwarg := none, defaults := [] }
def rB (q1 q2 q3 q4 : Pos) : List Stmt := [.Assign [.Attribute (.Name "self" q1) "code" q2] (.Name "code" q3) q4]
def rS : Scope := ⟨.function, [(PySem.Str.ofString "self", .local), (PySem.Str.ofString "code", .local)], false, false, []⟩
def jA (p1 : Pos) : Arguments := { posonlyargs := [], args := [⟨"self", none, p1⟩], vararg := none, kwonlyargs := [], kw_defaults := [], kwarg := none, defaults := [] }
def jB (n : Nat) (q1 q2 q3 q4 q5 q6 q7 : Pos) : List Stmt := [.Expr (.Call (.Attribute (.Name "Refusal" q1) "__init__" q2) [.Name "self" q3, .UnaryOp .USub (.Constant (.int n) 0 q4) q5] [] q6) q7]
def jS : Scope := ⟨.function, [(PySem.Str.ofString "self", .local), (PySem.Str.ofString "Refusal", .globalImplicit)], false, false, []⟩
/-- how the call within reads: shown for the places where it stands -/
structure JOk (n : Nat) (q1 q2 q3 q4 q5 q6 q7 : Pos) : Prop where
  call : ∀ env : Env, ∃ pl : Sem Bool, eval (.Call (.Attribute (.Name "Refusal" q1) "__init__" q2) [.Name "self" q3, .UnaryOp .USub (.Constant (.int n) 0 q4) q5] [] q6) env = (do
      let ov ← eval (.Name "Refusal" q1) env
      standAt q2.atName
      let (f, first) ← holding [ov] (getMethod ov "__init__" pl)
      callWith q6 f first (backTo q6 (starEach [.Name "self" q3, .UnaryOp .USub (.Constant (.int n) 0 q4) q5] env)) (backToKw q6 (keywordEach [] env)))
  alone : ∀ env : Env, swapsWith (.Call (.Attribute (.Name "Refusal" q1) "__init__" q2) [.Name "self" q3, .UnaryOp .USub (.Constant (.int n) 0 q4) q5] [] q6) none q7.line env = pure false
/-- what the written part says of Refusal, at CR, and of its __init__, at fR -/
structure BaseTxt (K : Frag) (mg : Str → Option Value) (CR fR : Addr) : Prop where
  gR : mg "Refusal" = some (.ref CR)
  rd : readsIn K CR (.type "type") = true
  sg : specialIn K (.ref CR) "__getattribute__" = some (some (.builtin "type.__getattribute__"))
  fc : findCls K (.ref CR) (.type "type") "__init__" = some (.val (.ref fR))
  kf : keepIn K (.ref fR) = true
  fn : ∃ (kV oc : Value) (od : Option Addr) (doc pm : Value) (an : Option Addr) (cdv ct : Value) (osl : Array (Option Value)) (p1 p2 q1 q2 q3 q4 : Pos),
    K.lookup fR = some ⟨oc, od, .func (fnOf "__init__" "Refusal.__init__" (rA p1 p2) (rB q1 q2 q3 q4) rS .none kV doc pm an cdv ct), osl⟩ ∧ codeIn K cdv "Refusal.__init__" = true
/-- what it says of a class x over Refusal, at C, its __init__ at fJ, its code -n -/
structure SubTxt (K : Frag) (mg : Str → Option Value) (CR : Addr) (x : Str) (n : Nat) (C fJ : Addr) : Prop where
  gC : mg x = some (.ref C)
  ini : excInitIn K C bmR "Exception.__new__" = true
  mro : ∃ cd, clsIn K C = some cd ∧ ownThen cd.mro = true ∧ cd.hasDict = true
  sa : findIn K (.ref C) "__setattr__" = some (some (.builtin "object.__setattr__"))
  ga : findIn K (.ref C) "__getattribute__" = some (some (.builtin "BaseException.__getattribute__"))
  gg : findIn K (.ref C) "__getattr__" = some none
  noN : findIn K (.ref C) "code" = some none
  iC : findIn K (.ref C) "__init__" = some (some (.ref fJ))
  tJ : typeIn K (.ref fJ) = some (.type "function")
  kC : keepIn K (.ref C) = true
  exC : subIn K (.ref C) (.type "BaseException") = some true
  tyC : typeIn K (.ref C) = some (.type "type")
  hdC : hasDictIn K C = true
  te : exmOne K (.ref C) (.ref CR) = some true
  fn : ∃ (qn : Str) (kV oc : Value) (od : Option Addr) (doc pm : Value) (an : Option Addr) (cdv ct : Value) (osl : Array (Option Value)) (p1 q1 q2 q3 q4 q5 q6 q7 : Pos),
    K.lookup fJ = some ⟨oc, od, .func (fnOf "__init__" qn (jA p1) (jB n q1 q2 q3 q4 q5 q6 q7) jS .none kV doc pm an cdv ct), osl⟩ ∧ codeIn K cdv qn = true ∧ JOk n q1 q2 q3 q4 q5 q6 q7
theorem ld_loc {M : Model} {s : Shared} {name : Str} {scope : Scope} {L a : Addr} {cd : Value} {m : Str → Option Value} {x : Str} {pos : Pos} {v : Value} {Q : Value → Shared → Prop} {A : Around} {E : Value → Shared → Prop}
    (ns : s.heap.Ns L m) (is : m x = some v) (q : Q v s) (k1 : scope.kind = .function := by rfl) (k2 : (envOfC name scope L a cd).kindOf x = some .local := by rfl) (k3 : (x == ("__debug__" : Str)) = false := by decide) :
    wpAny M A (eval (.Name x pos) (envOfC name scope L a cd)) Q E s := by
  refine wpAny_Name ?_ k3
  exact wpAny_loadName_local k1 k2 ns is q
/-- what an __init__ leaves of a fresh error at x -/
structure Left (h h₂ : Heap) (x C D t1 : Addr) (v : Value) : Prop where
  keep : ∀ b ob, b ≠ x → h.get? b = some ob → h₂.get? b = some ob
  obj : h₂.get? x = some { cls := .ref C, dict := some D, data := .fields #[.ref t1, .none, .none, .none, .bool false, .none] }
  big : h.objs.size ≤ D
  ne : D ≠ x
  ns : h₂.Ns1 D (fun y => if y = "code" then some v else none)
/-- a made error -/
structure Made (h h₂ : Heap) (e C D : Addr) (v : Value) : Prop where
  keep : ∀ b ob, h.get? b = some ob → h₂.get? b = some ob
  new : h.objs.size ≤ e
  obj : ∃ oe vs, h₂.get? e = some oe ∧ oe.cls = .ref C ∧ oe.dict = some D ∧ oe.data = .fields vs ∧ vs[1]? = some .none
  big : h.objs.size ≤ D
  ne : D ≠ e
  ns : h₂.Ns1 D (fun y => if y = "code" then some v else none)
section
variable {prog : Program} {w : World} {A : Around} {R : Result → Shared → Prop} {s : Shared} {K : Frag} {mg : Str → Option Value} {CR fR C fJ : Addr} {x : Str} {n : Nat}
theorem run_base (B : BaseTxt K mg CR fR) (T : SubTxt K mg CR x n C fJ) {e t0 : Addr} {v : Value} (KI : K.In s.heap) (lim : s.heap.NoLimit) (at_e : s.heap.get? e = some (excO C t0)) (deep : A.depth < recursionLimit)
    (q : ∀ h₂ tk D, Left s.heap h₂ e C D t0 v → R (.ok (.ret .none)) { s with heap := h₂, toks := tk }) : codeAny (model prog w) A (.call (.ref fR) ⟨[.ref e, v], []⟩) R s := by
  obtain ⟨kV, oc, od, doc, pm, an, cdv, ct, osl, p1, p2, q1, q2, q3, q4, is_f, cdo⟩ := B.fn
  obtain ⟨cd, is_c, over, has_d⟩ := T.mro
  refine Att.call_fn (binds := [("self", .ref e), ("code", v)]) KI lim is_f cdo deep (BindsTo.of_eq (by first | rfl | with_unfolding_all rfl)) (by first | rfl | decide | with_unfolding_all rfl) (fun s₁ IC => ?_) rfl rfl rfl
  obtain ⟨h₁, tk₁, rfl⟩ := IC.toInCall.same
  have kp : ∀ b ob, s.heap.get? b = some ob → h₁.get? b = some ob := IC.toInCall.keep
  have ns := IC.toInCall.ns
  have KI₁ : K.In h₁ := KI.keeps kp
  have at_e₁ := kp _ _ at_e
  show wpAny _ _ (execs _ _) _ _ _
  refine wpAny_execs_cons (plainObj_wpAny_Assign_Attribute ?_)
  refine ld_loc (v := v) ns (by first | rfl | with_unfolding_all rfl | kernel_rfl) (ld_loc (v := .ref e) ns (by first | rfl | with_unfolding_all rfl | kernel_rfl) ?_)
  refine set_plain KI₁ (ox := excO C t0) (od := none) ⟨at_e₁, rfl, rfl, trivial⟩ T.sa ?_
  refine osa_first KI₁ at_e₁ is_c over has_d T.noN (fun h₃ tk₃ D kp₃ big ne at₃ ns₃ => ?_)
  show wpAny _ _ (execs _ _) _ _ _
  have lt : s.heap.objs.size < h₁.objs.size := ns.lt
  exact wpAny_execs_nil (q h₃ tk₃ D ⟨fun b ob nb hb => kp₃ b ob nb (kp b ob hb), at₃, Nat.le_of_lt (Nat.lt_of_lt_of_le lt big), ne, ns₃⟩)
theorem run_sub (B : BaseTxt K mg CR fR) (T : SubTxt K mg CR x n C fJ) (G : ∃ h₀ : Heap, h₀.Ns mainGlobals mg ∧ ∀ b ob, h₀.get? b = some ob → s.heap.get? b = some ob) {e t0 : Addr} (KI : K.In s.heap) (lim : s.heap.NoLimit)
    (at_e : s.heap.get? e = some (excO C t0)) (deep : A.depth + 1 < recursionLimit)
    (q : ∀ h₂ tk D u, Left s.heap h₂ e C D t0 (.int (-(n : Int)) u) → R (.ok (.ret .none)) { s with heap := h₂, toks := tk }) : codeAny (model prog w) A (.call (.ref fJ) ⟨[.ref e], []⟩) R s := by
  obtain ⟨qn, kV, oc, od, doc, pm, an, cdv, ct, osl, p1, q1, q2, q3, q4, q5, q6, q7, is_f, cdo, J⟩ := T.fn
  obtain ⟨h₀, gl, old⟩ := G
  refine Att.call_fn (binds := [("self", .ref e)]) KI lim is_f cdo (by omega) (BindsTo.of_eq (by first | rfl | with_unfolding_all rfl)) (by first | rfl | decide | with_unfolding_all rfl) (fun s₁ IC => ?_) rfl rfl rfl
  obtain ⟨h₁, tk₁, rfl⟩ := IC.toInCall.same
  have kp : ∀ b ob, s.heap.get? b = some ob → h₁.get? b = some ob := IC.toInCall.keep
  have ns := IC.toInCall.ns
  have KI₁ : K.In h₁ := KI.keeps kp
  have at_e₁ := kp _ _ at_e
  have lt : s.heap.objs.size < h₁.objs.size := ns.lt
  have gl₁ : h₁.Ns mainGlobals mg := gl.keeps fun b ob z => kp b ob (old b ob z)
  show wpAny _ _ (execs _ _) _ _ _
  obtain ⟨pl, hc⟩ := J.call (envOfC qn jS s.heap.objs.size fJ cdv)
  refine wpAny_execs_cons (wpAny_Expr (methodCall_KW (pl := pl) (Calls.Name_function_global rfl (by first | rfl | decide) (Calls.loadGlobal_global gl₁ B.gR ?_)) hc) (by first | rfl | decide))
  refine method_cls KI₁ B.sg (cls_value KI₁ B.rd B.fc rfl ?_)
  refine callWith_K (h₀ := h₁) (first := []) (K := K) KI₁ B.kf ?_ (by rfl) (by rfl)
  refine Calls.spliced_cons (ld_loc (v := .ref e) ns (by first | rfl | with_unfolding_all rfl | kernel_rfl) ?_)
  refine Calls.spliced_cons (UnaryOp_ (wpAny_Constant_int (neg_int ?_)))
  refine Calls.spliced_nil ⟨KI₁, wpAny_call ?_⟩
  have lim₁ := lim.keeps kp
  refine run_base (s := ⟨h₁, s.gens, s.drawn, _, s.os⟩) B T KI₁ lim₁ at_e₁ deep fun h₂ tk₂ D L => ?_
  show wpAny _ _ (execs _ _) _ _ _
  exact wpAny_execs_nil (q h₂ tk₂ D _ ⟨fun b ob nb hb => L.keep b ob nb (kp b ob hb), L.obj, Nat.le_of_lt (Nat.lt_of_lt_of_le lt L.big), L.ne, L.ns⟩)
theorem run_made (B : BaseTxt K mg CR fR) (T : SubTxt K mg CR x n C fJ) (G : ∃ h₀ : Heap, h₀.Ns mainGlobals mg ∧ ∀ b ob, h₀.get? b = some ob → s.heap.get? b = some ob) (KI : K.In s.heap) (lim : s.heap.NoLimit) (deep : A.depth + 2 < recursionLimit)
    (q : ∀ h₂ tk e D u, Made s.heap h₂ e C D (.int (-(n : Int)) u) → R (.ok (.ret (.ref e))) { s with heap := h₂, toks := tk }) : codeAny (model prog w) A (.call (.ref C) ⟨[], []⟩) R s := by
  obtain ⟨nm, N, qn, bs, bm, hdct, sn, sub, ab, col, dd, k0, k1, k2, k3, k5, is_C, tails⟩ := excInit_of KI T.ini
  obtain ⟨hp, g, dr, tk, os⟩ := s
  obtain ⟨h₀, gl, old⟩ := G
  have kp : ∀ b ob, hp.get? b = some ob → ((hp.push (kdv_tup [])).push (excO C hp.objs.size)).get? b = some ob := fun b ob hb => Heap.get?_push_of_some _ (Heap.get?_push_of_some _ hb)
  have at_e : ((hp.push (kdv_tup [])).push (excO C hp.objs.size)).get? (hp.objs.size + 1) = some (excO C hp.objs.size) := by heap_get
  refine call_own (rest := []) F.excBase_Exception tails is_C (looks_findIn KI T.iC) (fun u => bind_fn KI u T.tJ) (Nat.zero_le _) ?_
  refine run_sub (s := ⟨(hp.push (kdv_tup [])).push (excO C hp.objs.size), g, dr, tk, os⟩) B T ⟨h₀, gl, fun b ob hb => kp b ob (old b ob hb)⟩ (KI.keeps kp) (lim.keeps kp) at_e ?_ fun h₂ tk₂ D u L => ?_
  · show A.depth + 1 + 1 < recursionLimit
    exact deep
  · have kp₂ : ∀ b ob, hp.get? b = some ob → h₂.get? b = some ob := fun b ob hb => L.keep b ob (Nat.ne_of_lt (Nat.lt_succ_of_lt (Heap.lt_size hb))) (kp b ob hb)
    have big : hp.objs.size ≤ D := by
      have z := L.big
      rw [Heap.size_push, Heap.size_push] at z
      omega
    exact ⟨rfl, q h₂ tk₂ (hp.objs.size + 1) D u ⟨kp₂, Nat.le_succ _, ⟨_, _, L.obj, rfl, rfl, rfl, rfl⟩, big, L.ne, L.ns⟩⟩
end
end RefX
end PySem
namespace L2
open PySem PySem.Spec PyProof.Rows
theorem relO_code {c : V} {u : Value} (r : RelV c u) (f : Str) : RelO (List.lookup f [(("code" : Str), c)]) (if f = "code" then some u else none) := by
  by_cases e : f = "code"
  · subst e
    rw [if_pos rfl, show List.lookup ("code" : Str) [(("code" : Str), c)] = some c by simp [List.lookup]]
    exact r
  · have z : (f == ("code" : Str)) = false := by simpa using e
    rw [if_neg e, show List.lookup f [(("code" : Str), c)] = none by simp [List.lookup, z]]
    exact True.intro
section
variable {X : Cx} {CR fR C fJ : Addr} {x : Str} {n : Nat}
/-- X(): a refusal is made -/
def tMkR (C : Addr) (n : Nat) : St → Hp → XK → Prop := fun _ H Q => ∀ d, H d = none → Q (.ref C) (some d) (upd H d (.xd [(("code" : Str), .int (-(n : Int)))]))
theorem pmk_ref {p pos : Pos} {k : Nat} (B : PySem.RefX.BaseTxt X.K X.mg CR fR) (T : PySem.RefX.SubTxt X.K X.mg CR x n C fJ) (hr : Room k X.A) (hg : Gl X x := by rfl) (hd : (x == ("__debug__" : Str)) = false := by decide) :
    PMk X (.Call (.Name x p) [] [] pos) (tMkR C n) := by
  intro pins s σ H Q I q
  refine wpAny_Call_Name_kw (ld_glob I hg T.gC ?_ hd)
  refine PySem.W.callWith_K0 (first := []) I.kIn T.kC ?_
  show wpAny _ _ (call (.ref C) []) _ _ _
  have lim := I.nolimit
  have KI := I.kIn
  have gl := I.mod.glob
  have old := I.bk
  obtain ⟨hp, g, dr, tk, os⟩ := s
  refine wpAny_call (PySem.RefX.run_made B T ⟨X.base, gl, old⟩ KI lim (by have := hr.dp; omega) fun h₂ tk₂ e D u M => ?_)
  show MkP X pins σ Q (.ref e) ⟨h₂, g, dr, tk₂, os⟩
  obtain ⟨oe, fv, at_e, c1, c2, c3, c4⟩ := M.obj
  have ns := M.ns
  obtain ⟨U, in_u, out_u⟩ := restrict h₂ fun b => decide (b ≠ e)
  have same : ∀ b, b ≠ e → U.get? b = h₂.get? b := fun b hb => in_u b (decide_eq_true hb)
  have gone : U.get? e = none := out_u e (by simp)
  have old₂ : ∀ b ob, hp.get? b = some ob → U.get? b = some ob := fun b ob z => by
    rw [same b (Nat.ne_of_lt (Nat.lt_of_lt_of_le (Heap.lt_size z) M.new))]
    exact M.keep b ob z
  have is_d : ObjOk X.prog X.w (upd H D (.xd [(("code" : Str), .int (-(n : Int)))])) U D (.xd [(("code" : Str), .int (-(n : Int)))]) :=
    ⟨_, ns.at (fun ob z => (same D M.ne).trans z), fun f => relO_code (c := .int (-(n : Int))) ⟨u, rfl⟩ f⟩
  have J : Inv X pins σ (upd H D (.xd [(("code" : Str), .int (-(n : Int)))])) ⟨U, g, dr, tk₂, os⟩ := I.laid (t' := tk₂) old₂ M.big is_d
  refine ⟨e, oe, fv, ⟨U, g, dr, tk₂, os⟩, _, .ref C, some D, rfl, J, fun b ob z => ?_, gone, at_e, ⟨c1, c2⟩, c3, c4, ?_, rfl, I.bare, raises_own T.exC T.tyC, q D (I.hok.fresh M.big)⟩
  · by_cases hb : b = e
    · exfalso
      have z' : U.get? b = some ob := z
      rw [hb, gone] at z'
      cases z'
    · rw [← same b hb]
      exact z
  · rw [upd_ne (Ne.symm M.ne)]
    exact I.hok.fresh M.new
/-- raise X() -/
def tRaiseR (C : Addr) (n : Nat) (W : WX) : TS := fun _ σ H => tMkR C n σ H fun cls d H' => W cls d σ H'
theorem ps_raiseR {W : WX} {p pos pos2 : Pos} {k : Nat} (hc : X.calm = true) (B : PySem.RefX.BaseTxt X.K X.mg CR fR) (T : PySem.RefX.SubTxt X.K X.mg CR x n C fJ) (hr : Room k X.A) (tk : Takes X W) (hg : Gl X x := by rfl)
    (hd : (x == ("__debug__" : Str)) = false := by decide) : PS X (.Raise (some (.Call (.Name x p) [] [] pos)) none pos2) (tRaiseR C n W) := ps_raise hc tk (pmk_ref B T hr hg hd)
/-- refusal.code, the refusal that the suite holds -/
def tCode (K : PySem.W.Frag) (mg : Str → Option Value) (CR : Addr) (a : Addr) (cls : Value) (d : Option Addr) (te : TE) : TE := fun σ H Q => te σ H fun y H1 => y = .ref a ∧ (∃ (C fJ : Addr) (x : Str) (n : Nat), cls = .ref C ∧ PySem.RefX.SubTxt K mg CR x n C fJ) ∧
  ∃ (D : Addr) (v : V), d = some D ∧ H1 D = some (.xd [(("code" : Str), v)]) ∧ Q v H1
theorem pe_code {a : Addr} {oe : Obj} {cls : Value} {d : Option Addr} {pn : List (Addr × Obj)} {e : Expr} {te : TE} {pos : Pos} (hz : Zc cls d oe) (hf : ∃ vs, oe.data = .fields vs)
    (he : PE (X.suite a ((a, oe) :: pn)) e te) (hb : attributeBase e "code" X.env (eval e X.env) = eval e X.env := by rfl) :
    PE (X.suite a ((a, oe) :: pn)) (.Attribute e "code" pos) (tCode X.K X.mg CR a cls d te) := by
  refine ⟨fun pins s σ H Q I h => ?_⟩
  refine attr_of hb (thn (he.run pins s σ H _ I h) fun u s1 hh => ?_)
  obtain ⟨y, H1, I1, ry, ey, ⟨C, fJ, x, n, ec, T⟩, D, v, ed, at_d, q⟩ := hh
  subst ec
  subst ey
  subst ed
  obtain rfl : u = Value.ref a := ry
  obtain ⟨at_a, _⟩ := I1.pin (a, oe) (List.mem_append_left _ List.mem_cons_self)
  obtain ⟨vs, is_f⟩ := hf
  obtain ⟨mA, ns, rel⟩ := (I1.hok D _ at_d : ObjOk X.prog X.w H1 s1.heap D (.xd [(("code" : Str), v)]))
  obtain ⟨od, at_o, lk⟩ := lookIn_ns ns
  have l : List.lookup ("code" : Str) [(("code" : Str), v)] = some v := by simp [List.lookup]
  obtain ⟨z, hz1, rz⟩ := RelO.some_of (v := v) (o := mA "code") (by rw [← l]; exact rel "code")
  have at_i : PySem.W.InstAt s1.heap a oe C (some od) := by
    refine ⟨at_a, hz.1, ?_, ?_⟩
    · unfold PySem.W.notCls
      rw [is_f]
    · rw [hz.2]
      exact at_o
  have found := PySem.W.findObj_own T.hdC T.noN (od := od) rfl (by rw [lk, hz1])
  exact HandSPX.exc_get I1.kIn at_i T.ga T.gg T.exC found (handed_of rz) ⟨v, H1, I1.tok _, rz, q⟩
end
end L2
set_option Elab.async false
set_option linter.all false
set_option maxRecDepth 100000
set_option maxHeartbeats 4000000
/-! The tables of the calls: numbers, names. -/
namespace PW
open PySem PySem.Spec PyProof.Rows L2
def tb_POLICY_CALLS : List (Nat × Str) := [(1, "add_policy"), (2, "add_rational_policy"), (3, "remove_policy"), (4, "get_policy")]
def tb_LOG_CALLS : List (Nat × Str) := [(5, "record_test"), (6, "record_production"), (7, "undo_record"), (8, "get_log"), (22, "candidates_after_test"), (23, "counts")]
def tb_BELIEF_CALLS : List (Nat × Str) := [(9, "candidates"), (10, "belief"), (11, "honest_belief"), (12, "suspects"), (13, "next_harm_probability"), (14, "worst_candidate")]
def tb_DETECTION_CALLS : List (Nat × Str) := [(15, "is_detectable"), (16, "policy_detection_probability"), (17, "tests_needed"), (18, "are_distinguishable")]
def tb_PERMIT_CALLS : List (Nat × Str) := [(19, "permit"), (20, "revoke_permit"), (21, "permit_status")]
def tb_RATIONAL_CALLS : List (Nat × Str) := [(30, "cheating_value"), (31, "cheating_signals"), (32, "expected_profit"), (33, "detection_probability"), (34, "harm_probability"), (35, "total_cost"), (41, "cheating_signals_for_prior"), (42, "cheating_signals_for_stakes")]
def tb_DETERRENCE_CALLS : List (Nat × Str) := [(36, "deterrent_prior_at"), (37, "deterrent_prior"), (38, "preview_merge"), (39, "merge_signals"), (40, "cheapest_prior")]
def tb_SETTING_CALLS : List (Nat × Str) := [(24, "create_setting"), (25, "set_test_weights"), (26, "set_production_weights"), (27, "set_prior"), (28, "set_stakes"), (29, "set_prices"), (43, "get_settings")]
end PW
set_option Elab.async false
set_option linter.all false
set_option maxRecDepth 100000
set_option maxHeartbeats 0
/-! The top's run, and what is read off its end. Written by tools/genhead3.py. -/
namespace PW.Hd
open PySem PySem.Spec PyProof.Rows L2 PySem.RefX
def AS : List Addr := [3, 573, 572, 570, 569, 601, 600, 598, 597, 622, 621, 619, 618, 237, 236, 234, 233, 257, 256, 254, 253, 276, 275, 273, 272, 295, 294, 292, 291, 314] ++ [313, 311, 310, 333, 332, 330, 329, 352, 351, 349, 348, 371, 370, 368, 367, 390, 389, 387, 386, 409, 408, 406, 405, 428, 427, 425, 424, 979, 980, 981] ++ [529, 556, 739, 801, 830, 864, 921, 978, 21, 20, 28, 27, 35, 34, 42, 41, 49, 48, 56, 55, 63, 62, 70, 69, 77, 76, 84, 83, 91, 90] ++ [96, 95, 103, 102, 110, 109, 117, 116, 124, 123, 129, 128, 136, 135, 141, 140, 146, 145, 151, 150, 158, 157, 165, 164, 170, 169, 177, 176, 182, 181] ++ [187, 186, 194, 193, 199, 198, 206, 205, 213, 212, 220, 219, 437, 436, 444, 443, 451, 450, 458, 457, 465, 464, 472, 471, 479, 478, 486, 485, 493, 492] ++ [500, 499, 507, 506, 514, 513, 521, 520, 528, 527, 536, 535, 543, 542, 548, 547, 555, 554, 584, 583, 633, 632, 640, 639, 661, 660, 668, 667, 675, 674] ++ [682, 681, 689, 688, 696, 695, 703, 702, 710, 709, 717, 716, 746, 745, 753, 752, 760, 759, 767, 766, 774, 773, 781, 780, 788, 787, 795, 794, 800, 799] ++ [808, 807, 815, 814, 822, 821, 829, 828, 835, 834, 842, 841, 849, 848, 856, 855, 863, 862, 871, 870, 878, 877, 885, 884, 892, 891, 899, 898, 906, 905] ++ [913, 912, 920, 919, 928, 927, 956, 955, 963, 962, 970, 969, 977, 976, 988, 987, 995, 994, 1002, 1001, 1009, 1008, 1016, 1015, 1023, 1022, 0, 1, 2, 4] ++ [6]
structure FA where
  at_ : Addr
  cd : Addr
  name : Str
  qual : Str
  st : Stmt
def fnG (g : Addr → Option Obj) (a : Addr) : He.FnW := match g a with
  | some ⟨_, _, .func fd, _⟩ => some (fd.name, fd.qualname, fd.params, fd.body, fd.scope, fd.globals, fd.closure, fd.builtins)
  | _ => none
def FA.val (d : FA) : He.FnW := some (d.name, d.qual, defArgs d.st, .stmts (defBody d.st), defScope d.st, mainGlobals, [], builtinsNs)
def FA.ok (g : Addr → Option Obj) (d : FA) : Bool := match g d.at_ with
  | some ⟨_, _, .func fd, _⟩ => (match fd.defaults with | .none => true | _ => false) && (match fd.code with | .ref c => decide (c = d.cd) | _ => false) &&
    (match g d.cd with | some ⟨_, _, .fields vs, _⟩ => (match vs.toList with | _ :: .str n _ :: _ => n == d.qual | _ => false) | _ => false)
  | _ => false
def fn0 : List FA := [⟨21, 20, "common_divisor", "common_divisor", topS 1⟩, ⟨28, 27, "ratio", "ratio", topS 2⟩, ⟨35, 34, "plus", "plus", topS 3⟩, ⟨42, 41, "minus", "minus", topS 4⟩, ⟨49, 48, "times", "times", topS 5⟩, ⟨56, 55, "quotient", "quotient", topS 6⟩, ⟨63, 62, "total", "total", topS 7⟩, ⟨70, 69, "power", "power", topS 8⟩, ⟨77, 76, "at_most", "at_most", topS 9⟩, ⟨84, 83, "cheats_at", "cheats_at", topS 11⟩, ⟨91, 90, "share_of", "share_of", topS 12⟩, ⟨96, 95, "share_of_set", "share_of_set", topS 13⟩, ⟨103, 102, "prior_of", "prior_of", topS 14⟩, ⟨110, 109, "joint_test", "joint_test", topS 15⟩, ⟨117, 116, "joint_production", "joint_production", topS 16⟩, ⟨124, 123, "value_at", "value_at", topS 17⟩, ⟨129, 128, "paying_signals", "paying_signals", topS 18⟩, ⟨136, 135, "rational_cheat_set", "rational_cheat_set", topS 19⟩, ⟨141, 140, "profit_of", "profit_of", topS 20⟩, ⟨146, 145, "detection_under", "detection_under", topS 21⟩, ⟨151, 150, "harm_under", "harm_under", topS 22⟩, ⟨158, 157, "cost_of", "cost_of", topS 23⟩, ⟨165, 164, "is_consistent", "is_consistent", topS 28⟩, ⟨170, 169, "candidates_under", "candidates_under", topS 29⟩, ⟨177, 176, "candidates_of", "candidates_of", topS 30⟩, ⟨182, 181, "suspects_of", "suspects_of", topS 31⟩, ⟨187, 186, "belief_in", "belief_in", topS 32⟩, ⟨194, 193, "harm_of", "harm_of", topS 33⟩, ⟨199, 198, "next_harm", "next_harm", topS 34⟩, ⟨206, 205, "detection_of", "detection_of", topS 35⟩]
def fn1 : List FA := [⟨213, 212, "detected_by", "detected_by", topS 36⟩, ⟨220, 219, "is_allowed", "is_allowed", topS 37⟩, ⟨437, 436, "require_policy", "require_policy", topS 52⟩, ⟨444, 443, "require_signal", "require_signal", topS 53⟩, ⟨451, 450, "require_within", "require_within", topS 54⟩, ⟨458, 457, "require_fraction", "require_fraction", topS 55⟩, ⟨465, 464, "require_stakes", "require_stakes", topS 56⟩, ⟨472, 471, "require_empty_log", "require_empty_log", topS 57⟩, ⟨479, 478, "require_candidates", "require_candidates", topS 58⟩, ⟨486, 485, "counted", "counted", topS 60⟩, ⟨493, 492, "candidates", "candidates", topS 62⟩, ⟨500, 499, "belief", "belief", topS 63⟩, ⟨507, 506, "honest_belief", "honest_belief", topS 64⟩, ⟨514, 513, "suspects", "suspects", topS 65⟩, ⟨521, 520, "next_harm_probability", "next_harm_probability", topS 66⟩, ⟨528, 527, "worst_candidate", "worst_candidate", topS 67⟩, ⟨536, 535, "is_detectable", "is_detectable", topS 71⟩, ⟨543, 542, "policy_detection_probability", "policy_detection_probability", topS 72⟩, ⟨548, 547, "tests_needed", "tests_needed", topS 73⟩, ⟨555, 554, "are_distinguishable", "are_distinguishable", topS 74⟩, ⟨584, 583, "copy_of", "copy_of", topS 78⟩, ⟨633, 632, "with_prior", "with_prior", topS 82⟩, ⟨640, 639, "with_stakes", "with_stakes", topS 83⟩, ⟨661, 660, "prior_against", "prior_against", topS 87⟩, ⟨668, 667, "prior_against_all", "prior_against_all", topS 88⟩, ⟨675, 674, "considered_priors", "considered_priors", topS 89⟩, ⟨682, 681, "is_better", "is_better", topS 90⟩, ⟨689, 688, "cheapest", "cheapest", topS 91⟩, ⟨696, 695, "require_existing", "require_existing", topS 93⟩, ⟨703, 702, "deterrent_prior_at", "deterrent_prior_at", topS 94⟩]
def fn2 : List FA := [⟨710, 709, "deterrent_prior", "deterrent_prior", topS 95⟩, ⟨717, 716, "cheapest_prior", "cheapest_prior", topS 96⟩, ⟨746, 745, "require_appearing", "require_appearing", topS 103⟩, ⟨753, 752, "require_room", "require_room", topS 104⟩, ⟨760, 759, "require_possible_test", "require_possible_test", topS 105⟩, ⟨767, 766, "record_test", "record_test", topS 106⟩, ⟨774, 773, "record_production", "record_production", topS 107⟩, ⟨781, 780, "undo_record", "undo_record", topS 108⟩, ⟨788, 787, "get_log", "get_log", topS 109⟩, ⟨795, 794, "candidates_after_test", "candidates_after_test", topS 110⟩, ⟨800, 799, "counts", "counts", topS 111⟩, ⟨808, 807, "shown", "shown", topS 114⟩, ⟨815, 814, "permit", "permit", topS 115⟩, ⟨822, 821, "revoke_permit", "revoke_permit", topS 116⟩, ⟨829, 828, "permit_status", "permit_status", topS 117⟩, ⟨835, 834, "append_policy", "append_policy", topS 122⟩, ⟨842, 841, "add_policy", "add_policy", topS 123⟩, ⟨849, 848, "add_rational_policy", "add_rational_policy", topS 124⟩, ⟨856, 855, "remove_policy", "remove_policy", topS 125⟩, ⟨863, 862, "get_policy", "get_policy", topS 126⟩, ⟨871, 870, "cheating_value", "cheating_value", topS 129⟩, ⟨878, 877, "cheating_signals", "cheating_signals", topS 130⟩, ⟨885, 884, "expected_profit", "expected_profit", topS 131⟩, ⟨892, 891, "detection_probability", "detection_probability", topS 132⟩, ⟨899, 898, "harm_probability", "harm_probability", topS 133⟩, ⟨906, 905, "total_cost", "total_cost", topS 134⟩, ⟨913, 912, "cheating_signals_for_prior", "cheating_signals_for_prior", topS 135⟩, ⟨920, 919, "cheating_signals_for_stakes", "cheating_signals_for_stakes", topS 136⟩, ⟨928, 927, "create_setting", "create_setting", topS 141⟩, ⟨956, 955, "set_prior", "set_prior", topS 145⟩]
def fn3 : List FA := [⟨963, 962, "set_stakes", "set_stakes", topS 146⟩, ⟨970, 969, "set_prices", "set_prices", topS 147⟩, ⟨977, 976, "get_settings", "get_settings", topS 148⟩, ⟨988, 987, "split_calls", "split_calls", topS 156⟩, ⟨995, 994, "handler_of", "handler_of", topS 157⟩, ⟨1002, 1001, "carry_out", "carry_out", topS 158⟩, ⟨1009, 1008, "require_ready", "require_ready", topS 159⟩, ⟨1016, 1015, "answer_of", "answer_of", topS 160⟩, ⟨1023, 1022, "answers", "answers", topS 161⟩, ⟨570, 569, "__init__", "Setting.__init__", inClass (topS 77) 0⟩, ⟨598, 597, "__init__", "Policy.__init__", inClass (topS 79) 0⟩, ⟨619, 618, "__init__", "Monitor.__init__", inClass (topS 80) 0⟩, ⟨234, 233, "__init__", "Refusal.__init__", inClass (topS 39) 0⟩, ⟨254, 253, "__init__", "NoSetting.__init__", inClass (topS 40) 0⟩, ⟨273, 272, "__init__", "SettingExists.__init__", inClass (topS 41) 0⟩, ⟨292, 291, "__init__", "NotThere.__init__", inClass (topS 42) 0⟩, ⟨311, 310, "__init__", "OutsideLimits.__init__", inClass (topS 43) 0⟩, ⟨330, 329, "__init__", "LogNotEmpty.__init__", inClass (topS 44) 0⟩, ⟨349, 348, "__init__", "SameCheatSet.__init__", inClass (topS 45) 0⟩, ⟨368, 367, "__init__", "Full.__init__", inClass (topS 46) 0⟩, ⟨387, 386, "__init__", "NoValue.__init__", inClass (topS 47) 0⟩, ⟨406, 405, "__init__", "HarmTooHigh.__init__", inClass (topS 48) 0⟩, ⟨425, 424, "__init__", "NothingToUndo.__init__", inClass (topS 49) 0⟩]
def fn : List FA := fn0 ++ fn1 ++ fn2 ++ fn3
def gl0 : List (Str × Addr) := [("common_divisor", 21), ("ratio", 28), ("plus", 35), ("minus", 42), ("times", 49), ("quotient", 56), ("total", 63), ("power", 70), ("at_most", 77), ("cheats_at", 84), ("share_of", 91), ("share_of_set", 96), ("prior_of", 103), ("joint_test", 110), ("joint_production", 117), ("value_at", 124), ("paying_signals", 129), ("rational_cheat_set", 136), ("profit_of", 141), ("detection_under", 146), ("harm_under", 151), ("cost_of", 158), ("is_consistent", 165), ("candidates_under", 170), ("candidates_of", 177), ("suspects_of", 182), ("belief_in", 187), ("harm_of", 194), ("next_harm", 199), ("detection_of", 206)]
def gl1 : List (Str × Addr) := [("detected_by", 213), ("is_allowed", 220), ("require_policy", 437), ("require_signal", 444), ("require_within", 451), ("require_fraction", 458), ("require_stakes", 465), ("require_empty_log", 472), ("require_candidates", 479), ("counted", 486), ("candidates", 493), ("belief", 500), ("honest_belief", 507), ("suspects", 514), ("next_harm_probability", 521), ("worst_candidate", 528), ("is_detectable", 536), ("policy_detection_probability", 543), ("tests_needed", 548), ("are_distinguishable", 555), ("copy_of", 584), ("with_prior", 633), ("with_stakes", 640), ("prior_against", 661), ("prior_against_all", 668), ("considered_priors", 675), ("is_better", 682), ("cheapest", 689), ("require_existing", 696), ("deterrent_prior_at", 703)]
def gl2 : List (Str × Addr) := [("deterrent_prior", 710), ("cheapest_prior", 717), ("require_appearing", 746), ("require_room", 753), ("require_possible_test", 760), ("record_test", 767), ("record_production", 774), ("undo_record", 781), ("get_log", 788), ("candidates_after_test", 795), ("counts", 800), ("shown", 808), ("permit", 815), ("revoke_permit", 822), ("permit_status", 829), ("append_policy", 835), ("add_policy", 842), ("add_rational_policy", 849), ("remove_policy", 856), ("get_policy", 863), ("cheating_value", 871), ("cheating_signals", 878), ("expected_profit", 885), ("detection_probability", 892), ("harm_probability", 899), ("total_cost", 906), ("cheating_signals_for_prior", 913), ("cheating_signals_for_stakes", 920), ("create_setting", 928), ("set_prior", 956)]
def gl3 : List (Str × Addr) := [("set_stakes", 963), ("set_prices", 970), ("get_settings", 977), ("split_calls", 988), ("handler_of", 995), ("carry_out", 1002), ("require_ready", 1009), ("answer_of", 1016), ("answers", 1023)]
def gl : List (Str × Addr) := gl0 ++ gl1 ++ gl2 ++ gl3
def inis0 : List (Str × Addr) := [("Setting", 570), ("Policy", 598), ("Monitor", 619), ("Refusal", 234), ("NoSetting", 254), ("SettingExists", 273), ("NotThere", 292), ("OutsideLimits", 311), ("LogNotEmpty", 330), ("SameCheatSet", 349), ("Full", 368), ("NoValue", 387), ("HarmTooHigh", 406), ("NothingToUndo", 425)]
def inis : List (Str × Addr) := inis0
def fa0 : List He.Fa := [.glo "Setting", .glo "Policy", .glo "Monitor", .glo "Refusal", .glo "NoSetting", .glo "SettingExists", .glo "NotThere", .glo "OutsideLimits", .glo "LogNotEmpty", .glo "SameCheatSet", .glo "Full", .glo "NoValue", .glo "HarmTooHigh", .glo "NothingToUndo", .glo "TAKES_ONE_NUMBER", .glo "TAKES_TWO_NUMBERS", .glo "TAKES_ONE_LIST", .glo "BELIEF_CALLS", .glo "DETECTION_CALLS", .glo "DETERRENCE_CALLS", .glo "LOG_CALLS", .glo "PERMIT_CALLS", .glo "POLICY_CALLS", .glo "RATIONAL_CALLS", .glo "SETTING_CALLS", .free "abs", .free "len", .free "sum", .free "all", .free "list"]
def fa1 : List He.Fa := [.free "range", .free "enumerate", .int "BEHAVED" 0, .int "CHEATED" 1, .int "PRODUCTION" 2, .int "MOST_STAKE" 999, .int "MOST_TESTS" 12, .int "MOST_ENTRIES" 16, .int "MOST_POLICIES" 6, .int "MOST_WEIGHT_policy_calls" 99, .int "MOST_SIGNALS" 5, .int "MOST_WEIGHT_setting_calls" 99, .int "RESET" 0, .int "CREATE_SETTING" 24, .cls "Monitor", .mkr "Monitor", .noat "Monitor" "setting", .noat "Monitor" "policies", .noat "Monitor" "log", .noat "Monitor" "permit", .cls "Policy", .mkr "Policy", .noat "Policy" "cheat_set", .noat "Policy" "weight", .cls "Setting", .mkr "Setting", .noat "Setting" "signal_count", .noat "Setting" "test_weights", .noat "Setting" "production_weights", .noat "Setting" "prior_num"]
def fa2 : List He.Fa := [.noat "Setting" "prior_den", .noat "Setting" "gain", .noat "Setting" "loss", .noat "Setting" "harm_price", .noat "Setting" "test_price"]
def fa : List He.Fa := fa0 ++ fa1 ++ fa2
def loose0 : List Str := ["common_divisor", "ratio", "plus", "minus", "times", "quotient", "total", "power", "at_most", "cheats_at", "share_of", "share_of_set", "prior_of", "joint_test", "joint_production", "value_at", "paying_signals", "rational_cheat_set", "profit_of", "detection_under", "harm_under", "cost_of", "is_consistent", "candidates_under", "candidates_of", "suspects_of", "belief_in", "harm_of", "next_harm", "detection_of"]
def loose1 : List Str := ["detected_by", "is_allowed", "require_policy", "require_signal", "require_within", "require_fraction", "require_stakes", "require_empty_log", "require_candidates", "counted", "candidates", "belief", "honest_belief", "suspects", "next_harm_probability", "worst_candidate", "is_detectable", "policy_detection_probability", "tests_needed", "are_distinguishable", "copy_of", "with_prior", "with_stakes", "merged_weights", "merged", "prior_against", "prior_against_all", "considered_priors", "is_better", "cheapest"]
def loose2 : List Str := ["require_existing", "deterrent_prior_at", "deterrent_prior", "cheapest_prior", "require_mapping", "preview_merge", "merge_signals", "require_appearing", "require_room", "require_possible_test", "record_test", "record_production", "undo_record", "get_log", "candidates_after_test", "counts", "shown", "permit", "revoke_permit", "permit_status", "append_policy", "add_policy", "add_rational_policy", "remove_policy", "get_policy", "cheating_value", "cheating_signals", "expected_profit", "detection_probability", "harm_probability"]
def loose3 : List Str := ["total_cost", "cheating_signals_for_prior", "cheating_signals_for_stakes", "create_setting", "require_weights", "set_test_weights", "set_production_weights", "set_prior", "set_stakes", "set_prices", "get_settings", "split_calls", "handler_of", "carry_out", "require_ready", "answer_of", "Refusal", "NoSetting", "SettingExists", "NotThere", "OutsideLimits", "LogNotEmpty", "SameCheatSet", "Full", "NoValue", "HarmTooHigh", "NothingToUndo", "Setting", "Policy", "Monitor"]
def loose4 : List Str := ["BEHAVED", "CHEATED", "PRODUCTION", "MOST_STAKE", "MOST_TESTS", "MOST_ENTRIES", "MOST_POLICIES", "MOST_WEIGHT_policy_calls", "MOST_SIGNALS", "MOST_WEIGHT_setting_calls", "RESET", "CREATE_SETTING", "TAKES_ONE_NUMBER", "TAKES_TWO_NUMBERS", "TAKES_ONE_LIST", "BELIEF_CALLS", "DETECTION_CALLS", "DETERRENCE_CALLS", "LOG_CALLS", "PERMIT_CALLS", "POLICY_CALLS", "RATIONAL_CALLS", "SETTING_CALLS"]
def loose : List Str := loose0 ++ loose1 ++ loose2 ++ loose3 ++ loose4
/-- a class over Refusal: all that SubTxt asks but its __init__'s text -/
def subB (K : PySem.W.Frag) (x : Str) : Bool := PySem.W.excInitIn K (He.ga K x) bmR "Exception.__new__" && ((match PySem.W.clsIn K (He.ga K x) with | some cd => ownThen cd.mro && cd.hasDict | none => false) &&
  (He.eqO (PySem.W.findIn K (.ref (He.ga K x)) "__setattr__") (some (some (.builtin "object.__setattr__"))) && (He.eqO (PySem.W.findIn K (.ref (He.ga K x)) "__getattribute__") (some (some (.builtin "BaseException.__getattribute__"))) &&
  (He.eqO (PySem.W.findIn K (.ref (He.ga K x)) "__getattr__") (some none) && (He.eqO (PySem.W.findIn K (.ref (He.ga K x)) "code") (some none) && (He.eqO (PySem.W.findIn K (.ref (He.ga K x)) "__init__") (some (some (.ref (He.ma K (He.ga K x) "__init__")))) &&
  (PySem.W.isFn K (.ref (He.ma K (He.ga K x) "__init__")) && (PySem.W.keepIn K (.ref (He.ga K x)) && (decide (PySem.W.subIn K (.ref (He.ga K x)) (.type "BaseException") = some true) && (decide (PySem.W.typeIn K (.ref (He.ga K x)) = some (.type "type")) &&
  (PySem.W.hasDictIn K (He.ga K x) && decide (PySem.W.exmOne K (.ref (He.ga K x)) (.ref (He.ga K "Refusal")) = some true))))))))))))
def baseB (K : PySem.W.Frag) : Bool := PySem.W.readsIn K (He.ga K "Refusal") (.type "type") && (He.eqO (PySem.W.specialIn K (.ref (He.ga K "Refusal")) "__getattribute__") (some (some (.builtin "type.__getattribute__"))) &&
  ((match PySem.W.findCls K (.ref (He.ga K "Refusal")) (.type "type") "__init__" with | some (.val (.ref a)) => decide (a = He.ma K (He.ga K "Refusal") "__init__") | _ => false) && PySem.W.keepIn K (.ref (He.ma K (He.ga K "Refusal") "__init__"))))
/-- a dict of the top: numbers to defs -/
def entB (K : PySem.W.Frag) : List (Nat × Str) → List DictEntry → Bool
  | [], [] => true
  | (k, x) :: r, e :: es => (match e.key, e.val with | .int i _, .ref a => decide (i = (k : Int)) && (decide (a = He.ga K x) && (decide (e.hash = hashInt i) && (He.Fa.glo x).ok K)) | _, _ => false) && entB K r es
  | _, _ => false
def dctB (K : PySem.W.Frag) (x : Str) (l : List (Nat × Str)) : Bool := match K.lookup (He.ga K x) with
  | some ⟨.type c, none, .dict es _, sl⟩ => decide (c = "dict") && (sl.isEmpty && (!(He.ga K x == sysModules) && entB K l es.toList))
  | _ => false
def subs : List Str := ["NoSetting", "SettingExists", "NotThere", "OutsideLimits", "LogNotEmpty", "SameCheatSet", "Full", "NoValue", "HarmTooHigh", "NothingToUndo"]
def tupAll (K : PySem.W.Frag) : Bool := He.tupB K "TAKES_ONE_NUMBER" [.int 2, .int 3, .int 4, .int 6, .int 10, .int 12, .int 15, .int 24, .int 30, .int 36] && He.tupB K "TAKES_TWO_NUMBERS" [.int 1, .int 5, .int 16, .int 17, .int 18, .int 19, .int 22, .int 27, .int 28, .int 29, .int 41, .int 42] && He.tupB K "TAKES_ONE_LIST" [.int 25, .int 26, .int 38, .int 39]
def dctAll (K : PySem.W.Frag) : Bool := dctB K "BELIEF_CALLS" tb_BELIEF_CALLS && (dctB K "DETECTION_CALLS" tb_DETECTION_CALLS && (dctB K "DETERRENCE_CALLS" tb_DETERRENCE_CALLS && (dctB K "LOG_CALLS" tb_LOG_CALLS && (dctB K "PERMIT_CALLS" tb_PERMIT_CALLS && (dctB K "POLICY_CALLS" tb_POLICY_CALLS && (dctB K "RATIONAL_CALLS" tb_RATIONAL_CALLS && (dctB K "SETTING_CALLS" tb_SETTING_CALLS)))))))
def ex (K : PySem.W.Frag) : Bool := baseB K && (subs.all (subB K) && (tupAll K && dctAll K))
abbrev R : PySem.W.OpenSpec := PySem.Challenge.rw_policywatch_s01_answers
abbrev qv : Program := PySem.W.view R.prog [161]
abbrev Al : Type := List He.FnW × Bool
def glB (K : PySem.W.Frag) : Bool := gl.all fun p => He.eqO (PySem.W.nsIn K mainGlobals p.1) (some (some (.ref p.2)))
def inB (K : PySem.W.Frag) : Bool := inis.all fun p => decide (He.ma K (He.ga K p.1) "__init__" = p.2)
def all (K : PySem.W.Frag) : Bool := glB K && (inB K && ((fa.all fun f => f.ok K) && ex K))
def txP (g : Addr → Option Obj) : List He.FnW := fn.map fun d => fnG g d.at_
def okP (g : Addr → Option Obj) : Bool := fn.all fun d => d.ok g
def alP (g : Addr → Option Obj) : Bool := all (He.frG g AS)
def obsP (g : Addr → Option Obj) : Al := (txP g, okP g && alP g)
theorem inAS : (fn.all fun d => AS.contains d.at_ && AS.contains d.cd) = true := by decide +kernel
theorem frG_get {g : Addr → Option Obj} {a : Addr} {o : Obj} : ∀ as : List Addr, a ∈ as → g a = some o → (He.frG g as).lookup a = some o
  | [], h, _ => absurd h (by simp)
  | b :: r, h, e => by
    have ih := frG_get (g := g) (a := a) (o := o) r
    show List.lookup a (List.filterMap (fun a => (g a).map fun o => (a, o)) (b :: r)) = some o
    by_cases hb : a = b
    · subst hb
      rw [List.filterMap_cons_some (b := (a, o)) (by rw [e]; rfl)]
      simp [List.lookup]
    · have hr : a ∈ r := by
        rcases List.mem_cons.mp h with z | z
        · exact absurd z hb
        · exact z
      have ih2 : List.lookup a (List.filterMap (fun a => (g a).map fun o => (a, o)) r) = some o := ih hr e
      cases q : g b with
      | none =>
        rw [List.filterMap_cons_none (by rw [q]; rfl)]
        exact ih2
      | some ob =>
        rw [List.filterMap_cons_some (b := (b, ob)) (by rw [q]; rfl)]
        have z : (a == b) = false := by simpa using hb
        simp [List.lookup, z]
        exact ih2
/-- a def of the text, as it stands behind the top -/
def FA.Is (K : PySem.W.Frag) (d : FA) : Prop := ∃ fd, Fun K d.name d.qual d.st d.at_ fd
def Says (K : PySem.W.Frag) : Prop := (∀ d ∈ fn, FA.Is K d) ∧ all K = true
theorem FA.is {g : Addr → Option Obj} {d : FA} (hd : d ∈ fn) (e : fnG g d.at_ = d.val) (c : d.ok g = true) : FA.Is (He.frG g AS) d := by
  have m := List.all_eq_true.mp inAS d hd
  rw [Bool.and_eq_true, List.contains_iff_mem, List.contains_iff_mem] at m
  unfold fnG at e
  unfold FA.ok at c
  cases q : g d.at_ with
  | none => rw [q] at c; cases c
  | some o =>
    obtain ⟨oc, od, dt, osl⟩ := o
    rw [q] at c e
    cases dt with
    | func fd =>
      obtain ⟨x1, x2, x3, x4, x5, x6, x7, x8, x9, x10, x11, x12, x13, x14, x15⟩ := fd
      have e2 : (some (x1, x2, x3, x4, x5, x6, x7, x15) : He.FnW) = some (d.name, d.qual, defArgs d.st, .stmts (defBody d.st), defScope d.st, mainGlobals, [], builtinsNs) := e
      simp only [Option.some.injEq, Prod.mk.injEq] at e2
      obtain ⟨h1, h2, h3, h4, h5, h6, h7, h8⟩ := e2
      have c1 := c
      rw [Bool.and_eq_true, Bool.and_eq_true] at c1
      obtain ⟨⟨c2, c3⟩, c4⟩ := c1
      have k8 : x8 = .none := by
        cases x8 <;> first | rfl | cases c2
      have k13 : x13 = .ref d.cd := by
        cases x13 <;> first | (have := of_decide_eq_true c3; rw [this]) | cases c3
      have lk := frG_get AS m.1 q
      subst h1 h2 h3 h4 h5 h6 h7 h8 k8 k13
      refine ⟨_, ⟨oc, od, _, _, _, _, _, _, _, rfl, lk, ?_⟩, ?_⟩
      · unfold PySem.W.codeIn
        cases q2 : g d.cd with
        | none => rw [q2] at c4; cases c4
        | some o2 =>
          dsimp only
          rw [frG_get AS m.2 q2]
          rw [q2] at c4
          exact c4
      · unfold PySem.W.keepIn
        dsimp only
        rw [lk]
    | _ => cases c
theorem says_of {g : Addr → Option Obj} (e : obsP g = (fn.map FA.val, true)) : Says (He.frG g AS) := by
  have e1 : (fn.map fun d => fnG g d.at_) = fn.map FA.val := congrArg (fun z : Al => z.1) e
  have e2 : ((fn.all fun d => d.ok g) && all (He.frG g AS)) = true := congrArg (fun z : Al => z.2) e
  obtain ⟨h1, h2⟩ := He.ba e2
  refine ⟨fun d hd => ?_, h2⟩
  obtain ⟨i, hi, ei⟩ := List.mem_iff_getElem.mp hd
  have e3 : (fn.map fun d => fnG g d.at_)[i]? = (fn.map FA.val)[i]? := by rw [e1]
  rw [List.getElem?_map, List.getElem?_map, List.getElem?_eq_getElem hi, ei] at e3
  exact FA.is hd (Option.some.inj e3) (List.all_eq_true.mp h1 d hd)
def hk : PySem.W.Hook where
  α := Al
  obs := fun s => obsP s.heap.get?
  val := fun _ => (fn.map FA.val, true)
  says := fun _ h => ∃ K : PySem.W.Frag, K.In h ∧ Says K
  of := fun _ _ e => ⟨_, He.frG_in, says_of e⟩
  keeps := fun _ _ _ ⟨K, hK, c⟩ k => ⟨K, PySem.W.Frag.In.keeps hK k, c⟩
def ob (s : PySem.W.SharedT) : Al := obsP (HandSHeadRun.getT s)
theorem ob_eq (s : PySem.W.SharedT) : ob s = hk.obs s.abs := by
  have e : HandSHeadRun.getT s = s.abs.heap.get? := funext (HandSHeadRun.getT_eq s)
  show obsP _ = obsP _
  rw [e]
end PW.Hd
set_option Elab.async false
set_option linter.all false
set_option maxRecDepth 100000
set_option maxHeartbeats 0
namespace PW.Hd
open PySem PySem.Spec PyProof.Rows L2 PySem.W HandSHeadRun
theorem runL_f (w : World) (os : OsState) : (endF (stepQ (denQ tabQ) R.prog (w.withFollow "special-get-raises" false)) 20000 R.prog (w.withFollow "special-get-raises" false) os).map (fun s => looksF R.prog (boot_heap (w.withFollow "special-get-raises" false).params) s.abs) = some true := by kernel_rfl
end PW.Hd
set_option Elab.async false
set_option linter.all false
set_option maxRecDepth 100000
set_option maxHeartbeats 0
namespace PW.Hd
open PySem PySem.Spec PyProof.Rows L2 PySem.W HandSHeadRun
theorem runS_f (w : World) (os : OsState) : (endF (stepQ (denQ tabQ) R.prog (w.withFollow "special-get-raises" false)) 20000 R.prog (w.withFollow "special-get-raises" false) os).map (fun s => seenQ qv loose (importedModules R.prog.main.body) (fun s => xlAt qv [] s && recOk [] s) s.abs) = some (openGood qv loose) := by kernel_rfl
end PW.Hd
set_option Elab.async false
set_option linter.all false
set_option maxRecDepth 100000
set_option maxHeartbeats 0
namespace PW.Hd
open PySem PySem.Spec PyProof.Rows L2 PySem.W HandSHeadRun
theorem runX_f (w : World) (os : OsState) : (endF (stepQ (denQ tabQ) R.prog (w.withFollow "special-get-raises" false)) 20000 R.prog (w.withFollow "special-get-raises" false) os).map (fun s => (txP (HandSHeadRun.getT s), okP (HandSHeadRun.getT s))) = some (fn.map FA.val, true) := by kernel_rfl
end PW.Hd
set_option Elab.async false
set_option linter.all false
set_option maxRecDepth 100000
set_option maxHeartbeats 0
namespace PW.Hd
open PySem PySem.Spec PyProof.Rows L2 PySem.W HandSHeadRun
theorem runA_f (w : World) (os : OsState) : (endF (stepQ (denQ tabQ) R.prog (w.withFollow "special-get-raises" false)) 20000 R.prog (w.withFollow "special-get-raises" false) os).map (fun s => alP (HandSHeadRun.getT s)) = some true := by kernel_rfl
end PW.Hd
set_option Elab.async false
set_option linter.all false
set_option maxRecDepth 100000
set_option maxHeartbeats 0
namespace PW.Hd
open PySem PySem.Spec PyProof.Rows L2 PySem.W HandSHeadRun
theorem runL_t (w : World) (os : OsState) : (endF (stepQ (denQ tabQ) R.prog (w.withFollow "special-get-raises" true)) 20000 R.prog (w.withFollow "special-get-raises" true) os).map (fun s => looksF R.prog (boot_heap (w.withFollow "special-get-raises" true).params) s.abs) = some true := by kernel_rfl
end PW.Hd
set_option Elab.async false
set_option linter.all false
set_option maxRecDepth 100000
set_option maxHeartbeats 0
namespace PW.Hd
open PySem PySem.Spec PyProof.Rows L2 PySem.W HandSHeadRun
theorem runS_t (w : World) (os : OsState) : (endF (stepQ (denQ tabQ) R.prog (w.withFollow "special-get-raises" true)) 20000 R.prog (w.withFollow "special-get-raises" true) os).map (fun s => seenQ qv loose (importedModules R.prog.main.body) (fun s => xlAt qv [] s && recOk [] s) s.abs) = some (openGood qv loose) := by kernel_rfl
end PW.Hd
set_option Elab.async false
set_option linter.all false
set_option maxRecDepth 100000
set_option maxHeartbeats 0
namespace PW.Hd
open PySem PySem.Spec PyProof.Rows L2 PySem.W HandSHeadRun
theorem runX_t (w : World) (os : OsState) : (endF (stepQ (denQ tabQ) R.prog (w.withFollow "special-get-raises" true)) 20000 R.prog (w.withFollow "special-get-raises" true) os).map (fun s => (txP (HandSHeadRun.getT s), okP (HandSHeadRun.getT s))) = some (fn.map FA.val, true) := by kernel_rfl
end PW.Hd
set_option Elab.async false
set_option linter.all false
set_option maxRecDepth 100000
set_option maxHeartbeats 0
namespace PW.Hd
open PySem PySem.Spec PyProof.Rows L2 PySem.W HandSHeadRun
theorem runA_t (w : World) (os : OsState) : (endF (stepQ (denQ tabQ) R.prog (w.withFollow "special-get-raises" true)) 20000 R.prog (w.withFollow "special-get-raises" true) os).map (fun s => alP (HandSHeadRun.getT s)) = some true := by kernel_rfl
end PW.Hd
set_option Elab.async false
set_option linter.all false
set_option maxRecDepth 100000
set_option maxHeartbeats 0
/-! What else is asked of the row: looked at by the kernel. -/
namespace PW.Hd
open PySem PySem.W PySem.Calls PyProof.Rows
theorem well : R.wellSaid = true := by decide +kernel
theorem bare_ : R.prog.bare := ⟨rfl, rfl, rfl, rfl, rfl, by decide +kernel⟩
end PW.Hd
set_option Elab.async false
set_option linter.all false
set_option maxRecDepth 100000
set_option maxHeartbeats 4000000
/-! Each def's place, its scope, how its arguments bind; what the top leaves (Tx). Written by tools/gentx.py. -/
namespace PW
open PySem PySem.Spec PyProof.Rows L2
abbrev s_common_divisor : Stmt := topS 1
theorem sc_common_divisor : FnScope ["first", "second", "rest"] ["first", "second"] (defScope s_common_divisor) := ⟨rfl, rfl, rfl, by decide +kernel, rfl, by decide +kernel, by decide +kernel⟩
theorem bd_common_divisor : BindsBy s_common_divisor "common_divisor" ["first", "second"] := fun _ _ _ _ _ _ us hl => match us, hl with | [_, _], _ => rfl
abbrev s_ratio : Stmt := topS 2
theorem sc_ratio : FnScope ["num", "den", "divisor"] ["num", "den"] (defScope s_ratio) := ⟨rfl, rfl, rfl, by decide +kernel, rfl, by decide +kernel, by decide +kernel⟩
theorem bd_ratio : BindsBy s_ratio "ratio" ["num", "den"] := fun _ _ _ _ _ _ us hl => match us, hl with | [_, _], _ => rfl
abbrev s_plus : Stmt := topS 3
theorem sc_plus : FnScope ["first", "second"] ["first", "second"] (defScope s_plus) := ⟨rfl, rfl, rfl, by decide +kernel, rfl, by decide +kernel, by decide +kernel⟩
theorem bd_plus : BindsBy s_plus "plus" ["first", "second"] := fun _ _ _ _ _ _ us hl => match us, hl with | [_, _], _ => rfl
abbrev s_minus : Stmt := topS 4
theorem sc_minus : FnScope ["first", "second"] ["first", "second"] (defScope s_minus) := ⟨rfl, rfl, rfl, by decide +kernel, rfl, by decide +kernel, by decide +kernel⟩
theorem bd_minus : BindsBy s_minus "minus" ["first", "second"] := fun _ _ _ _ _ _ us hl => match us, hl with | [_, _], _ => rfl
abbrev s_times : Stmt := topS 5
theorem sc_times : FnScope ["first", "second"] ["first", "second"] (defScope s_times) := ⟨rfl, rfl, rfl, by decide +kernel, rfl, by decide +kernel, by decide +kernel⟩
theorem bd_times : BindsBy s_times "times" ["first", "second"] := fun _ _ _ _ _ _ us hl => match us, hl with | [_, _], _ => rfl
abbrev s_quotient : Stmt := topS 6
theorem sc_quotient : FnScope ["first", "second"] ["first", "second"] (defScope s_quotient) := ⟨rfl, rfl, rfl, by decide +kernel, rfl, by decide +kernel, by decide +kernel⟩
theorem bd_quotient : BindsBy s_quotient "quotient" ["first", "second"] := fun _ _ _ _ _ _ us hl => match us, hl with | [_, _], _ => rfl
abbrev s_total : Stmt := topS 7
theorem sc_total : FnScope ["fractions", "whole", "fraction"] ["fractions"] (defScope s_total) := ⟨rfl, rfl, rfl, by decide +kernel, rfl, by decide +kernel, by decide +kernel⟩
theorem bd_total : BindsBy s_total "total" ["fractions"] := fun _ _ _ _ _ _ us hl => match us, hl with | [_], _ => rfl
abbrev s_power : Stmt := topS 8
theorem sc_power : FnScope ["base", "exponent", "product", "step"] ["base", "exponent"] (defScope s_power) := ⟨rfl, rfl, rfl, by decide +kernel, rfl, by decide +kernel, by decide +kernel⟩
theorem bd_power : BindsBy s_power "power" ["base", "exponent"] := fun _ _ _ _ _ _ us hl => match us, hl with | [_, _], _ => rfl
abbrev s_at_most : Stmt := topS 9
theorem sc_at_most : FnScope ["first", "second"] ["first", "second"] (defScope s_at_most) := ⟨rfl, rfl, rfl, by decide +kernel, rfl, by decide +kernel, by decide +kernel⟩
theorem bd_at_most : BindsBy s_at_most "at_most" ["first", "second"] := fun _ _ _ _ _ _ us hl => match us, hl with | [_, _], _ => rfl
abbrev s_cheats_at : Stmt := topS 11
theorem sc_cheats_at : FnScope ["cheat_set", "signal"] ["cheat_set", "signal"] (defScope s_cheats_at) := ⟨rfl, rfl, rfl, by decide +kernel, rfl, by decide +kernel, by decide +kernel⟩
theorem bd_cheats_at : BindsBy s_cheats_at "cheats_at" ["cheat_set", "signal"] := fun _ _ _ _ _ _ us hl => match us, hl with | [_, _], _ => rfl
abbrev s_share_of : Stmt := topS 12
theorem sc_share_of : FnScope ["weights", "signal"] ["weights", "signal"] (defScope s_share_of) := ⟨rfl, rfl, rfl, by decide +kernel, rfl, by decide +kernel, by decide +kernel⟩
theorem bd_share_of : BindsBy s_share_of "share_of" ["weights", "signal"] := fun _ _ _ _ _ _ us hl => match us, hl with | [_, _], _ => rfl
abbrev s_share_of_set : Stmt := topS 13
theorem sc_share_of_set : FnScope ["weights", "cheat_set", "inside", "signal", "weight"] ["weights", "cheat_set"] (defScope s_share_of_set) := ⟨rfl, rfl, rfl, by decide +kernel, rfl, by decide +kernel, by decide +kernel⟩
theorem bd_share_of_set : BindsBy s_share_of_set "share_of_set" ["weights", "cheat_set"] := fun _ _ _ _ _ _ us hl => match us, hl with | [_, _], _ => rfl
abbrev s_prior_of : Stmt := topS 14
theorem sc_prior_of : FnScope ["setting"] ["setting"] (defScope s_prior_of) := ⟨rfl, rfl, rfl, by decide +kernel, rfl, by decide +kernel, by decide +kernel⟩
theorem bd_prior_of : BindsBy s_prior_of "prior_of" ["setting"] := fun _ _ _ _ _ _ us hl => match us, hl with | [_], _ => rfl
abbrev s_joint_test : Stmt := topS 15
theorem sc_joint_test : FnScope ["setting", "signal"] ["setting", "signal"] (defScope s_joint_test) := ⟨rfl, rfl, rfl, by decide +kernel, rfl, by decide +kernel, by decide +kernel⟩
theorem bd_joint_test : BindsBy s_joint_test "joint_test" ["setting", "signal"] := fun _ _ _ _ _ _ us hl => match us, hl with | [_, _], _ => rfl
abbrev s_joint_production : Stmt := topS 16
theorem sc_joint_production : FnScope ["setting", "signal"] ["setting", "signal"] (defScope s_joint_production) := ⟨rfl, rfl, rfl, by decide +kernel, rfl, by decide +kernel, by decide +kernel⟩
theorem bd_joint_production : BindsBy s_joint_production "joint_production" ["setting", "signal"] := fun _ _ _ _ _ _ us hl => match us, hl with | [_, _], _ => rfl
abbrev s_value_at : Stmt := topS 17
theorem sc_value_at : FnScope ["setting", "signal", "earned", "lost"] ["setting", "signal"] (defScope s_value_at) := ⟨rfl, rfl, rfl, by decide +kernel, rfl, by decide +kernel, by decide +kernel⟩
theorem bd_value_at : BindsBy s_value_at "value_at" ["setting", "signal"] := fun _ _ _ _ _ _ us hl => match us, hl with | [_, _], _ => rfl
abbrev s_paying_signals : Stmt := topS 18
theorem sc_paying_signals : FnScope ["setting", "signal"] ["setting"] (defScope s_paying_signals) := ⟨rfl, rfl, rfl, by decide +kernel, rfl, by decide +kernel, by decide +kernel⟩
theorem bd_paying_signals : BindsBy s_paying_signals "paying_signals" ["setting"] := fun _ _ _ _ _ _ us hl => match us, hl with | [_], _ => rfl
abbrev s_rational_cheat_set : Stmt := topS 19
theorem sc_rational_cheat_set : FnScope ["setting", "cheat_set", "signal"] ["setting"] (defScope s_rational_cheat_set) := ⟨rfl, rfl, rfl, by decide +kernel, rfl, by decide +kernel, by decide +kernel⟩
theorem bd_rational_cheat_set : BindsBy s_rational_cheat_set "rational_cheat_set" ["setting"] := fun _ _ _ _ _ _ us hl => match us, hl with | [_], _ => rfl
abbrev s_profit_of : Stmt := topS 20
theorem sc_profit_of : FnScope ["setting", "signal"] ["setting"] (defScope s_profit_of) := ⟨rfl, rfl, rfl, by decide +kernel, rfl, by decide +kernel, by decide +kernel⟩
theorem bd_profit_of : BindsBy s_profit_of "profit_of" ["setting"] := fun _ _ _ _ _ _ us hl => match us, hl with | [_], _ => rfl
abbrev s_detection_under : Stmt := topS 21
theorem sc_detection_under : FnScope ["setting", "signal"] ["setting"] (defScope s_detection_under) := ⟨rfl, rfl, rfl, by decide +kernel, rfl, by decide +kernel, by decide +kernel⟩
theorem bd_detection_under : BindsBy s_detection_under "detection_under" ["setting"] := fun _ _ _ _ _ _ us hl => match us, hl with | [_], _ => rfl
abbrev s_harm_under : Stmt := topS 22
theorem sc_harm_under : FnScope ["setting", "signal"] ["setting"] (defScope s_harm_under) := ⟨rfl, rfl, rfl, by decide +kernel, rfl, by decide +kernel, by decide +kernel⟩
theorem bd_harm_under : BindsBy s_harm_under "harm_under" ["setting"] := fun _ _ _ _ _ _ us hl => match us, hl with | [_], _ => rfl
abbrev s_cost_of : Stmt := topS 23
theorem sc_cost_of : FnScope ["setting", "paid", "harmed"] ["setting"] (defScope s_cost_of) := ⟨rfl, rfl, rfl, by decide +kernel, rfl, by decide +kernel, by decide +kernel⟩
theorem bd_cost_of : BindsBy s_cost_of "cost_of" ["setting"] := fun _ _ _ _ _ _ us hl => match us, hl with | [_], _ => rfl
abbrev s_is_consistent : Stmt := topS 28
theorem sc_is_consistent : FnScope ["policy", "log", "kind", "signal"] ["policy", "log"] (defScope s_is_consistent) := ⟨rfl, rfl, rfl, by decide +kernel, rfl, by decide +kernel, by decide +kernel⟩
theorem bd_is_consistent : BindsBy s_is_consistent "is_consistent" ["policy", "log"] := fun _ _ _ _ _ _ us hl => match us, hl with | [_, _], _ => rfl
abbrev s_candidates_under : Stmt := topS 29
theorem sc_candidates_under : FnScope ["monitor", "log", "index", "policy"] ["monitor", "log"] (defScope s_candidates_under) := ⟨rfl, rfl, rfl, by decide +kernel, rfl, by decide +kernel, by decide +kernel⟩
theorem bd_candidates_under : BindsBy s_candidates_under "candidates_under" ["monitor", "log"] := fun _ _ _ _ _ _ us hl => match us, hl with | [_, _], _ => rfl
abbrev s_candidates_of : Stmt := topS 30
theorem sc_candidates_of : FnScope ["monitor"] ["monitor"] (defScope s_candidates_of) := ⟨rfl, rfl, rfl, by decide +kernel, rfl, by decide +kernel, by decide +kernel⟩
theorem bd_candidates_of : BindsBy s_candidates_of "candidates_of" ["monitor"] := fun _ _ _ _ _ _ us hl => match us, hl with | [_], _ => rfl
abbrev s_suspects_of : Stmt := topS 31
theorem sc_suspects_of : FnScope ["monitor", "signal", "policies", "index"] ["monitor", "signal"] (defScope s_suspects_of) := ⟨rfl, rfl, rfl, by decide +kernel, rfl, by decide +kernel, by decide +kernel⟩
theorem bd_suspects_of : BindsBy s_suspects_of "suspects_of" ["monitor", "signal"] := fun _ _ _ _ _ _ us hl => match us, hl with | [_, _], _ => rfl
abbrev s_belief_in : Stmt := topS 32
theorem sc_belief_in : FnScope ["monitor", "index", "found", "other"] ["monitor", "index"] (defScope s_belief_in) := ⟨rfl, rfl, rfl, by decide +kernel, rfl, by decide +kernel, by decide +kernel⟩
theorem bd_belief_in : BindsBy s_belief_in "belief_in" ["monitor", "index"] := fun _ _ _ _ _ _ us hl => match us, hl with | [_, _], _ => rfl
abbrev s_harm_of : Stmt := topS 33
theorem sc_harm_of : FnScope ["monitor", "index"] ["monitor", "index"] (defScope s_harm_of) := ⟨rfl, rfl, rfl, by decide +kernel, rfl, by decide +kernel, by decide +kernel⟩
theorem bd_harm_of : BindsBy s_harm_of "harm_of" ["monitor", "index"] := fun _ _ _ _ _ _ us hl => match us, hl with | [_, _], _ => rfl
abbrev s_next_harm : Stmt := topS 34
theorem sc_next_harm : FnScope ["monitor", "index"] ["monitor"] (defScope s_next_harm) := ⟨rfl, rfl, rfl, by decide +kernel, rfl, by decide +kernel, by decide +kernel⟩
theorem bd_next_harm : BindsBy s_next_harm "next_harm" ["monitor"] := fun _ _ _ _ _ _ us hl => match us, hl with | [_], _ => rfl
abbrev s_detection_of : Stmt := topS 35
theorem sc_detection_of : FnScope ["monitor", "index"] ["monitor", "index"] (defScope s_detection_of) := ⟨rfl, rfl, rfl, by decide +kernel, rfl, by decide +kernel, by decide +kernel⟩
theorem bd_detection_of : BindsBy s_detection_of "detection_of" ["monitor", "index"] := fun _ _ _ _ _ _ us hl => match us, hl with | [_, _], _ => rfl
abbrev s_detected_by : Stmt := topS 36
theorem sc_detected_by : FnScope ["detection", "tests"] ["detection", "tests"] (defScope s_detected_by) := ⟨rfl, rfl, rfl, by decide +kernel, rfl, by decide +kernel, by decide +kernel⟩
theorem bd_detected_by : BindsBy s_detected_by "detected_by" ["detection", "tests"] := fun _ _ _ _ _ _ us hl => match us, hl with | [_, _], _ => rfl
abbrev s_is_allowed : Stmt := topS 37
theorem sc_is_allowed : FnScope ["monitor"] ["monitor"] (defScope s_is_allowed) := ⟨rfl, rfl, rfl, by decide +kernel, rfl, by decide +kernel, by decide +kernel⟩
theorem bd_is_allowed : BindsBy s_is_allowed "is_allowed" ["monitor"] := fun _ _ _ _ _ _ us hl => match us, hl with | [_], _ => rfl
abbrev s_require_policy : Stmt := topS 52
theorem sc_require_policy : FnScope ["monitor", "index"] ["monitor", "index"] (defScope s_require_policy) := ⟨rfl, rfl, rfl, by decide +kernel, rfl, by decide +kernel, by decide +kernel⟩
theorem bd_require_policy : BindsBy s_require_policy "require_policy" ["monitor", "index"] := fun _ _ _ _ _ _ us hl => match us, hl with | [_, _], _ => rfl
abbrev s_require_signal : Stmt := topS 53
theorem sc_require_signal : FnScope ["monitor", "signal"] ["monitor", "signal"] (defScope s_require_signal) := ⟨rfl, rfl, rfl, by decide +kernel, rfl, by decide +kernel, by decide +kernel⟩
theorem bd_require_signal : BindsBy s_require_signal "require_signal" ["monitor", "signal"] := fun _ _ _ _ _ _ us hl => match us, hl with | [_, _], _ => rfl
abbrev s_require_within : Stmt := topS 54
theorem sc_require_within : FnScope ["number", "least", "most"] ["number", "least", "most"] (defScope s_require_within) := ⟨rfl, rfl, rfl, by decide +kernel, rfl, by decide +kernel, by decide +kernel⟩
theorem bd_require_within : BindsBy s_require_within "require_within" ["number", "least", "most"] := fun _ _ _ _ _ _ us hl => match us, hl with | [_, _, _], _ => rfl
abbrev s_require_fraction : Stmt := topS 55
theorem sc_require_fraction : FnScope ["num", "den"] ["num", "den"] (defScope s_require_fraction) := ⟨rfl, rfl, rfl, by decide +kernel, rfl, by decide +kernel, by decide +kernel⟩
theorem bd_require_fraction : BindsBy s_require_fraction "require_fraction" ["num", "den"] := fun _ _ _ _ _ _ us hl => match us, hl with | [_, _], _ => rfl
abbrev s_require_stakes : Stmt := topS 56
theorem sc_require_stakes : FnScope ["first", "second"] ["first", "second"] (defScope s_require_stakes) := ⟨rfl, rfl, rfl, by decide +kernel, rfl, by decide +kernel, by decide +kernel⟩
theorem bd_require_stakes : BindsBy s_require_stakes "require_stakes" ["first", "second"] := fun _ _ _ _ _ _ us hl => match us, hl with | [_, _], _ => rfl
abbrev s_require_empty_log : Stmt := topS 57
theorem sc_require_empty_log : FnScope ["monitor"] ["monitor"] (defScope s_require_empty_log) := ⟨rfl, rfl, rfl, by decide +kernel, rfl, by decide +kernel, by decide +kernel⟩
theorem bd_require_empty_log : BindsBy s_require_empty_log "require_empty_log" ["monitor"] := fun _ _ _ _ _ _ us hl => match us, hl with | [_], _ => rfl
abbrev s_require_candidates : Stmt := topS 58
theorem sc_require_candidates : FnScope ["monitor"] ["monitor"] (defScope s_require_candidates) := ⟨rfl, rfl, rfl, by decide +kernel, rfl, by decide +kernel, by decide +kernel⟩
theorem bd_require_candidates : BindsBy s_require_candidates "require_candidates" ["monitor"] := fun _ _ _ _ _ _ us hl => match us, hl with | [_], _ => rfl
abbrev s_counted : Stmt := topS 60
theorem sc_counted : FnScope ["found"] ["found"] (defScope s_counted) := ⟨rfl, rfl, rfl, by decide +kernel, rfl, by decide +kernel, by decide +kernel⟩
theorem bd_counted : BindsBy s_counted "counted" ["found"] := fun _ _ _ _ _ _ us hl => match us, hl with | [_], _ => rfl
abbrev s_candidates : Stmt := topS 62
theorem sc_candidates : FnScope ["monitor"] ["monitor"] (defScope s_candidates) := ⟨rfl, rfl, rfl, by decide +kernel, rfl, by decide +kernel, by decide +kernel⟩
theorem bd_candidates : BindsBy s_candidates "candidates" ["monitor"] := fun _ _ _ _ _ _ us hl => match us, hl with | [_], _ => rfl
abbrev s_belief : Stmt := topS 63
theorem sc_belief : FnScope ["monitor", "index"] ["monitor", "index"] (defScope s_belief) := ⟨rfl, rfl, rfl, by decide +kernel, rfl, by decide +kernel, by decide +kernel⟩
theorem bd_belief : BindsBy s_belief "belief" ["monitor", "index"] := fun _ _ _ _ _ _ us hl => match us, hl with | [_, _], _ => rfl
abbrev s_honest_belief : Stmt := topS 64
theorem sc_honest_belief : FnScope ["monitor", "index"] ["monitor"] (defScope s_honest_belief) := ⟨rfl, rfl, rfl, by decide +kernel, rfl, by decide +kernel, by decide +kernel⟩
theorem bd_honest_belief : BindsBy s_honest_belief "honest_belief" ["monitor"] := fun _ _ _ _ _ _ us hl => match us, hl with | [_], _ => rfl
abbrev s_suspects : Stmt := topS 65
theorem sc_suspects : FnScope ["monitor", "signal"] ["monitor", "signal"] (defScope s_suspects) := ⟨rfl, rfl, rfl, by decide +kernel, rfl, by decide +kernel, by decide +kernel⟩
theorem bd_suspects : BindsBy s_suspects "suspects" ["monitor", "signal"] := fun _ _ _ _ _ _ us hl => match us, hl with | [_, _], _ => rfl
abbrev s_next_harm_probability : Stmt := topS 66
theorem sc_next_harm_probability : FnScope ["monitor"] ["monitor"] (defScope s_next_harm_probability) := ⟨rfl, rfl, rfl, by decide +kernel, rfl, by decide +kernel, by decide +kernel⟩
theorem bd_next_harm_probability : BindsBy s_next_harm_probability "next_harm_probability" ["monitor"] := fun _ _ _ _ _ _ us hl => match us, hl with | [_], _ => rfl
abbrev s_worst_candidate : Stmt := topS 67
theorem sc_worst_candidate : FnScope ["monitor", "found", "worst", "index"] ["monitor"] (defScope s_worst_candidate) := ⟨rfl, rfl, rfl, by decide +kernel, rfl, by decide +kernel, by decide +kernel⟩
theorem bd_worst_candidate : BindsBy s_worst_candidate "worst_candidate" ["monitor"] := fun _ _ _ _ _ _ us hl => match us, hl with | [_], _ => rfl
abbrev s_is_detectable : Stmt := topS 71
theorem sc_is_detectable : FnScope ["monitor", "index"] ["monitor", "index"] (defScope s_is_detectable) := ⟨rfl, rfl, rfl, by decide +kernel, rfl, by decide +kernel, by decide +kernel⟩
theorem bd_is_detectable : BindsBy s_is_detectable "is_detectable" ["monitor", "index"] := fun _ _ _ _ _ _ us hl => match us, hl with | [_, _], _ => rfl
abbrev s_policy_detection_probability : Stmt := topS 72
theorem sc_policy_detection_probability : FnScope ["monitor", "index", "tests"] ["monitor", "index", "tests"] (defScope s_policy_detection_probability) := ⟨rfl, rfl, rfl, by decide +kernel, rfl, by decide +kernel, by decide +kernel⟩
theorem bd_policy_detection_probability : BindsBy s_policy_detection_probability "policy_detection_probability" ["monitor", "index", "tests"] := fun _ _ _ _ _ _ us hl => match us, hl with | [_, _, _], _ => rfl
abbrev s_tests_needed : Stmt := topS 73
theorem sc_tests_needed : FnScope ["monitor", "num", "den", "wanted", "cheaters", "detections", "tests", "index", "detection"] ["monitor", "num", "den"] (defScope s_tests_needed) := ⟨rfl, rfl, rfl, by decide +kernel, rfl, by decide +kernel, by decide +kernel⟩
theorem bd_tests_needed : BindsBy s_tests_needed "tests_needed" ["monitor", "num", "den"] := fun _ _ _ _ _ _ us hl => match us, hl with | [_, _, _], _ => rfl
abbrev s_are_distinguishable : Stmt := topS 74
theorem sc_are_distinguishable : FnScope ["monitor", "first", "second", "differing"] ["monitor", "first", "second"] (defScope s_are_distinguishable) := ⟨rfl, rfl, rfl, by decide +kernel, rfl, by decide +kernel, by decide +kernel⟩
theorem bd_are_distinguishable : BindsBy s_are_distinguishable "are_distinguishable" ["monitor", "first", "second"] := fun _ _ _ _ _ _ us hl => match us, hl with | [_, _, _], _ => rfl
abbrev s_copy_of : Stmt := topS 78
theorem sc_copy_of : FnScope ["setting", "copied"] ["setting"] (defScope s_copy_of) := ⟨rfl, rfl, rfl, by decide +kernel, rfl, by decide +kernel, by decide +kernel⟩
theorem bd_copy_of : BindsBy s_copy_of "copy_of" ["setting"] := fun _ _ _ _ _ _ us hl => match us, hl with | [_], _ => rfl
abbrev s_with_prior : Stmt := topS 82
theorem sc_with_prior : FnScope ["setting", "num", "den", "changed"] ["setting", "num", "den"] (defScope s_with_prior) := ⟨rfl, rfl, rfl, by decide +kernel, rfl, by decide +kernel, by decide +kernel⟩
theorem bd_with_prior : BindsBy s_with_prior "with_prior" ["setting", "num", "den"] := fun _ _ _ _ _ _ us hl => match us, hl with | [_, _, _], _ => rfl
abbrev s_with_stakes : Stmt := topS 83
theorem sc_with_stakes : FnScope ["setting", "gain", "loss", "changed"] ["setting", "gain", "loss"] (defScope s_with_stakes) := ⟨rfl, rfl, rfl, by decide +kernel, rfl, by decide +kernel, by decide +kernel⟩
theorem bd_with_stakes : BindsBy s_with_stakes "with_stakes" ["setting", "gain", "loss"] := fun _ _ _ _ _ _ us hl => match us, hl with | [_, _, _], _ => rfl
abbrev s_prior_against : Stmt := topS 87
theorem sc_prior_against : FnScope ["setting", "signal", "earned", "lost"] ["setting", "signal"] (defScope s_prior_against) := ⟨rfl, rfl, rfl, by decide +kernel, rfl, by decide +kernel, by decide +kernel⟩
theorem bd_prior_against : BindsBy s_prior_against "prior_against" ["setting", "signal"] := fun _ _ _ _ _ _ us hl => match us, hl with | [_, _], _ => rfl
abbrev s_prior_against_all : Stmt := topS 88
theorem sc_prior_against_all : FnScope ["setting", "largest", "signal", "found"] ["setting"] (defScope s_prior_against_all) := ⟨rfl, rfl, rfl, by decide +kernel, rfl, by decide +kernel, by decide +kernel⟩
theorem bd_prior_against_all : BindsBy s_prior_against_all "prior_against_all" ["setting"] := fun _ _ _ _ _ _ us hl => match us, hl with | [_], _ => rfl
abbrev s_considered_priors : Stmt := topS 89
theorem sc_considered_priors : FnScope ["setting", "found", "signal", "prior"] ["setting"] (defScope s_considered_priors) := ⟨rfl, rfl, rfl, by decide +kernel, rfl, by decide +kernel, by decide +kernel⟩
theorem bd_considered_priors : BindsBy s_considered_priors "considered_priors" ["setting"] := fun _ _ _ _ _ _ us hl => match us, hl with | [_], _ => rfl
abbrev s_is_better : Stmt := topS 90
theorem sc_is_better : FnScope ["cost", "prior", "other_cost", "other_prior"] ["cost", "prior", "other_cost", "other_prior"] (defScope s_is_better) := ⟨rfl, rfl, rfl, by decide +kernel, rfl, by decide +kernel, by decide +kernel⟩
theorem bd_is_better : BindsBy s_is_better "is_better" ["cost", "prior", "other_cost", "other_prior"] := fun _ _ _ _ _ _ us hl => match us, hl with | [_, _, _, _], _ => rfl
abbrev s_cheapest : Stmt := topS 91
theorem sc_cheapest : FnScope ["setting", "best", "lowest", "prior", "cost"] ["setting"] (defScope s_cheapest) := ⟨rfl, rfl, rfl, by decide +kernel, rfl, by decide +kernel, by decide +kernel⟩
theorem bd_cheapest : BindsBy s_cheapest "cheapest" ["setting"] := fun _ _ _ _ _ _ us hl => match us, hl with | [_], _ => rfl
abbrev s_require_existing : Stmt := topS 93
theorem sc_require_existing : FnScope ["prior"] ["prior"] (defScope s_require_existing) := ⟨rfl, rfl, rfl, by decide +kernel, rfl, by decide +kernel, by decide +kernel⟩
theorem bd_require_existing : BindsBy s_require_existing "require_existing" ["prior"] := fun _ _ _ _ _ _ us hl => match us, hl with | [_], _ => rfl
abbrev s_deterrent_prior_at : Stmt := topS 94
theorem sc_deterrent_prior_at : FnScope ["monitor", "signal", "prior"] ["monitor", "signal"] (defScope s_deterrent_prior_at) := ⟨rfl, rfl, rfl, by decide +kernel, rfl, by decide +kernel, by decide +kernel⟩
theorem bd_deterrent_prior_at : BindsBy s_deterrent_prior_at "deterrent_prior_at" ["monitor", "signal"] := fun _ _ _ _ _ _ us hl => match us, hl with | [_, _], _ => rfl
abbrev s_deterrent_prior : Stmt := topS 95
theorem sc_deterrent_prior : FnScope ["monitor", "prior"] ["monitor"] (defScope s_deterrent_prior) := ⟨rfl, rfl, rfl, by decide +kernel, rfl, by decide +kernel, by decide +kernel⟩
theorem bd_deterrent_prior : BindsBy s_deterrent_prior "deterrent_prior" ["monitor"] := fun _ _ _ _ _ _ us hl => match us, hl with | [_], _ => rfl
abbrev s_cheapest_prior : Stmt := topS 96
theorem sc_cheapest_prior : FnScope ["monitor", "found"] ["monitor"] (defScope s_cheapest_prior) := ⟨rfl, rfl, rfl, by decide +kernel, rfl, by decide +kernel, by decide +kernel⟩
theorem bd_cheapest_prior : BindsBy s_cheapest_prior "cheapest_prior" ["monitor"] := fun _ _ _ _ _ _ us hl => match us, hl with | [_], _ => rfl
abbrev s_require_appearing : Stmt := topS 103
theorem sc_require_appearing : FnScope ["weights", "signal"] ["weights", "signal"] (defScope s_require_appearing) := ⟨rfl, rfl, rfl, by decide +kernel, rfl, by decide +kernel, by decide +kernel⟩
theorem bd_require_appearing : BindsBy s_require_appearing "require_appearing" ["weights", "signal"] := fun _ _ _ _ _ _ us hl => match us, hl with | [_, _], _ => rfl
abbrev s_require_room : Stmt := topS 104
theorem sc_require_room : FnScope ["monitor"] ["monitor"] (defScope s_require_room) := ⟨rfl, rfl, rfl, by decide +kernel, rfl, by decide +kernel, by decide +kernel⟩
theorem bd_require_room : BindsBy s_require_room "require_room" ["monitor"] := fun _ _ _ _ _ _ us hl => match us, hl with | [_], _ => rfl
abbrev s_require_possible_test : Stmt := topS 105
theorem sc_require_possible_test : FnScope ["monitor", "signal", "cheated"] ["monitor", "signal", "cheated"] (defScope s_require_possible_test) := ⟨rfl, rfl, rfl, by decide +kernel, rfl, by decide +kernel, by decide +kernel⟩
theorem bd_require_possible_test : BindsBy s_require_possible_test "require_possible_test" ["monitor", "signal", "cheated"] := fun _ _ _ _ _ _ us hl => match us, hl with | [_, _, _], _ => rfl
abbrev s_record_test : Stmt := topS 106
theorem sc_record_test : FnScope ["monitor", "signal", "cheated", "log", "remaining"] ["monitor", "signal", "cheated"] (defScope s_record_test) := ⟨rfl, rfl, rfl, by decide +kernel, rfl, by decide +kernel, by decide +kernel⟩
theorem bd_record_test : BindsBy s_record_test "record_test" ["monitor", "signal", "cheated"] := fun _ _ _ _ _ _ us hl => match us, hl with | [_, _, _], _ => rfl
abbrev s_record_production : Stmt := topS 107
theorem sc_record_production : FnScope ["monitor", "signal"] ["monitor", "signal"] (defScope s_record_production) := ⟨rfl, rfl, rfl, by decide +kernel, rfl, by decide +kernel, by decide +kernel⟩
theorem bd_record_production : BindsBy s_record_production "record_production" ["monitor", "signal"] := fun _ _ _ _ _ _ us hl => match us, hl with | [_, _], _ => rfl
abbrev s_undo_record : Stmt := topS 108
theorem sc_undo_record : FnScope ["monitor", "last"] ["monitor"] (defScope s_undo_record) := ⟨rfl, rfl, rfl, by decide +kernel, rfl, by decide +kernel, by decide +kernel⟩
theorem bd_undo_record : BindsBy s_undo_record "undo_record" ["monitor"] := fun _ _ _ _ _ _ us hl => match us, hl with | [_], _ => rfl
abbrev s_get_log : Stmt := topS 109
theorem sc_get_log : FnScope ["monitor", "answer", "kind", "signal"] ["monitor"] (defScope s_get_log) := ⟨rfl, rfl, rfl, by decide +kernel, rfl, by decide +kernel, by decide +kernel⟩
theorem bd_get_log : BindsBy s_get_log "get_log" ["monitor"] := fun _ _ _ _ _ _ us hl => match us, hl with | [_], _ => rfl
abbrev s_candidates_after_test : Stmt := topS 110
theorem sc_candidates_after_test : FnScope ["monitor", "signal", "cheated"] ["monitor", "signal", "cheated"] (defScope s_candidates_after_test) := ⟨rfl, rfl, rfl, by decide +kernel, rfl, by decide +kernel, by decide +kernel⟩
theorem bd_candidates_after_test : BindsBy s_candidates_after_test "candidates_after_test" ["monitor", "signal", "cheated"] := fun _ _ _ _ _ _ us hl => match us, hl with | [_, _, _], _ => rfl
abbrev s_counts : Stmt := topS 111
theorem sc_counts : FnScope ["monitor", "kinds", "cheated_count", "test_count", "kind", "signal"] ["monitor"] (defScope s_counts) := ⟨rfl, rfl, rfl, by decide +kernel, rfl, by decide +kernel, by decide +kernel⟩
theorem bd_counts : BindsBy s_counts "counts" ["monitor"] := fun _ _ _ _ _ _ us hl => match us, hl with | [_], _ => rfl
abbrev s_shown : Stmt := topS 114
theorem sc_shown : FnScope ["held"] ["held"] (defScope s_shown) := ⟨rfl, rfl, rfl, by decide +kernel, rfl, by decide +kernel, by decide +kernel⟩
theorem bd_shown : BindsBy s_shown "shown" ["held"] := fun _ _ _ _ _ _ us hl => match us, hl with | [_], _ => rfl
abbrev s_permit : Stmt := topS 115
theorem sc_permit : FnScope ["monitor", "num", "den", "old"] ["monitor", "num", "den"] (defScope s_permit) := ⟨rfl, rfl, rfl, by decide +kernel, rfl, by decide +kernel, by decide +kernel⟩
theorem bd_permit : BindsBy s_permit "permit" ["monitor", "num", "den"] := fun _ _ _ _ _ _ us hl => match us, hl with | [_, _, _], _ => rfl
abbrev s_revoke_permit : Stmt := topS 116
theorem sc_revoke_permit : FnScope ["monitor", "old"] ["monitor"] (defScope s_revoke_permit) := ⟨rfl, rfl, rfl, by decide +kernel, rfl, by decide +kernel, by decide +kernel⟩
theorem bd_revoke_permit : BindsBy s_revoke_permit "revoke_permit" ["monitor"] := fun _ _ _ _ _ _ us hl => match us, hl with | [_], _ => rfl
abbrev s_permit_status : Stmt := topS 117
theorem sc_permit_status : FnScope ["monitor"] ["monitor"] (defScope s_permit_status) := ⟨rfl, rfl, rfl, by decide +kernel, rfl, by decide +kernel, by decide +kernel⟩
theorem bd_permit_status : BindsBy s_permit_status "permit_status" ["monitor"] := fun _ _ _ _ _ _ us hl => match us, hl with | [_], _ => rfl
abbrev s_append_policy : Stmt := topS 122
theorem sc_append_policy : FnScope ["monitor", "cheat_set", "weight", "policy"] ["monitor", "cheat_set", "weight"] (defScope s_append_policy) := ⟨rfl, rfl, rfl, by decide +kernel, rfl, by decide +kernel, by decide +kernel⟩
theorem bd_append_policy : BindsBy s_append_policy "append_policy" ["monitor", "cheat_set", "weight"] := fun _ _ _ _ _ _ us hl => match us, hl with | [_, _, _], _ => rfl
abbrev s_add_policy : Stmt := topS 123
theorem sc_add_policy : FnScope ["monitor", "cheat_set", "weight"] ["monitor", "cheat_set", "weight"] (defScope s_add_policy) := ⟨rfl, rfl, rfl, by decide +kernel, rfl, by decide +kernel, by decide +kernel⟩
theorem bd_add_policy : BindsBy s_add_policy "add_policy" ["monitor", "cheat_set", "weight"] := fun _ _ _ _ _ _ us hl => match us, hl with | [_, _, _], _ => rfl
abbrev s_add_rational_policy : Stmt := topS 124
theorem sc_add_rational_policy : FnScope ["monitor", "weight"] ["monitor", "weight"] (defScope s_add_rational_policy) := ⟨rfl, rfl, rfl, by decide +kernel, rfl, by decide +kernel, by decide +kernel⟩
theorem bd_add_rational_policy : BindsBy s_add_rational_policy "add_rational_policy" ["monitor", "weight"] := fun _ _ _ _ _ _ us hl => match us, hl with | [_, _], _ => rfl
abbrev s_remove_policy : Stmt := topS 125
theorem sc_remove_policy : FnScope ["monitor", "index"] ["monitor", "index"] (defScope s_remove_policy) := ⟨rfl, rfl, rfl, by decide +kernel, rfl, by decide +kernel, by decide +kernel⟩
theorem bd_remove_policy : BindsBy s_remove_policy "remove_policy" ["monitor", "index"] := fun _ _ _ _ _ _ us hl => match us, hl with | [_, _], _ => rfl
abbrev s_get_policy : Stmt := topS 126
theorem sc_get_policy : FnScope ["monitor", "index", "policy"] ["monitor", "index"] (defScope s_get_policy) := ⟨rfl, rfl, rfl, by decide +kernel, rfl, by decide +kernel, by decide +kernel⟩
theorem bd_get_policy : BindsBy s_get_policy "get_policy" ["monitor", "index"] := fun _ _ _ _ _ _ us hl => match us, hl with | [_, _], _ => rfl
abbrev s_cheating_value : Stmt := topS 129
theorem sc_cheating_value : FnScope ["monitor", "signal"] ["monitor", "signal"] (defScope s_cheating_value) := ⟨rfl, rfl, rfl, by decide +kernel, rfl, by decide +kernel, by decide +kernel⟩
theorem bd_cheating_value : BindsBy s_cheating_value "cheating_value" ["monitor", "signal"] := fun _ _ _ _ _ _ us hl => match us, hl with | [_, _], _ => rfl
abbrev s_cheating_signals : Stmt := topS 130
theorem sc_cheating_signals : FnScope ["monitor"] ["monitor"] (defScope s_cheating_signals) := ⟨rfl, rfl, rfl, by decide +kernel, rfl, by decide +kernel, by decide +kernel⟩
theorem bd_cheating_signals : BindsBy s_cheating_signals "cheating_signals" ["monitor"] := fun _ _ _ _ _ _ us hl => match us, hl with | [_], _ => rfl
abbrev s_expected_profit : Stmt := topS 131
theorem sc_expected_profit : FnScope ["monitor"] ["monitor"] (defScope s_expected_profit) := ⟨rfl, rfl, rfl, by decide +kernel, rfl, by decide +kernel, by decide +kernel⟩
theorem bd_expected_profit : BindsBy s_expected_profit "expected_profit" ["monitor"] := fun _ _ _ _ _ _ us hl => match us, hl with | [_], _ => rfl
abbrev s_detection_probability : Stmt := topS 132
theorem sc_detection_probability : FnScope ["monitor"] ["monitor"] (defScope s_detection_probability) := ⟨rfl, rfl, rfl, by decide +kernel, rfl, by decide +kernel, by decide +kernel⟩
theorem bd_detection_probability : BindsBy s_detection_probability "detection_probability" ["monitor"] := fun _ _ _ _ _ _ us hl => match us, hl with | [_], _ => rfl
abbrev s_harm_probability : Stmt := topS 133
theorem sc_harm_probability : FnScope ["monitor"] ["monitor"] (defScope s_harm_probability) := ⟨rfl, rfl, rfl, by decide +kernel, rfl, by decide +kernel, by decide +kernel⟩
theorem bd_harm_probability : BindsBy s_harm_probability "harm_probability" ["monitor"] := fun _ _ _ _ _ _ us hl => match us, hl with | [_], _ => rfl
abbrev s_total_cost : Stmt := topS 134
theorem sc_total_cost : FnScope ["monitor"] ["monitor"] (defScope s_total_cost) := ⟨rfl, rfl, rfl, by decide +kernel, rfl, by decide +kernel, by decide +kernel⟩
theorem bd_total_cost : BindsBy s_total_cost "total_cost" ["monitor"] := fun _ _ _ _ _ _ us hl => match us, hl with | [_], _ => rfl
abbrev s_cheating_signals_for_prior : Stmt := topS 135
theorem sc_cheating_signals_for_prior : FnScope ["monitor", "num", "den"] ["monitor", "num", "den"] (defScope s_cheating_signals_for_prior) := ⟨rfl, rfl, rfl, by decide +kernel, rfl, by decide +kernel, by decide +kernel⟩
theorem bd_cheating_signals_for_prior : BindsBy s_cheating_signals_for_prior "cheating_signals_for_prior" ["monitor", "num", "den"] := fun _ _ _ _ _ _ us hl => match us, hl with | [_, _, _], _ => rfl
abbrev s_cheating_signals_for_stakes : Stmt := topS 136
theorem sc_cheating_signals_for_stakes : FnScope ["monitor", "gain", "loss"] ["monitor", "gain", "loss"] (defScope s_cheating_signals_for_stakes) := ⟨rfl, rfl, rfl, by decide +kernel, rfl, by decide +kernel, by decide +kernel⟩
theorem bd_cheating_signals_for_stakes : BindsBy s_cheating_signals_for_stakes "cheating_signals_for_stakes" ["monitor", "gain", "loss"] := fun _ _ _ _ _ _ us hl => match us, hl with | [_, _, _], _ => rfl
abbrev s_create_setting : Stmt := topS 141
theorem sc_create_setting : FnScope ["monitor", "signal_count"] ["monitor", "signal_count"] (defScope s_create_setting) := ⟨rfl, rfl, rfl, by decide +kernel, rfl, by decide +kernel, by decide +kernel⟩
theorem bd_create_setting : BindsBy s_create_setting "create_setting" ["monitor", "signal_count"] := fun _ _ _ _ _ _ us hl => match us, hl with | [_, _], _ => rfl
abbrev s_set_prior : Stmt := topS 145
theorem sc_set_prior : FnScope ["monitor", "num", "den", "setting", "old"] ["monitor", "num", "den"] (defScope s_set_prior) := ⟨rfl, rfl, rfl, by decide +kernel, rfl, by decide +kernel, by decide +kernel⟩
theorem bd_set_prior : BindsBy s_set_prior "set_prior" ["monitor", "num", "den"] := fun _ _ _ _ _ _ us hl => match us, hl with | [_, _, _], _ => rfl
abbrev s_set_stakes : Stmt := topS 146
theorem sc_set_stakes : FnScope ["monitor", "gain", "loss", "setting", "old"] ["monitor", "gain", "loss"] (defScope s_set_stakes) := ⟨rfl, rfl, rfl, by decide +kernel, rfl, by decide +kernel, by decide +kernel⟩
theorem bd_set_stakes : BindsBy s_set_stakes "set_stakes" ["monitor", "gain", "loss"] := fun _ _ _ _ _ _ us hl => match us, hl with | [_, _, _], _ => rfl
abbrev s_set_prices : Stmt := topS 147
theorem sc_set_prices : FnScope ["monitor", "harm_price", "test_price", "setting", "old"] ["monitor", "harm_price", "test_price"] (defScope s_set_prices) := ⟨rfl, rfl, rfl, by decide +kernel, rfl, by decide +kernel, by decide +kernel⟩
theorem bd_set_prices : BindsBy s_set_prices "set_prices" ["monitor", "harm_price", "test_price"] := fun _ _ _ _ _ _ us hl => match us, hl with | [_, _, _], _ => rfl
abbrev s_get_settings : Stmt := topS 148
theorem sc_get_settings : FnScope ["monitor", "setting", "prior", "stakes", "prices"] ["monitor"] (defScope s_get_settings) := ⟨rfl, rfl, rfl, by decide +kernel, rfl, by decide +kernel, by decide +kernel⟩
theorem bd_get_settings : BindsBy s_get_settings "get_settings" ["monitor"] := fun _ _ _ _ _ _ us hl => match us, hl with | [_], _ => rfl
abbrev s_split_calls : Stmt := topS 156
theorem sc_split_calls : FnScope ["calls", "found", "place", "number", "start", "given"] ["calls"] (defScope s_split_calls) := ⟨rfl, rfl, rfl, by decide +kernel, rfl, by decide +kernel, by decide +kernel⟩
theorem bd_split_calls : BindsBy s_split_calls "split_calls" ["calls"] := fun _ _ _ _ _ _ us hl => match us, hl with | [_], _ => rfl
abbrev s_handler_of : Stmt := topS 157
theorem sc_handler_of : FnScope ["number"] ["number"] (defScope s_handler_of) := ⟨rfl, rfl, rfl, by decide +kernel, rfl, by decide +kernel, by decide +kernel⟩
theorem bd_handler_of : BindsBy s_handler_of "handler_of" ["number"] := fun _ _ _ _ _ _ us hl => match us, hl with | [_], _ => rfl
abbrev s_carry_out : Stmt := topS 158
theorem sc_carry_out : FnScope ["handler", "monitor", "given"] ["handler", "monitor", "given"] (defScope s_carry_out) := ⟨rfl, rfl, rfl, by decide +kernel, rfl, by decide +kernel, by decide +kernel⟩
theorem bd_carry_out : BindsBy s_carry_out "carry_out" ["handler", "monitor", "given"] := fun _ _ _ _ _ _ us hl => match us, hl with | [_, _, _], _ => rfl
abbrev s_require_ready : Stmt := topS 159
theorem sc_require_ready : FnScope ["monitor", "number"] ["monitor", "number"] (defScope s_require_ready) := ⟨rfl, rfl, rfl, by decide +kernel, rfl, by decide +kernel, by decide +kernel⟩
theorem bd_require_ready : BindsBy s_require_ready "require_ready" ["monitor", "number"] := fun _ _ _ _ _ _ us hl => match us, hl with | [_, _], _ => rfl
abbrev s_answer_of : Stmt := topS 160
theorem sc_answer_of : FnScope ["monitor", "number", "given", "refusal"] ["monitor", "number", "given"] (defScope s_answer_of) := ⟨rfl, rfl, rfl, by decide +kernel, rfl, by decide +kernel, by decide +kernel⟩
theorem bd_answer_of : BindsBy s_answer_of "answer_of" ["monitor", "number", "given"] := fun _ _ _ _ _ _ us hl => match us, hl with | [_, _, _], _ => rfl
abbrev s_answers : Stmt := topS 161
theorem sc_answers : FnScope ["calls", "monitor", "result", "number", "given", "answer"] ["calls"] (defScope s_answers) := ⟨rfl, rfl, rfl, by decide +kernel, rfl, by decide +kernel, by decide +kernel⟩
theorem bd_answers : BindsBy s_answers "answers" ["calls"] := fun _ _ _ _ _ _ us hl => match us, hl with | [_], _ => rfl
abbrev s_Setting_init : Stmt := inClass (topS 77) 0
theorem sc_Setting_init : FnScope ["self", "signal_count"] ["self", "signal_count"] (defScope s_Setting_init) := ⟨rfl, rfl, rfl, by decide +kernel, rfl, by decide +kernel, by decide +kernel⟩
theorem bd_Setting_init : BindsM s_Setting_init "Setting.__init__" ["self", "signal_count"] := fun _ _ _ _ _ _ us hl => match us, hl with | [_, _], _ => rfl
abbrev s_Policy_init : Stmt := inClass (topS 79) 0
theorem sc_Policy_init : FnScope ["self", "cheat_set", "weight"] ["self", "cheat_set", "weight"] (defScope s_Policy_init) := ⟨rfl, rfl, rfl, by decide +kernel, rfl, by decide +kernel, by decide +kernel⟩
theorem bd_Policy_init : BindsM s_Policy_init "Policy.__init__" ["self", "cheat_set", "weight"] := fun _ _ _ _ _ _ us hl => match us, hl with | [_, _, _], _ => rfl
abbrev s_Monitor_init : Stmt := inClass (topS 80) 0
theorem sc_Monitor_init : FnScope ["self"] ["self"] (defScope s_Monitor_init) := ⟨rfl, rfl, rfl, by decide +kernel, rfl, by decide +kernel, by decide +kernel⟩
theorem bd_Monitor_init : BindsM s_Monitor_init "Monitor.__init__" ["self"] := fun _ _ _ _ _ _ us hl => match us, hl with | [_], _ => rfl
/-- the address of a global name -/
abbrev gad (K : PySem.W.Frag) (x : Str) : Addr := He.ga K x
structure Tx (K : PySem.W.Frag) (mg : Str → Option Value) : Prop where
  d_common_divisor : Df K mg "common_divisor" s_common_divisor
  d_ratio : Df K mg "ratio" s_ratio
  d_plus : Df K mg "plus" s_plus
  d_minus : Df K mg "minus" s_minus
  d_times : Df K mg "times" s_times
  d_quotient : Df K mg "quotient" s_quotient
  d_total : Df K mg "total" s_total
  d_power : Df K mg "power" s_power
  d_at_most : Df K mg "at_most" s_at_most
  d_cheats_at : Df K mg "cheats_at" s_cheats_at
  d_share_of : Df K mg "share_of" s_share_of
  d_share_of_set : Df K mg "share_of_set" s_share_of_set
  d_prior_of : Df K mg "prior_of" s_prior_of
  d_joint_test : Df K mg "joint_test" s_joint_test
  d_joint_production : Df K mg "joint_production" s_joint_production
  d_value_at : Df K mg "value_at" s_value_at
  d_paying_signals : Df K mg "paying_signals" s_paying_signals
  d_rational_cheat_set : Df K mg "rational_cheat_set" s_rational_cheat_set
  d_profit_of : Df K mg "profit_of" s_profit_of
  d_detection_under : Df K mg "detection_under" s_detection_under
  d_harm_under : Df K mg "harm_under" s_harm_under
  d_cost_of : Df K mg "cost_of" s_cost_of
  d_is_consistent : Df K mg "is_consistent" s_is_consistent
  d_candidates_under : Df K mg "candidates_under" s_candidates_under
  d_candidates_of : Df K mg "candidates_of" s_candidates_of
  d_suspects_of : Df K mg "suspects_of" s_suspects_of
  d_belief_in : Df K mg "belief_in" s_belief_in
  d_harm_of : Df K mg "harm_of" s_harm_of
  d_next_harm : Df K mg "next_harm" s_next_harm
  d_detection_of : Df K mg "detection_of" s_detection_of
  d_detected_by : Df K mg "detected_by" s_detected_by
  d_is_allowed : Df K mg "is_allowed" s_is_allowed
  d_require_policy : Df K mg "require_policy" s_require_policy
  d_require_signal : Df K mg "require_signal" s_require_signal
  d_require_within : Df K mg "require_within" s_require_within
  d_require_fraction : Df K mg "require_fraction" s_require_fraction
  d_require_stakes : Df K mg "require_stakes" s_require_stakes
  d_require_empty_log : Df K mg "require_empty_log" s_require_empty_log
  d_require_candidates : Df K mg "require_candidates" s_require_candidates
  d_counted : Df K mg "counted" s_counted
  d_candidates : Df K mg "candidates" s_candidates
  d_belief : Df K mg "belief" s_belief
  d_honest_belief : Df K mg "honest_belief" s_honest_belief
  d_suspects : Df K mg "suspects" s_suspects
  d_next_harm_probability : Df K mg "next_harm_probability" s_next_harm_probability
  d_worst_candidate : Df K mg "worst_candidate" s_worst_candidate
  d_is_detectable : Df K mg "is_detectable" s_is_detectable
  d_policy_detection_probability : Df K mg "policy_detection_probability" s_policy_detection_probability
  d_tests_needed : Df K mg "tests_needed" s_tests_needed
  d_are_distinguishable : Df K mg "are_distinguishable" s_are_distinguishable
  d_copy_of : Df K mg "copy_of" s_copy_of
  d_with_prior : Df K mg "with_prior" s_with_prior
  d_with_stakes : Df K mg "with_stakes" s_with_stakes
  d_prior_against : Df K mg "prior_against" s_prior_against
  d_prior_against_all : Df K mg "prior_against_all" s_prior_against_all
  d_considered_priors : Df K mg "considered_priors" s_considered_priors
  d_is_better : Df K mg "is_better" s_is_better
  d_cheapest : Df K mg "cheapest" s_cheapest
  d_require_existing : Df K mg "require_existing" s_require_existing
  d_deterrent_prior_at : Df K mg "deterrent_prior_at" s_deterrent_prior_at
  d_deterrent_prior : Df K mg "deterrent_prior" s_deterrent_prior
  d_cheapest_prior : Df K mg "cheapest_prior" s_cheapest_prior
  d_require_appearing : Df K mg "require_appearing" s_require_appearing
  d_require_room : Df K mg "require_room" s_require_room
  d_require_possible_test : Df K mg "require_possible_test" s_require_possible_test
  d_record_test : Df K mg "record_test" s_record_test
  d_record_production : Df K mg "record_production" s_record_production
  d_undo_record : Df K mg "undo_record" s_undo_record
  d_get_log : Df K mg "get_log" s_get_log
  d_candidates_after_test : Df K mg "candidates_after_test" s_candidates_after_test
  d_counts : Df K mg "counts" s_counts
  d_shown : Df K mg "shown" s_shown
  d_permit : Df K mg "permit" s_permit
  d_revoke_permit : Df K mg "revoke_permit" s_revoke_permit
  d_permit_status : Df K mg "permit_status" s_permit_status
  d_append_policy : Df K mg "append_policy" s_append_policy
  d_add_policy : Df K mg "add_policy" s_add_policy
  d_add_rational_policy : Df K mg "add_rational_policy" s_add_rational_policy
  d_remove_policy : Df K mg "remove_policy" s_remove_policy
  d_get_policy : Df K mg "get_policy" s_get_policy
  d_cheating_value : Df K mg "cheating_value" s_cheating_value
  d_cheating_signals : Df K mg "cheating_signals" s_cheating_signals
  d_expected_profit : Df K mg "expected_profit" s_expected_profit
  d_detection_probability : Df K mg "detection_probability" s_detection_probability
  d_harm_probability : Df K mg "harm_probability" s_harm_probability
  d_total_cost : Df K mg "total_cost" s_total_cost
  d_cheating_signals_for_prior : Df K mg "cheating_signals_for_prior" s_cheating_signals_for_prior
  d_cheating_signals_for_stakes : Df K mg "cheating_signals_for_stakes" s_cheating_signals_for_stakes
  d_create_setting : Df K mg "create_setting" s_create_setting
  d_set_prior : Df K mg "set_prior" s_set_prior
  d_set_stakes : Df K mg "set_stakes" s_set_stakes
  d_set_prices : Df K mg "set_prices" s_set_prices
  d_get_settings : Df K mg "get_settings" s_get_settings
  d_split_calls : Df K mg "split_calls" s_split_calls
  d_handler_of : Df K mg "handler_of" s_handler_of
  d_carry_out : Df K mg "carry_out" s_carry_out
  d_require_ready : Df K mg "require_ready" s_require_ready
  d_answer_of : Df K mg "answer_of" s_answer_of
  d_answers : Df K mg "answers" s_answers
  n_abs : mg "abs" = none
  n_len : mg "len" = none
  n_sum : mg "sum" = none
  n_all : mg "all" = none
  n_list : mg "list" = none
  n_range : mg "range" = none
  n_enumerate : mg "enumerate" = none
  i_BEHAVED : ∃ t, mg "BEHAVED" = some (.int 0 t)
  i_CHEATED : ∃ t, mg "CHEATED" = some (.int 1 t)
  i_PRODUCTION : ∃ t, mg "PRODUCTION" = some (.int 2 t)
  i_MOST_STAKE : ∃ t, mg "MOST_STAKE" = some (.int 999 t)
  i_MOST_TESTS : ∃ t, mg "MOST_TESTS" = some (.int 12 t)
  i_MOST_ENTRIES : ∃ t, mg "MOST_ENTRIES" = some (.int 16 t)
  i_MOST_POLICIES : ∃ t, mg "MOST_POLICIES" = some (.int 6 t)
  i_MOST_WEIGHT_policy_calls : ∃ t, mg "MOST_WEIGHT_policy_calls" = some (.int 99 t)
  i_MOST_SIGNALS : ∃ t, mg "MOST_SIGNALS" = some (.int 5 t)
  i_MOST_WEIGHT_setting_calls : ∃ t, mg "MOST_WEIGHT_setting_calls" = some (.int 99 t)
  i_RESET : ∃ t, mg "RESET" = some (.int 0 t)
  i_CREATE_SETTING : ∃ t, mg "CREATE_SETTING" = some (.int 24 t)
  m_Monitor : DfM K mg "Monitor" "Monitor.__init__" s_Monitor_init
  c_Monitor : Cls K (gad K "Monitor")
  a_Monitor_setting : NoAttr K (gad K "Monitor") "setting"
  a_Monitor_policies : NoAttr K (gad K "Monitor") "policies"
  a_Monitor_log : NoAttr K (gad K "Monitor") "log"
  a_Monitor_permit : NoAttr K (gad K "Monitor") "permit"
  m_Policy : DfM K mg "Policy" "Policy.__init__" s_Policy_init
  c_Policy : Cls K (gad K "Policy")
  a_Policy_cheat_set : NoAttr K (gad K "Policy") "cheat_set"
  a_Policy_weight : NoAttr K (gad K "Policy") "weight"
  m_Setting : DfM K mg "Setting" "Setting.__init__" s_Setting_init
  c_Setting : Cls K (gad K "Setting")
  a_Setting_signal_count : NoAttr K (gad K "Setting") "signal_count"
  a_Setting_test_weights : NoAttr K (gad K "Setting") "test_weights"
  a_Setting_production_weights : NoAttr K (gad K "Setting") "production_weights"
  a_Setting_prior_num : NoAttr K (gad K "Setting") "prior_num"
  a_Setting_prior_den : NoAttr K (gad K "Setting") "prior_den"
  a_Setting_gain : NoAttr K (gad K "Setting") "gain"
  a_Setting_loss : NoAttr K (gad K "Setting") "loss"
  a_Setting_harm_price : NoAttr K (gad K "Setting") "harm_price"
  a_Setting_test_price : NoAttr K (gad K "Setting") "test_price"
  ref : PySem.RefX.BaseTxt K mg (gad K "Refusal") (He.ma K (gad K "Refusal") "__init__")
  r_NoSetting : PySem.RefX.SubTxt K mg (gad K "Refusal") "NoSetting" 11 (gad K "NoSetting") (He.ma K (gad K "NoSetting") "__init__")
  r_SettingExists : PySem.RefX.SubTxt K mg (gad K "Refusal") "SettingExists" 13 (gad K "SettingExists") (He.ma K (gad K "SettingExists") "__init__")
  r_NotThere : PySem.RefX.SubTxt K mg (gad K "Refusal") "NotThere" 2 (gad K "NotThere") (He.ma K (gad K "NotThere") "__init__")
  r_OutsideLimits : PySem.RefX.SubTxt K mg (gad K "Refusal") "OutsideLimits" 22 (gad K "OutsideLimits") (He.ma K (gad K "OutsideLimits") "__init__")
  r_LogNotEmpty : PySem.RefX.SubTxt K mg (gad K "Refusal") "LogNotEmpty" 16 (gad K "LogNotEmpty") (He.ma K (gad K "LogNotEmpty") "__init__")
  r_SameCheatSet : PySem.RefX.SubTxt K mg (gad K "Refusal") "SameCheatSet" 17 (gad K "SameCheatSet") (He.ma K (gad K "SameCheatSet") "__init__")
  r_Full : PySem.RefX.SubTxt K mg (gad K "Refusal") "Full" 28 (gad K "Full") (He.ma K (gad K "Full") "__init__")
  r_NoValue : PySem.RefX.SubTxt K mg (gad K "Refusal") "NoValue" 33 (gad K "NoValue") (He.ma K (gad K "NoValue") "__init__")
  r_HarmTooHigh : PySem.RefX.SubTxt K mg (gad K "Refusal") "HarmTooHigh" 30 (gad K "HarmTooHigh") (He.ma K (gad K "HarmTooHigh") "__init__")
  r_NothingToUndo : PySem.RefX.SubTxt K mg (gad K "Refusal") "NothingToUndo" 6 (gad K "NothingToUndo") (He.ma K (gad K "NothingToUndo") "__init__")
  g_TAKES_ONE_NUMBER : mg "TAKES_ONE_NUMBER" = some (.ref (gad K "TAKES_ONE_NUMBER"))
  t_TAKES_ONE_NUMBER : ∀ H : Hp, SqT K H (gad K "TAKES_ONE_NUMBER") (natL [2, 3, 4, 6, 10, 12, 15, 24, 30, 36])
  g_TAKES_TWO_NUMBERS : mg "TAKES_TWO_NUMBERS" = some (.ref (gad K "TAKES_TWO_NUMBERS"))
  t_TAKES_TWO_NUMBERS : ∀ H : Hp, SqT K H (gad K "TAKES_TWO_NUMBERS") (natL [1, 5, 16, 17, 18, 19, 22, 27, 28, 29, 41, 42])
  g_TAKES_ONE_LIST : mg "TAKES_ONE_LIST" = some (.ref (gad K "TAKES_ONE_LIST"))
  t_TAKES_ONE_LIST : ∀ H : Hp, SqT K H (gad K "TAKES_ONE_LIST") (natL [25, 26, 38, 39])
end PW
set_option Elab.async false
set_option linter.all false
set_option maxRecDepth 100000
set_option maxHeartbeats 4000000
/-! Fractions: the module ratios. -/
namespace PW
open PySem PySem.Spec PyProof.Rows L2
/-- the tuple of a fraction -/
def frT (r : Rat) : HO := .tup [.int r.num, .int (r.den : Int)]
/-- a new tuple of r is handed back, all else as it was -/
def GivF (H : Hp) (Q : VK) (r : Rat) : Prop := ∀ p H', Same H H' → H' p = some (frT r) → Q (.ref p) H'
theorem cmulW {i j : Int} (h1 : i.natAbs < 2 ^ 4000) (h2 : j.natAbs < 2 ^ 4000) : CMulW i j := wide_mul h1 h2 (by decide) (by decide) (by decide)
theorem numB {x : Rat} (h : Bd x 4000) : x.num.natAbs < 2 ^ 4000 := h.1
theorem denB {x : Rat} (h : Bd x 4000) : ((x.den : Nat) : Int).natAbs < 2 ^ 4000 := by rw [Int.natAbs_natCast]; exact h.2
theorem crossLt {x y : Rat} (hx : Bd x 4000) (hy : Bd y 4000) : (x.num * (y.den : Int)).natAbs < 2 ^ 8000 := cross hx hy
section
variable {P : Program} {w : World} {K : PySem.W.Frag} {mg : Str → Option Value} {base : Heap}
def sp_common_divisor (K : PySem.W.Frag) : Sp := fun vs H Q E =>
  ∃ a b : Nat, vs = [.int a, .int b] ∧ Q (.int (Nat.gcd a b : Nat)) H
theorem ok_common_divisor (T : Tx K mg) : Cal P w K mg base CX0 1 "common_divisor" (sp_common_divisor K) := by
  refine (T.d_common_divisor).ok0 sc_common_divisor bd_common_divisor (fun vs H Q E h => ?_) (fun f cdv A outer s H vs Q E hr h => ?_)
  · obtain ⟨a, b, rfl, _⟩ := h; rfl
  refine ⟨_, (pss_cons (ps_while PassesOwn.never (pt_cmpR neI (pv 1) pe_int (nomark _)) (pss_cons (ps_set (i := 2) sc_common_divisor.nd rfl (Or.inl rfl) (pe_op op_mod (pv 0) (pv 1)))
      (pss_cons (ps_set (i := 0) sc_common_divisor.nd rfl (Or.inl rfl) (pv 1))
      (pss_one (ps_set (i := 1) sc_common_divisor.nd rfl (Or.inl rfl) (pv 2))))))
      (pss_one (ps_ret (pv 0)))), ?_⟩
  obtain ⟨a, b, rfl, q⟩ := h
  refine ⟨fun m σ H' => ∃ (x y : Nat) (r : Option V), m = y ∧ σ = [some (.int x), some (.int y), r] ∧ H' = H ∧ Nat.gcd x y = Nat.gcd a b, ⟨b, a, b, none, rfl, rfl, rfl, rfl⟩, ?_⟩
  rintro m σ H' ⟨x, y, r, em, rfl, rfl, e⟩
  refine ⟨_, rfl, _, _, rfl, rfl, _, rfl, ?_⟩
  by_cases hy : y = 0
  · subst hy
    refine iteF ?_
    refine ⟨_, rfl, ?_⟩
    rw [Nat.gcd_zero_right] at e
    rw [e]
    exact q
  · have hb : (!decide ((y : Int) = 0)) = true := by simp [hy]
    rw [hb]
    refine iteT ⟨fun σ' H2 => ∃ (r : Option V), σ' = [some (.int y), some (.int ((x % y : Nat) : Int)), r] ∧ H2 = H', fun σ' H2 z => ?_, ?_⟩
    · obtain ⟨r, rfl, rfl⟩ := z
      refine ⟨x % y, by rw [em]; exact Nat.mod_lt _ (Nat.pos_of_ne_zero hy), _, _, _, rfl, rfl, rfl, ?_⟩
      rw [← e, Nat.gcd_comm x y, Nat.gcd_rec y x, Nat.gcd_comm]
    · refine ⟨_, rfl, _, rfl, _, _, rfl, rfl, by omega, ?_⟩
      refine ⟨_, rfl, _, rfl, _, rfl, rfl⟩
def sp_ratio (K : PySem.W.Frag) : Sp := fun vs H Q E =>
  ∃ (n : Int) (d : Nat), vs = [.int n, .int d] ∧ d ≠ 0 ∧ d < 2 ^ 8000 ∧ GivF H Q (mkRat n d)
theorem ok_ratio (T : Tx K mg) : Cal P w K mg base CX0 2 "ratio" (sp_ratio K) := by
  refine (T.d_ratio).ok0 sc_ratio bd_ratio (fun vs H Q E h => ?_) (fun f cdv A outer s H vs Q E hr h => ?_)
  · obtain ⟨a, b, rfl, _⟩ := h; rfl
  refine ⟨_, (pss_cons (ps_set (i := 2) sc_ratio.nd rfl (Or.inl rfl) (pe_cal (ok_common_divisor T) (hr.mono (by decide)) pass0 (pa_cons (pe_callB call_abs (by rfl) T.n_abs bt_abs (pa_cons (pv 0) pa_nil)) (pa_cons (pv 1) pa_nil))))
      (pss_one (ps_ret (pe_tup (pa_cons (pe_op op_fdivW (pv 0) (pv 2)) (pa_cons (pe_op op_fdivW (pv 1) (pv 2)) pa_nil)))))), ?_⟩
  obtain ⟨n, d, rfl, d0, dl, q⟩ := h
  refine ⟨_, rfl, _, rfl, _, rfl, n.natAbs, d, ?_, ?_⟩
  · have e : (if n < 0 then -n else n) = ((n.natAbs : Nat) : Int) := by split <;> omega
    rw [e]
  have g0 : 0 < Nat.gcd n.natAbs d := Nat.gcd_pos_of_pos_right _ (Nat.pos_of_ne_zero d0)
  have gl : Nat.gcd n.natAbs d ≤ d := Nat.gcd_le_right _ (Nat.pos_of_ne_zero d0)
  have cw : ∀ i : Int, CDivW i ((Nat.gcd n.natAbs d : Nat) : Int) := fun i => wide_div (by omega) (b := 8000) (by rw [Int.natAbs_natCast]; omega) (by decide) (by decide)
  refine ⟨_, rfl, _, rfl, _, _, rfl, rfl, cw _, ⟨_, rfl, _, rfl, _, _, rfl, rfl, cw _, szl, fun p np => ?_⟩⟩
  refine q p _ (Same.new np) ?_
  rw [upd_same]
  unfold frT
  rw [mk_num d0, mk_den d0, Int.natCast_ediv]
def sp_plus (K : PySem.W.Frag) : Sp := fun vs H Q E =>
  ∃ (a b : Addr) (x y : Rat), vs = [.ref a, .ref b] ∧ H a = some (frT x) ∧ H b = some (frT y) ∧ Bd x 4000 ∧ Bd y 4000 ∧ GivF H Q (x + y)
theorem ok_plus (T : Tx K mg) : Cal P w K mg base CX0 3 "plus" (sp_plus K) := by
  refine (T.d_plus).ok0 sc_plus bd_plus (fun vs H Q E h => ?_) (fun f cdv A outer s H vs Q E hr h => ?_)
  · obtain ⟨_, _, _, _, rfl, _⟩ := h; rfl
  refine ⟨_, (pss_one (ps_ret (pe_cal (ok_ratio T) (hr.mono (by decide)) pass0 (pa_cons (pe_op op_add (pe_op op_mulW (pe_ix ixT (pv 0) pe_int (fun _ _ => rfl)) (pe_ix ixT (pv 1) pe_int (fun _ _ => rfl))) (pe_op op_mulW (pe_ix ixT (pv 1) pe_int (fun _ _ => rfl)) (pe_ix ixT (pv 0) pe_int (fun _ _ => rfl)))) (pa_cons (pe_op op_mulW (pe_ix ixT (pv 0) pe_int (fun _ _ => rfl)) (pe_ix ixT (pv 1) pe_int (fun _ _ => rfl))) pa_nil))))), ?_⟩
  obtain ⟨a, b, x, y, rfl, ha, hb, bx, bY, q⟩ := h
  refine ⟨_, rfl, _, _, 0, _, rfl, rfl, ha, rfl, _, rfl, _, _, 1, _, rfl, rfl, hb, rfl, _, _, rfl, rfl, (cmulW bx.1 (denB bY)), _, rfl, _, _, 0, _, rfl, rfl, hb, rfl, _, rfl, _, _, 1, _, rfl, rfl, ha, rfl, _, _, rfl, rfl, (cmulW bY.1 (denB bx)), _, _, rfl, rfl, _, rfl, _, _, 1, _, rfl, rfl, ha, rfl, _, rfl, _, _, 1, _, rfl, rfl, hb, rfl, _, _, rfl, rfl, (cmulW (denB bx) (denB bY)), ?_⟩
  refine ⟨_, x.den * y.den, rfl, Nat.mul_ne_zero x.den_nz y.den_nz, lt_mul bx.2 bY.2, ?_⟩
  rw [← add_mk]
  exact q
def sp_minus (K : PySem.W.Frag) : Sp := fun vs H Q E =>
  ∃ (a b : Addr) (x y : Rat), vs = [.ref a, .ref b] ∧ H a = some (frT x) ∧ H b = some (frT y) ∧ Bd x 4000 ∧ Bd y 4000 ∧ GivF H Q (x - y)
theorem ok_minus (T : Tx K mg) : Cal P w K mg base CX0 3 "minus" (sp_minus K) := by
  refine (T.d_minus).ok0 sc_minus bd_minus (fun vs H Q E h => ?_) (fun f cdv A outer s H vs Q E hr h => ?_)
  · obtain ⟨_, _, _, _, rfl, _⟩ := h; rfl
  refine ⟨_, (pss_one (ps_ret (pe_cal (ok_ratio T) (hr.mono (by decide)) pass0 (pa_cons (pe_op op_sub (pe_op op_mulW (pe_ix ixT (pv 0) pe_int (fun _ _ => rfl)) (pe_ix ixT (pv 1) pe_int (fun _ _ => rfl))) (pe_op op_mulW (pe_ix ixT (pv 1) pe_int (fun _ _ => rfl)) (pe_ix ixT (pv 0) pe_int (fun _ _ => rfl)))) (pa_cons (pe_op op_mulW (pe_ix ixT (pv 0) pe_int (fun _ _ => rfl)) (pe_ix ixT (pv 1) pe_int (fun _ _ => rfl))) pa_nil))))), ?_⟩
  obtain ⟨a, b, x, y, rfl, ha, hb, bx, bY, q⟩ := h
  refine ⟨_, rfl, _, _, 0, _, rfl, rfl, ha, rfl, _, rfl, _, _, 1, _, rfl, rfl, hb, rfl, _, _, rfl, rfl, (cmulW bx.1 (denB bY)), _, rfl, _, _, 0, _, rfl, rfl, hb, rfl, _, rfl, _, _, 1, _, rfl, rfl, ha, rfl, _, _, rfl, rfl, (cmulW bY.1 (denB bx)), _, _, rfl, rfl, _, rfl, _, _, 1, _, rfl, rfl, ha, rfl, _, rfl, _, _, 1, _, rfl, rfl, hb, rfl, _, _, rfl, rfl, (cmulW (denB bx) (denB bY)), ?_⟩
  refine ⟨_, x.den * y.den, rfl, Nat.mul_ne_zero x.den_nz y.den_nz, lt_mul bx.2 bY.2, ?_⟩
  rw [← sub_mk]
  exact q
def sp_times (K : PySem.W.Frag) : Sp := fun vs H Q E =>
  ∃ (a b : Addr) (x y : Rat), vs = [.ref a, .ref b] ∧ H a = some (frT x) ∧ H b = some (frT y) ∧ Bd x 4000 ∧ Bd y 4000 ∧ GivF H Q (x * y)
theorem ok_times (T : Tx K mg) : Cal P w K mg base CX0 3 "times" (sp_times K) := by
  refine (T.d_times).ok0 sc_times bd_times (fun vs H Q E h => ?_) (fun f cdv A outer s H vs Q E hr h => ?_)
  · obtain ⟨_, _, _, _, rfl, _⟩ := h; rfl
  refine ⟨_, (pss_one (ps_ret (pe_cal (ok_ratio T) (hr.mono (by decide)) pass0 (pa_cons (pe_op op_mulW (pe_ix ixT (pv 0) pe_int (fun _ _ => rfl)) (pe_ix ixT (pv 1) pe_int (fun _ _ => rfl))) (pa_cons (pe_op op_mulW (pe_ix ixT (pv 0) pe_int (fun _ _ => rfl)) (pe_ix ixT (pv 1) pe_int (fun _ _ => rfl))) pa_nil))))), ?_⟩
  obtain ⟨a, b, x, y, rfl, ha, hb, bx, bY, q⟩ := h
  refine ⟨_, rfl, _, _, 0, _, rfl, rfl, ha, rfl, _, rfl, _, _, 0, _, rfl, rfl, hb, rfl, _, _, rfl, rfl, (cmulW bx.1 bY.1), _, rfl, _, _, 1, _, rfl, rfl, ha, rfl, _, rfl, _, _, 1, _, rfl, rfl, hb, rfl, _, _, rfl, rfl, (cmulW (denB bx) (denB bY)), ?_⟩
  refine ⟨_, x.den * y.den, rfl, Nat.mul_ne_zero x.den_nz y.den_nz, lt_mul bx.2 bY.2, ?_⟩
  rw [← mul_mk]
  exact q
def sp_quotient (K : PySem.W.Frag) : Sp := fun vs H Q E =>
  ∃ (a b : Addr) (x y : Rat), vs = [.ref a, .ref b] ∧ H a = some (frT x) ∧ H b = some (frT y) ∧ Bd x 4000 ∧ Bd y 4000 ∧ 0 < y.num ∧ GivF H Q (x / y)
theorem ok_quotient (T : Tx K mg) : Cal P w K mg base CX0 3 "quotient" (sp_quotient K) := by
  refine (T.d_quotient).ok0 sc_quotient bd_quotient (fun vs H Q E h => ?_) (fun f cdv A outer s H vs Q E hr h => ?_)
  · obtain ⟨_, _, _, _, rfl, _⟩ := h; rfl
  refine ⟨_, (pss_one (ps_ret (pe_cal (ok_ratio T) (hr.mono (by decide)) pass0 (pa_cons (pe_op op_mulW (pe_ix ixT (pv 0) pe_int (fun _ _ => rfl)) (pe_ix ixT (pv 1) pe_int (fun _ _ => rfl))) (pa_cons (pe_op op_mulW (pe_ix ixT (pv 0) pe_int (fun _ _ => rfl)) (pe_ix ixT (pv 1) pe_int (fun _ _ => rfl))) pa_nil))))), ?_⟩
  obtain ⟨a, b, x, y, rfl, ha, hb, bx, bY, yp, q⟩ := h
  refine ⟨_, rfl, _, _, 0, _, rfl, rfl, ha, rfl, _, rfl, _, _, 1, _, rfl, rfl, hb, rfl, _, _, rfl, rfl, (cmulW bx.1 (denB bY)), _, rfl, _, _, 1, _, rfl, rfl, ha, rfl, _, rfl, _, _, 0, _, rfl, rfl, hb, rfl, _, _, rfl, rfl, (cmulW (denB bx) bY.1), ?_⟩
  have e : y.num = ((y.num.toNat : Nat) : Int) := by omega
  refine ⟨_, x.den * y.num.toNat, by rw [Int.natCast_mul, ← e], Nat.mul_ne_zero x.den_nz (by omega), lt_mul bx.2 (show y.num.toNat < 2 ^ 4000 from Nat.lt_of_le_of_lt (by omega) bY.1), ?_⟩
  rw [← div_mk yp]
  exact q
def sp_total (K : PySem.W.Frag) : Sp := fun vs H Q E =>
  ∃ (a : Addr) (ps : List Addr) (rs : List Rat) (n : Nat), vs = [.ref a] ∧ H a = some (.lst (ps.map V.ref)) ∧ ps.length = rs.length ∧ (∀ (i : Nat) p r, ps[i]? = some p → rs[i]? = some r → H p = some (frT r)) ∧ (∀ r ∈ rs, Bd r n) ∧ 1 + rs.length * (n + 1) ≤ 4000 ∧ n ≤ 4000 ∧ GivF H Q rs.sum
theorem ok_total (T : Tx K mg) : Cal P w K mg base CX0 4 "total" (sp_total K) := by
  refine (T.d_total).ok0 sc_total bd_total (fun vs H Q E h => ?_) (fun f cdv A outer s H vs Q E hr h => ?_)
  · obtain ⟨_, _, _, _, rfl, _⟩ := h; rfl
  refine ⟨_, (pss_cons (ps_set (i := 1) sc_total.nd rfl (Or.inl rfl) (pe_tup (pa_cons pe_int (pa_cons pe_int pa_nil))))
      (pss_cons (ps_for PassesOwn.never rfl (pi_list (pv 0)) (pg_name (i := 2) sc_total.nd rfl (Or.inl rfl)) (pss_one (ps_set (i := 1) sc_total.nd rfl (Or.inl rfl) (pe_cal (ok_plus T) (hr.mono (by decide)) pass0 (pa_cons (pv 1) (pa_cons (pv 2) pa_nil))))))
      (pss_one (ps_ret (pv 1))))), ?_⟩
  obtain ⟨a, ps, rs, n, rfl, ha, hl, hp, hb, hn, hn2, q⟩ := h
  refine ⟨szl, fun z nz => ?_⟩
  refine ⟨_, rfl, a, rfl, ⟨_, SqL.of (Same.new nz _ _ ha)⟩, for_list (K := K) (a := a) (xs := ps.map V.ref) (fun i σ H' => ∃ (t : Addr) (v : Option V), σ = [some (.ref a), some (.ref t), v] ∧ Same H H' ∧ H' t = some (frT ((rs.take i).foldl (fun x y => x + y) 0)))
    ⟨z, none, rfl, Same.new nz, upd_same⟩ (fun i σ H' _ ⟨_, _, _, s, _⟩ => SqL.of (s _ _ ha)) ?_ ?_⟩
  · rintro i y σ H' hi ⟨t, v, rfl, s, ht⟩
    rw [List.getElem?_map] at hi
    obtain ⟨p, hpi, rfl⟩ := Option.map_eq_some_iff.mp hi
    have hil : i < rs.length := by rw [← hl]; exact (List.getElem?_eq_some_iff.mp hpi).1
    have hri : rs[i]? = some rs[i] := List.getElem?_eq_getElem hil
    have bt : Bd ((rs.take i).foldl (fun x y => x + y) 0) 4000 := by
      refine (bd_fold (rs.take i) 0 1 bd0 fun x hx => hb x (List.mem_of_mem_take hx)).mono (Nat.le_trans ?_ hn)
      have := Nat.mul_le_mul_right (n + 1) (show (rs.take i).length ≤ rs.length by rw [List.length_take]; omega)
      omega
    refine ⟨_, rfl, _, rfl, ?_⟩
    refine ⟨t, p, _, rs[i], rfl, ht, s _ _ (hp i p _ hpi hri), bt, (hb _ (List.getElem_mem hil)).mono hn2, fun t' H2 s2 h2 => ?_⟩
    refine ⟨t', _, rfl, s.trans s2, ?_⟩
    rw [h2, List.take_succ_eq_append_getElem hil, List.foldl_append]
    rfl
  · rintro σ H' ⟨t, v, rfl, s, ht⟩
    refine ⟨_, rfl, ?_⟩
    refine q t H' s ?_
    rw [ht, List.length_map, hl, List.take_length, sum_total]
def sp_power (K : PySem.W.Frag) : Sp := fun vs H Q E =>
  ∃ (a : Addr) (x : Rat) (e : Nat), vs = [.ref a, .int e] ∧ H a = some (frT x) ∧ Bd x 300 ∧ e ≤ 12 ∧ GivF H Q (x ^ e)
theorem ok_power (T : Tx K mg) : Cal P w K mg base CX0 4 "power" (sp_power K) := by
  refine (T.d_power).ok0 sc_power bd_power (fun vs H Q E h => ?_) (fun f cdv A outer s H vs Q E hr h => ?_)
  · obtain ⟨_, _, _, rfl, _⟩ := h; rfl
  refine ⟨_, (pss_cons (ps_set (i := 2) sc_power.nd rfl (Or.inl rfl) (pe_tup (pa_cons pe_int (pa_cons pe_int pa_nil))))
      (pss_cons (ps_for PassesOwn.never rfl (pi_range1 rfl T.n_range (pa_cons (pv 1) pa_nil)) (pg_name (i := 3) sc_power.nd rfl (Or.inl rfl)) (pss_one (ps_set (i := 2) sc_power.nd rfl (Or.inl rfl) (pe_cal (ok_times T) (hr.mono (by decide)) pass0 (pa_cons (pv 2) (pa_cons (pv 0) pa_nil))))))
      (pss_one (ps_ret (pv 2))))), ?_⟩
  obtain ⟨a, x, e, rfl, ha, bx, he, q⟩ := h
  refine ⟨szl, fun z nz => ?_⟩
  refine ⟨_, rfl, e, rfl, by omega, by omega, for_range (lo := 0) (n := e) (fun i σ H' => i ≤ e ∧ ∃ (t : Addr) (v : Option V), σ = [some (.ref a), some (.int e), some (.ref t), v] ∧ Same H H' ∧ H' t = some (frT (x ^ i)))
    ⟨Nat.zero_le _, z, none, rfl, Same.new nz, by rw [Rat.pow_zero]; exact upd_same⟩ ?_ ?_⟩
  · rintro i σ H' hi ⟨_, t, v, rfl, s, ht⟩
    have bp : Bd (x ^ i) 4000 := by
      have z : ∀ j, j ≤ 12 → Bd (x ^ j) (1 + j * 300) := by
        intro j
        induction j with
        | zero => intro _; rw [Rat.pow_zero]; exact bd1.mono (by decide)
        | succ j ih => intro hj; rw [Rat.pow_succ]; exact ((ih (by omega)).mul bx).mono (by omega)
      exact (z i (by omega)).mono (by omega)
    refine ⟨_, rfl, _, rfl, ?_⟩
    refine ⟨t, a, _, x, rfl, ht, s _ _ ha, bp, bx.mono (by decide), fun t' H2 s2 h2 => ?_⟩
    refine ⟨hi, t', _, rfl, s.trans s2, ?_⟩
    rw [h2, Rat.pow_succ]
  · rintro σ H' ⟨_, t, v, rfl, s, ht⟩
    exact ⟨_, rfl, q t H' s ht⟩
def sp_at_most (K : PySem.W.Frag) : Sp := fun vs H Q E =>
  ∃ (a b : Addr) (n m : Int) (c d : Nat), vs = [.ref a, .ref b] ∧ H a = some (.tup [.int n, .int (c : Int)]) ∧ H b = some (.tup [.int m, .int (d : Int)]) ∧ n.natAbs < 2 ^ 4000 ∧ m.natAbs < 2 ^ 4000 ∧ c < 2 ^ 4000 ∧ d < 2 ^ 4000 ∧ Q (.bl (decide (n * d ≤ m * c))) H
theorem ok_at_most (T : Tx K mg) : Cal P w K mg base CX0 1 "at_most" (sp_at_most K) := by
  refine (T.d_at_most).ok0 sc_at_most bd_at_most (fun vs H Q E h => ?_) (fun f cdv A outer s H vs Q E hr h => ?_)
  · obtain ⟨_, _, _, _, _, _, rfl, _⟩ := h; rfl
  refine ⟨_, (pss_one (ps_ret (pe_cmpR op_le (pe_op op_mulW (pe_ix ixT (pv 0) pe_int (fun _ _ => rfl)) (pe_ix ixT (pv 1) pe_int (fun _ _ => rfl))) (pe_op op_mulW (pe_ix ixT (pv 1) pe_int (fun _ _ => rfl)) (pe_ix ixT (pv 0) pe_int (fun _ _ => rfl))) (nomark _)))), ?_⟩
  obtain ⟨a, b, n, m, c, d, rfl, ha, hb, h1, h2, h3, h4, q⟩ := h
  have h3' : ((c : Nat) : Int).natAbs < 2 ^ 4000 := by rw [Int.natAbs_natCast]; exact h3
  have h4' : ((d : Nat) : Int).natAbs < 2 ^ 4000 := by rw [Int.natAbs_natCast]; exact h4
  exact ⟨_, rfl, _, _, 0, _, rfl, rfl, ha, rfl, _, rfl, _, _, 1, _, rfl, rfl, hb, rfl, _, _, rfl, rfl, (cmulW h1 h4'), _, rfl, _, _, 0, _, rfl, rfl, hb, rfl, _, rfl, _, _, 1, _, rfl, rfl, ha, rfl, _, _, rfl, rfl, (cmulW h2 h3'), _, _, rfl, rfl, q⟩
theorem use_le {a b : Addr} {x y : Rat} {H : Hp} {Q : VK} {E : XK} (ha : H a = some (frT x)) (hb : H b = some (frT y)) (bx : Bd x 4000) (bY : Bd y 4000) (q : Q (.bl (decide (x ≤ y))) H) : sp_at_most K [.ref a, .ref b] H Q E := by
  refine ⟨a, b, x.num, y.num, x.den, y.den, rfl, ha, hb, bx.1, bY.1, bx.2, bY.2, ?_⟩
  have e : decide (x ≤ y) = decide (x.num * (y.den : Int) ≤ y.num * (x.den : Int)) := by rw [decide_eq_decide, Rat.le_iff]
  rw [← e]
  exact q
theorem use_leP {a b : Addr} {x : Rat} {n d : Nat} {H : Hp} {Q : VK} {E : XK} (ha : H a = some (frT x)) (hb : H b = some (.tup [.int n, .int d])) (bx : Bd x 4000) (hn : n < 2 ^ 4000) (hd : d < 2 ^ 4000) (d0 : d ≠ 0)
    (q : Q (.bl (decide (x ≤ mkRat n d))) H) : sp_at_most K [.ref a, .ref b] H Q E := by
  refine ⟨a, b, x.num, n, x.den, d, rfl, ha, hb, bx.1, by rw [Int.natAbs_natCast]; exact hn, bx.2, hd, ?_⟩
  have e : decide (x ≤ mkRat n d) = decide (x.num * (d : Int) ≤ (n : Int) * (x.den : Int)) := by rw [decide_eq_decide, le_mk d0]
  rw [← e]
  exact q
end
end PW
set_option Elab.async false
set_option linter.all false
set_option maxRecDepth 100000
set_option maxHeartbeats 4000000
/-! Shares, the rational agent: the module rational. -/
namespace PW
open PySem PySem.Spec PyProof.Rows L2
/-! ### comprehensions, once for all -/
section
variable {J : It} {n : Nat} {G : Hp → Prop} {Y : Nat → Hp → V → Hp → Prop} {g : TG} {tt : TT} {te : TE} {vs : List Nat} {σ : L2.St} {H1 : Hp} {D : Addr} {Qd : Hp → Prop}
/-- what a comprehension's reading asks behind its source -/
def LcAsk (J : It) (g : TG) (tt : TT) (te : TE) (vs : List Nat) (σ : L2.St) (H1 : Hp) (D : Addr) (Qd : Hp → Prop) : Prop :=
  ∃ W : Nat → Nat → Hp → Prop, (∃ m, W 0 m (upd H1 D (.lst []))) ∧ ∀ i m H, W i m H →
      (J.stop i H ∧ Qd H) ∨ (J.go i H ∧ ∃ Nx : Hp → Prop, (∀ H', Nx H' → ∃ m', m' < m ∧ W (i + 1) m' H') ∧ ∀ x H', J.yld i H x H' → g x (wipe σ vs) H' fun σ2 H2 => wipe σ2 vs = wipe σ vs ∧ tt σ2 H2 fun b H3 =>
        if b = true then te σ2 H3 fun y H4 => ∃ acc, H4 D = some (.lst acc) ∧ acc.length < sizeLine ∧ Nx (upd H4 D (.lst (acc ++ [y]))) else Nx H3)
theorem updD {H H' : Hp} {D : Addr} {o : HO} (s : Same H H') (n : H D = none) : Same H (upd H' D o) := fun b u e => by
  rw [upd_ne (ne_of_none e n)]
  exact s b u e
theorem filtLen {α β : Type} (f : α → Option β) (l : List α) : (l.filterMap f).length ≤ l.length := List.length_filterMap_le f l
theorem lc_val (w : Walk J n G Y) (f : Nat → Option V) (hn : n ≤ 1000) (nD : H1 D = none) (hG : ∀ H', Same H1 H' → G H')
    (turn : ∀ i x H H' (Kt : V → Hp → Prop) (Kf : Hp → Prop), i < n → Same H1 H → Y i H x H' → (∀ y H4, Same H H4 → f i = some y → Kt y H4) → (∀ H3, Same H H3 → f i = none → Kf H3) →
      g x (wipe σ vs) H' fun σ2 H2 => wipe σ2 vs = wipe σ vs ∧ tt σ2 H2 fun b H3 => if b = true then te σ2 H3 Kt else Kf H3)
    (hd : ∀ H', Same H1 H' → H' D = some (.lst ((List.range n).filterMap f)) → Qd H') : LcAsk J g tt te vs σ H1 D Qd := by
  refine lc_it w (fun i H => Same H1 H ∧ H D = some (.lst ((List.range i).filterMap f))) ⟨Same.new nD, upd_same⟩ (fun i H _ p => hG H p.1) (fun i x H H' hi p y => ?_) (fun H p => hd H p.1 p.2)
  refine turn i x H H' _ _ hi p.1 y (fun v H4 s e => ?_) (fun H3 s e => ?_)
  · refine ⟨_, s _ _ p.2, Nat.lt_of_le_of_lt (Nat.le_trans (filtLen f _) (by rw [List.length_range]; omega)) (small1000 hn), updD (p.1.trans s) nD, ?_⟩
    rw [upd_same, List.range_succ, List.filterMap_append]
    simp [e]
  · refine ⟨p.1.trans s, ?_⟩
    rw [s _ _ p.2, List.range_succ, List.filterMap_append]
    simp [e]
theorem lc_fr (w : Walk J n G Y) (f : Nat → Rat) (hn : n ≤ 1000) (nD : H1 D = none) (hG : ∀ H', Same H1 H' → G H')
    (turn : ∀ i x H H' (Kt : V → Hp → Prop), i < n → Same H1 H → Y i H x H' → (∀ p H4, Same H H4 → H4 p = some (frT (f i)) → Kt (.ref p) H4) →
      g x (wipe σ vs) H' fun σ2 H2 => wipe σ2 vs = wipe σ vs ∧ te σ2 H2 Kt)
    (hd : ∀ H' (ps : List Addr), Same H1 H' → H' D = some (.lst (ps.map V.ref)) → ps.length = n → (∀ (j : Nat) p, ps[j]? = some p → H' p = some (frT (f j))) → Qd H') : LcAsk J g tYes te vs σ H1 D Qd := by
  refine lc_it w (fun i H => Same H1 H ∧ ∃ ps : List Addr, H D = some (.lst (ps.map V.ref)) ∧ ps.length = i ∧ ∀ (j : Nat) p, ps[j]? = some p → H p = some (frT (f j))) ⟨Same.new nD, [], upd_same, rfl, fun j p e => by simp at e⟩ (fun i H _ p => hG H p.1) (fun i x H H' hi p y => ?_)
    (fun H p => by obtain ⟨h1, ps, h2, h3, h4⟩ := p; exact hd H ps h1 h2 h3 h4)
  obtain ⟨h1, ps, h2, h3, h4⟩ := p
  have z := turn i x H H' (fun y H4 => ∃ acc, H4 D = some (.lst acc) ∧ acc.length < sizeLine ∧ (Same H1 (upd H4 D (.lst (acc ++ [y]))) ∧ ∃ ps : List Addr, (upd H4 D (.lst (acc ++ [y]))) D = some (.lst (ps.map V.ref)) ∧ ps.length = i + 1 ∧ ∀ (j : Nat) p, ps[j]? = some p → (upd H4 D (.lst (acc ++ [y]))) p = some (frT (f j)))) hi h1 y (fun p H4 s hp => ?_)
  · exact z
  · refine ⟨_, s _ _ h2, by rw [List.length_map, h3]; exact small1000 (by omega), updD (h1.trans s) nD, ps ++ [p], by rw [upd_same, List.map_append]; rfl, by rw [List.length_append, h3]; rfl, fun j q e => ?_⟩
    have nd : ∀ {q : Addr} {r : Rat}, H4 q = some (frT r) → q ≠ D := fun hq => ne_of hq (s _ _ h2) (by unfold frT; intro z; cases z)
    by_cases hj : j < i
    · rw [List.getElem?_append_left (by omega)] at e
      have a := s _ _ (h4 j q e)
      rw [upd_ne (nd a)]
      exact a
    · have hj' : j = i := by
        have := (List.getElem?_eq_some_iff.mp e).1
        rw [List.length_append, h3] at this
        simp at this
        omega
      subst hj'
      rw [List.getElem?_append_right (by omega), h3, Nat.sub_self] at e
      have e' : p = q := Option.some.inj e
      subst e'
      rw [upd_ne (nd hp)]
      exact hp
end
theorem walk_r0 {n : Nat} : Walk (Itr 0 n) n (fun _ => True) (YFn fun i => .int ((i : Nat) : Int)) := walk_range.mono (fun _ h => h) fun i H x H' _ _ y => ⟨y.1, y.2.trans (by show V.int (0 + (i : Int)) = _; rw [Int.zero_add])⟩
/-! ### a setting in the heap -/
def setFs (n : Nat) (tw pw : Addr) (pn pd g l hp tp : Nat) : List (Str × V) := [("signal_count", .int (n : Int)), ("test_weights", .ref tw), ("production_weights", .ref pw), ("prior_num", .int (pn : Int)), ("prior_den", .int (pd : Int)), ("gain", .int (g : Int)), ("loss", .int (l : Int)), ("harm_price", .int (hp : Int)), ("test_price", .int (tp : Int))]
structure SetR (K : PySem.W.Frag) (H : Hp) (a : Addr) (s : Kp416.Setting) : Prop where
  ex : ∃ dx tw pw, H a = some (.ins (gad K "Setting") dx (setFs (Kp415.signalCount s.model) tw pw s.model.priorNum s.model.priorDen s.gain s.loss s.harmPrice s.testPrice)) ∧ H tw = some (.lst (natL s.model.testWeights)) ∧ H pw = some (.lst (natL s.model.productionWeights))
theorem SetR.same {K : PySem.W.Frag} {H H' : Hp} {a : Addr} {s : Kp416.Setting} (r : SetR K H a s) (e : Same H H') : SetR K H' a s := by
  obtain ⟨dx, tw, pw, h1, h2, h3⟩ := r.ex
  exact ⟨dx, tw, pw, e _ _ h1, e _ _ h2, e _ _ h3⟩
/-- what every setting keeps -/
structure SOk (s : Kp416.Setting) : Prop where
  n1 : 1 ≤ Kp415.signalCount s.model
  n5 : Kp415.signalCount s.model ≤ 5
  tw : WOk (Kp415.signalCount s.model) s.model.testWeights
  pw : WOk (Kp415.signalCount s.model) s.model.productionWeights
  pd : s.model.priorDen ≠ 0
  pl : s.model.priorNum < 2 ^ 80
  pb : s.model.priorDen < 2 ^ 80
  g : s.gain ≤ 999
  l : s.loss ≤ 999
  hp : s.harmPrice ≤ 999
  tp : s.testPrice ≤ 999
theorem natL_at {ns : List Nat} {i : Nat} (h : i < ns.length) : (natL ns)[i]? = some (V.int ((ns.getD i 0 : Nat) : Int)) := by
  unfold natL
  rw [List.getElem?_map, List.getElem?_eq_getElem h, List.getD_eq_getElem?_getD, List.getElem?_eq_getElem h]
  rfl
theorem natL_len (ns : List Nat) : (natL ns).length = ns.length := by unfold natL; rw [List.length_map]
theorem lt8000 {x : Nat} (h : x < 4096) : x < 2 ^ 8000 := Nat.lt_of_lt_of_le (show x < 2 ^ 12 from h) (Nat.pow_le_pow_right (by decide) (by decide))
theorem fmap_if {α β : Type} (p : α → Bool) (g : α → β) : ∀ l : List α, l.filterMap (fun i => if p i = true then some (g i) else none) = (l.filter p).map g
  | [] => rfl
  | a :: l => by cases h : p a <;> simp [h, fmap_if p g l]
theorem cont_eq (c s : Nat) : decide (((c / 2 ^ s % 2 : Nat) : Int) = 1) = Kp415.contains c s := by
  unfold Kp415.contains
  by_cases h : c / 2 ^ s % 2 = 1
  · rw [h]; rfl
  · have e1 : ((c / 2 ^ s % 2 == 1) : Bool) = false := by simp [h]
    rw [e1, decide_eq_false]
    omega
section
variable {P : Program} {w : World} {K : PySem.W.Frag} {mg : Str → Option Value} {base : Heap}
def sp_cheats_at (K : PySem.W.Frag) : Sp := fun vs H Q E =>
  ∃ c s : Nat, vs = [.int c, .int s] ∧ Q (.bl (Kp415.contains c s)) H
theorem ok_cheats_at (T : Tx K mg) : Cal P w K mg base CX0 1 "cheats_at" (sp_cheats_at K) := by
  refine (T.d_cheats_at).ok0 sc_cheats_at bd_cheats_at (fun vs H Q E h => ?_) (fun f cdv A outer s H vs Q E hr h => ?_)
  · obtain ⟨_, _, rfl, _⟩ := h; rfl
  refine ⟨_, (pss_one (ps_ret (pe_cmpR eqI (pe_op op_odd (pe_op op_shrN (pv 0) (pv 1)) pe_int) pe_int (nomark _)))), ?_⟩
  obtain ⟨c, s, rfl, q⟩ := h
  refine ⟨_, rfl, _, rfl, c, s, rfl, rfl, c / 2 ^ s, ?_, rfl, _, _, rfl, rfl, ?_⟩
  · rw [Int.natCast_ediv, Int.natCast_pow]; rfl
  · show Q (.bl (decide (((c / 2 ^ s % 2 : Nat) : Int) = 1))) H
    rw [cont_eq]
    exact q
def sp_share_of (K : PySem.W.Frag) : Sp := fun vs H Q E =>
  ∃ (a : Addr) (ws : List Nat) (s : Nat), vs = [.ref a, .int s] ∧ H a = some (.lst (natL ws)) ∧ WOk ws.length ws ∧ s < ws.length ∧ GivF H Q (Kp415.share ws s)
theorem ok_share_of (T : Tx K mg) : Cal P w K mg base CX0 3 "share_of" (sp_share_of K) := by
  refine (T.d_share_of).ok0 sc_share_of bd_share_of (fun vs H Q E h => ?_) (fun f cdv A outer s H vs Q E hr h => ?_)
  · obtain ⟨_, _, _, rfl, _⟩ := h; rfl
  refine ⟨_, (pss_one (ps_ret (pe_cal (ok_ratio T) (hr.mono (by decide)) pass0 (pa_cons (pe_ix ixL (pv 0) (pv 1) (fun _ _ => rfl)) (pa_cons (pe_callB (sumL rfl) (by rfl) T.n_sum bt_sum (pa_cons (pv 0) pa_nil)) pa_nil))))), ?_⟩
  obtain ⟨a, ws, s, rfl, ha, hw, hs, q⟩ := h
  refine ⟨_, rfl, _, rfl, _, _, s, _, rfl, rfl, ha, natL_at hs, _, rfl, _, ws, rfl, ha, ?_⟩
  refine ⟨_, _, rfl, hw.pos, lt8000 hw.lt, ?_⟩
  rw [← share_mk]
  exact q
def sp_share_of_set (K : PySem.W.Frag) : Sp := fun vs H Q E =>
  ∃ (a : Addr) (ws : List Nat) (c : Nat), vs = [.ref a, .int c] ∧ H a = some (.lst (natL ws)) ∧ WOk ws.length ws ∧ ws.length ≤ 5 ∧ GivF H Q (Kp415.setShare ws c)
theorem ok_share_of_set (T : Tx K mg) : Cal P w K mg base CX0 3 "share_of_set" (sp_share_of_set K) := by
  refine (T.d_share_of_set).ok0 sc_share_of_set bd_share_of_set (fun vs H Q E h => ?_) (fun f cdv A outer s H vs Q E hr h => ?_)
  · obtain ⟨_, _, _, rfl, _⟩ := h; rfl
  refine ⟨_, (pss_cons (ps_setLc (i := 2) (own := [("signal", 3), ("weight", 4)]) (g := (gTup K 2 (gCons (gName 3) (gCons (gName 4) gNil)))) rfl sc_share_of_set.nd rfl rfl (sw_true rfl rfl rfl (by decide +kernel)) (pi_enum (by rfl) T.n_enumerate (pa_cons (pv 0) pa_nil)) (blkOk_by (own := [("signal", 3), ("weight", 4)]) (N := ["weights", "cheat_set", "inside", "signal", "weight"]) (sc := defScope s_share_of_set) (by decide +kernel)) (fun _ _ _ _ _ => (pg_tup rfl (pgs_cons (pg_name (i := 3) sc_share_of_set.nd rfl (Or.inl rfl)) (pgs_cons (pg_name (i := 4) sc_share_of_set.nd rfl (Or.inl rfl)) pgs_nil)))) (fun _ _ _ _ _ => (pts_one (pt_val (pe_cal (ok_cheats_at T) (hr.mono (by decide)) pass0 (pa_cons (pv 1) (pa_cons (pv 3) pa_nil)))))) (fun _ _ _ _ _ => (pv 4)))
      (pss_one (ps_ret (pe_cal (ok_ratio T) (hr.mono (by decide)) pass0 (pa_cons (pe_callB (sumL rfl) (by rfl) T.n_sum bt_sum (pa_cons (pv 2) pa_nil)) (pa_cons (pe_callB (sumL rfl) (by rfl) T.n_sum bt_sum (pa_cons (pv 0) pa_nil)) pa_nil)))))), ?_⟩
  obtain ⟨a, ws, c, rfl, ha, hw, h5, q⟩ := h
  refine ⟨_, rfl, a, natL ws, rfl, SqL.of ha, fun D nD => ?_⟩
  refine lc_val (walk_enum (xs := natL ws)) (fun i => if Kp415.contains c i = true then some (V.int ((ws.getD i 0 : Nat) : Int)) else none) (by rw [natL_len]; omega) nD (fun H' s => SqL.of (s _ _ ha)) ?_ ?_
  · rintro i x H2 H3 Kt Kf hi s ⟨T', _, y', rfl, nT, rfl, hx', hy'⟩ kT kF
    cases hx'
    rw [natL_len] at hi
    have hy2 : (natL ws)[i]? = some y' := hy'
    rw [natL_at hi] at hy2
    cases hy2
    refine ⟨_, _, rfl, SqT.of upd_same, rfl, _, _, rfl, _, _, rfl, rfl, rfl, _, rfl, _, rfl, c, i, rfl, _, rfl, ite2 (fun hc => ?_) (fun hc => ?_)⟩
    · exact ⟨_, rfl, kT _ _ (Same.new nT) (by rw [if_pos hc])⟩
    · exact kF _ (Same.new nT) (by rw [if_neg hc])
  · intro H' s hD
    rw [natL_len] at hD
    have e : (List.range ws.length).filterMap (fun i => if Kp415.contains c i = true then some (V.int ((ws.getD i 0 : Nat) : Int)) else none) = natL (inside ws c) := by
      unfold natL inside
      rw [List.map_map, fmap_if]
      rfl
    rw [e] at hD
    refine ⟨_, rfl, D, inside ws c, rfl, hD, _, rfl, a, ws, rfl, s _ _ ha, ?_⟩
    refine ⟨_, _, rfl, hw.pos, lt8000 hw.lt, ?_⟩
    rw [← setShare_mk]
    exact fun p H2 s2 h2 => q p H2 (s.trans s2) h2
/-! ### what the setting's fractions are, their sizes -/
open Kp415 (priorTest testShare productionShare jointTest jointProduction priorProduction signalCount)
open Kp416 (cheatingValue cheatingSignals pays)
theorem prior_mk (m : Kp415.Model) : priorTest m = mkRat (m.priorNum : Int) m.priorDen := by
  unfold priorTest
  rw [nat_div]
theorem bdPrior {s : Kp416.Setting} (o : SOk s) : Bd (priorTest s.model) 80 := by
  rw [prior_mk]
  refine bd_mk ?_ o.pb o.pd
  rw [Int.natAbs_natCast]
  exact o.pl
theorem bdProd {s : Kp416.Setting} (o : SOk s) : Bd (priorProduction s.model) 82 := (bd1.sub (bdPrior o)).mono (by decide)
theorem bdJT {s : Kp416.Setting} (o : SOk s) (i : Nat) : Bd (jointTest s.model i) 92 := (bdPrior o).mul (bd_share o.tw i)
theorem bdJP {s : Kp416.Setting} (o : SOk s) (i : Nat) : Bd (jointProduction s.model i) 94 := (bdProd o).mul (bd_share o.pw i)
theorem bd999 {n : Nat} (h : n ≤ 999) : Bd ((n : Nat) : Rat) 10 := bd_nat (by omega) (by decide)
theorem bdCV {s : Kp416.Setting} (o : SOk s) (i : Nat) : Bd (cheatingValue s i) 207 := (((bd999 o.g).mul (bdJP o i)).sub ((bd999 o.l).mul (bdJT o i))).mono (by decide)
theorem tw_len (s : Kp416.Setting) : s.model.testWeights.length = signalCount s.model := rfl
theorem twOk {s : Kp416.Setting} (o : SOk s) : WOk s.model.testWeights.length s.model.testWeights := o.tw
theorem pwOk {s : Kp416.Setting} (o : SOk s) : WOk s.model.productionWeights.length s.model.productionWeights := by
  have := o.pw
  rw [← this.len] at this
  exact this
theorem natFr (n : Nat) : frT ((n : Nat) : Rat) = .tup [.int (n : Int), .int 1] := rfl
/-- a new list of these numbers is handed back, all else as it was -/
def GivL (H : Hp) (Q : VK) (ns : List Nat) : Prop := ∀ p H', Same H H' → H' p = some (.lst (natL ns)) → Q (.ref p) H'
theorem signals_le {s : Kp416.Setting} : (cheatingSignals s).length ≤ signalCount s.model := by
  unfold cheatingSignals
  exact Nat.le_trans (List.length_filter_le _ _) (Nat.le_of_eq List.length_range)
theorem signals_lt {s : Kp416.Setting} {i : Nat} (h : i ∈ cheatingSignals s) : i < signalCount s.model := by
  unfold cheatingSignals at h
  exact List.mem_range.mp (List.mem_filter.mp h).1
theorem mask_fold (p : Nat → Bool) : ∀ n, n ≤ 5 → ((List.range n).filter p).foldl (fun c s => c ||| 2 ^ s) 0 = (((List.range n).filter p).map fun s => 2 ^ s).sum := by
  intro n hn
  have h : n = 0 ∨ n = 1 ∨ n = 2 ∨ n = 3 ∨ n = 4 ∨ n = 5 := by omega
  rcases h with h | h | h | h | h | h <;> subst h <;> cases h0 : p 0 <;> cases h1 : p 1 <;> cases h2 : p 2 <;> cases h3 : p 3 <;> cases h4 : p 4 <;> simp [List.range_succ, h0, h1, h2, h3, h4]
def sp_prior_of (K : PySem.W.Frag) : Sp := fun vs H Q E =>
  ∃ (a : Addr) (s : Kp416.Setting), vs = [.ref a] ∧ SetR K H a s ∧ SOk s ∧ GivF H Q (Kp415.priorTest s.model)
theorem ok_prior_of (T : Tx K mg) : Cal P w K mg base CX0 3 "prior_of" (sp_prior_of K) := by
  refine (T.d_prior_of).ok0 sc_prior_of bd_prior_of (fun vs H Q E h => ?_) (fun f cdv A outer s H vs Q E hr h => ?_)
  · obtain ⟨_, _, rfl, _⟩ := h; rfl
  refine ⟨_, (pss_one (ps_ret (pe_cal (ok_ratio T) (hr.mono (by decide)) pass0 (pa_cons (pe_fldC T.c_Setting T.a_Setting_prior_num (pv 0)) (pa_cons (pe_fldC T.c_Setting T.a_Setting_prior_den (pv 0)) pa_nil))))), ?_⟩
  obtain ⟨a, s, rfl, r, o, q⟩ := h
  obtain ⟨dx, tw, pw, h1, h2, h3⟩ := r.ex
  refine ⟨_, rfl, _, _, _, _, rfl, h1, rfl, _, rfl, _, _, _, _, rfl, h1, rfl, ?_⟩
  refine ⟨_, s.model.priorDen, rfl, o.pd, Nat.lt_trans o.pb (Nat.pow_lt_pow_right (by decide) (by decide)), ?_⟩
  rw [← prior_mk]
  exact q
def sp_joint_test (K : PySem.W.Frag) : Sp := fun vs H Q E =>
  ∃ (a : Addr) (s : Kp416.Setting) (i : Nat), vs = [.ref a, .int i] ∧ SetR K H a s ∧ SOk s ∧ i < signalCount s.model ∧ GivF H Q (jointTest s.model i)
theorem ok_joint_test (T : Tx K mg) : Cal P w K mg base CX0 4 "joint_test" (sp_joint_test K) := by
  refine (T.d_joint_test).ok0 sc_joint_test bd_joint_test (fun vs H Q E h => ?_) (fun f cdv A outer s H vs Q E hr h => ?_)
  · obtain ⟨_, _, _, rfl, _⟩ := h; rfl
  refine ⟨_, (pss_one (ps_ret (pe_cal (ok_times T) (hr.mono (by decide)) pass0 (pa_cons (pe_cal (ok_prior_of T) (hr.mono (by decide)) pass0 (pa_cons (pv 0) pa_nil)) (pa_cons (pe_cal (ok_share_of T) (hr.mono (by decide)) pass0 (pa_cons (pe_fldC T.c_Setting T.a_Setting_test_weights (pv 0)) (pa_cons (pv 1) pa_nil))) pa_nil))))), ?_⟩
  obtain ⟨a, s, i, rfl, r, o, hi, q⟩ := h
  obtain ⟨dx, tw, pw, h1, h2, h3⟩ := r.ex
  refine ⟨_, rfl, a, s, rfl, r, o, fun p1 H1 s1 e1 => ?_⟩
  refine ⟨_, rfl, _, _, _, _, rfl, s1 _ _ h1, rfl, _, rfl, tw, _, i, rfl, s1 _ _ h2, twOk o, hi, fun p2 H2 s2 e2 => ?_⟩
  exact ⟨p1, p2, _, _, rfl, s2 _ _ e1, e2, (bdPrior o).mono (by decide), (bd_share o.tw i).mono (by decide), fun p3 H3 s3 e3 => q p3 H3 ((s1.trans s2).trans s3) e3⟩
def sp_joint_production (K : PySem.W.Frag) : Sp := fun vs H Q E =>
  ∃ (a : Addr) (s : Kp416.Setting) (i : Nat), vs = [.ref a, .int i] ∧ SetR K H a s ∧ SOk s ∧ i < signalCount s.model ∧ GivF H Q (jointProduction s.model i)
theorem ok_joint_production (T : Tx K mg) : Cal P w K mg base CX0 4 "joint_production" (sp_joint_production K) := by
  refine (T.d_joint_production).ok0 sc_joint_production bd_joint_production (fun vs H Q E h => ?_) (fun f cdv A outer s H vs Q E hr h => ?_)
  · obtain ⟨_, _, _, rfl, _⟩ := h; rfl
  refine ⟨_, (pss_one (ps_ret (pe_cal (ok_times T) (hr.mono (by decide)) pass0 (pa_cons (pe_cal (ok_minus T) (hr.mono (by decide)) pass0 (pa_cons (pe_tup (pa_cons pe_int (pa_cons pe_int pa_nil))) (pa_cons (pe_cal (ok_prior_of T) (hr.mono (by decide)) pass0 (pa_cons (pv 0) pa_nil)) pa_nil))) (pa_cons (pe_cal (ok_share_of T) (hr.mono (by decide)) pass0 (pa_cons (pe_fldC T.c_Setting T.a_Setting_production_weights (pv 0)) (pa_cons (pv 1) pa_nil))) pa_nil))))), ?_⟩
  obtain ⟨a, s, i, rfl, r, o, hi, q⟩ := h
  obtain ⟨dx, tw, pw, h1, h2, h3⟩ := r.ex
  refine ⟨szl, fun u nu => ?_⟩
  have su := Same.new (o := .tup [V.int 1, V.int 1]) nu
  refine ⟨_, rfl, a, s, rfl, r.same su, o, fun p1 H1 s1 e1 => ?_⟩
  refine ⟨u, p1, 1, _, rfl, s1 _ _ upd_same, e1, bd1.mono (by decide), (bdPrior o).mono (by decide), fun p2 H2 s2 e2 => ?_⟩
  have t2 := (su.trans s1).trans s2
  refine ⟨_, rfl, _, _, _, _, rfl, t2 _ _ h1, rfl, _, rfl, pw, _, i, rfl, t2 _ _ h3, pwOk o, by rw [o.pw.len]; exact hi, fun p3 H3 s3 e3 => ?_⟩
  exact ⟨p2, p3, _, _, rfl, s3 _ _ e2, e3, (bdProd o).mono (by decide), (bd_share o.pw i).mono (by decide), fun p4 H4 s4 e4 => q p4 H4 ((t2.trans s3).trans s4) e4⟩
def sp_value_at (K : PySem.W.Frag) : Sp := fun vs H Q E =>
  ∃ (a : Addr) (s : Kp416.Setting) (i : Nat), vs = [.ref a, .int i] ∧ SetR K H a s ∧ SOk s ∧ i < signalCount s.model ∧ GivF H Q (cheatingValue s i)
theorem ok_value_at (T : Tx K mg) : Cal P w K mg base CX0 5 "value_at" (sp_value_at K) := by
  refine (T.d_value_at).ok0 sc_value_at bd_value_at (fun vs H Q E h => ?_) (fun f cdv A outer s H vs Q E hr h => ?_)
  · obtain ⟨_, _, _, rfl, _⟩ := h; rfl
  refine ⟨_, (pss_cons (ps_set (i := 2) sc_value_at.nd rfl (Or.inl rfl) (pe_cal (ok_times T) (hr.mono (by decide)) pass0 (pa_cons (pe_tup (pa_cons (pe_fldC T.c_Setting T.a_Setting_gain (pv 0)) (pa_cons pe_int pa_nil))) (pa_cons (pe_cal (ok_joint_production T) (hr.mono (by decide)) pass0 (pa_cons (pv 0) (pa_cons (pv 1) pa_nil))) pa_nil))))
      (pss_cons (ps_set (i := 3) sc_value_at.nd rfl (Or.inl rfl) (pe_cal (ok_times T) (hr.mono (by decide)) pass0 (pa_cons (pe_tup (pa_cons (pe_fldC T.c_Setting T.a_Setting_loss (pv 0)) (pa_cons pe_int pa_nil))) (pa_cons (pe_cal (ok_joint_test T) (hr.mono (by decide)) pass0 (pa_cons (pv 0) (pa_cons (pv 1) pa_nil))) pa_nil))))
      (pss_one (ps_ret (pe_cal (ok_minus T) (hr.mono (by decide)) pass0 (pa_cons (pv 2) (pa_cons (pv 3) pa_nil))))))), ?_⟩
  obtain ⟨a, s, i, rfl, r, o, hi, q⟩ := h
  obtain ⟨dx, tw, pw, h1, h2, h3⟩ := r.ex
  refine ⟨_, rfl, _, _, _, _, rfl, h1, rfl, szl, fun u nu => ?_⟩
  have su := Same.new (o := .tup [V.int (s.gain : Int), V.int 1]) nu
  refine ⟨_, rfl, _, rfl, a, s, i, rfl, r.same su, o, hi, fun p1 H1 s1 e1 => ?_⟩
  refine ⟨u, p1, ((s.gain : Nat) : Rat), _, rfl, s1 _ _ upd_same, e1, (bd999 o.g).mono (by decide), (bdJP o i).mono (by decide), fun p2 H2 s2 e2 => ?_⟩
  have t2 := (su.trans s1).trans s2
  refine ⟨_, rfl, _, _, _, _, rfl, t2 _ _ h1, rfl, szl, fun x nx => ?_⟩
  have sx := Same.new (o := .tup [V.int (s.loss : Int), V.int 1]) nx
  have t3 := t2.trans sx
  refine ⟨_, rfl, _, rfl, a, s, i, rfl, r.same t3, o, hi, fun p4 H4 s4 e4 => ?_⟩
  refine ⟨x, p4, ((s.loss : Nat) : Rat), _, rfl, s4 _ _ upd_same, e4, (bd999 o.l).mono (by decide), (bdJT o i).mono (by decide), fun p5 H5 s5 e5 => ?_⟩
  have s25 := (sx.trans s4).trans s5
  refine ⟨_, rfl, _, rfl, p2, p5, _, _, rfl, s25 _ _ e2, e5, ((bd999 o.g).mul (bdJP o i)).mono (by decide), ((bd999 o.l).mul (bdJT o i)).mono (by decide), fun p6 H6 s6 e6 => q p6 H6 ((t2.trans s25).trans s6) e6⟩
def sp_paying_signals (K : PySem.W.Frag) : Sp := fun vs H Q E =>
  ∃ (a : Addr) (s : Kp416.Setting), vs = [.ref a] ∧ SetR K H a s ∧ SOk s ∧ GivL H Q (cheatingSignals s)
theorem ok_paying_signals (T : Tx K mg) : Cal P w K mg base CX0 6 "paying_signals" (sp_paying_signals K) := by
  refine (T.d_paying_signals).ok0 sc_paying_signals bd_paying_signals (fun vs H Q E h => ?_) (fun f cdv A outer s H vs Q E hr h => ?_)
  · obtain ⟨_, _, rfl, _⟩ := h; rfl
  refine ⟨_, (pss_one (ps_ret (pe_lc (own := [("signal", 1)]) (g := (gName 1)) rfl sc_paying_signals.nd (pi_range1 rfl T.n_range (pa_cons (pe_fldC T.c_Setting T.a_Setting_signal_count (pv 0)) pa_nil)) (blkOk_by (own := [("signal", 1)]) (N := ["setting", "signal"]) (sc := defScope s_paying_signals) (by decide +kernel)) (fun _ _ _ _ _ => (pg_name (i := 1) sc_paying_signals.nd rfl (Or.inl rfl))) (fun _ _ _ _ _ => (pts_one (pt_cmpR op_gt (pe_ix ixT (pe_cal (ok_value_at T) (hr.mono (by decide)) pass0 (pa_cons (pv 0) (pa_cons (pv 1) pa_nil))) pe_int (fun _ _ => rfl)) pe_int (nomark _)))) (fun _ _ _ _ _ => (pv 1))))), ?_⟩
  obtain ⟨a, s, rfl, r, o, q⟩ := h
  obtain ⟨dx, tw, pw, h1, h2, h3⟩ := r.ex
  have n5 := o.n5
  refine ⟨_, rfl, _, _, _, _, rfl, h1, rfl, _, rfl, by omega, by omega, fun D nD => ?_⟩
  refine lc_val (walk_r0 (n := signalCount s.model)) (fun i => if pays s i = true then some (V.int (i : Int)) else none) (by omega) nD (fun _ _ => trivial) ?_ ?_
  · rintro i x H2 H3 Kt Kf hi st ⟨rfl, rfl⟩ kT kF
    refine ⟨rfl, _, rfl, _, rfl, a, s, i, rfl, r.same st, o, hi, fun p1 H1 s1 e1 => ?_⟩
    refine ⟨_, _, 0, _, rfl, rfl, e1, rfl, _, _, rfl, rfl, _, rfl, ?_⟩
    have e : decide ((0 : Int) < (cheatingValue s i).num) = pays s i := by
      unfold pays
      rw [decide_eq_decide, num_pos]
    show if decide ((0 : Int) < (cheatingValue s i).num) = true then _ else _
    rw [e]
    refine ite2 (fun hc => ?_) (fun hc => ?_)
    · exact ⟨_, rfl, kT _ _ s1 (by rw [if_pos hc])⟩
    · exact kF _ s1 (by rw [if_neg hc])
  · intro H' st hD
    rw [fmap_if] at hD
    exact q D H' st hD
def sp_rational_cheat_set (K : PySem.W.Frag) : Sp := fun vs H Q E =>
  ∃ (a : Addr) (s : Kp416.Setting), vs = [.ref a] ∧ SetR K H a s ∧ SOk s ∧ ∀ H', Same H H' → Q (.int (Kp417.maskOf (cheatingSignals s) : Nat)) H'
theorem ok_rational_cheat_set (T : Tx K mg) : Cal P w K mg base CX0 7 "rational_cheat_set" (sp_rational_cheat_set K) := by
  refine (T.d_rational_cheat_set).ok0 sc_rational_cheat_set bd_rational_cheat_set (fun vs H Q E h => ?_) (fun f cdv A outer s H vs Q E hr h => ?_)
  · obtain ⟨_, _, rfl, _⟩ := h; rfl
  refine ⟨_, (pss_cons (ps_set (i := 1) sc_rational_cheat_set.nd rfl (Or.inl rfl) pe_int)
      (pss_cons (ps_for PassesOwn.never rfl (pi_list (pe_cal (ok_paying_signals T) (hr.mono (by decide)) pass0 (pa_cons (pv 0) pa_nil))) (pg_name (i := 2) sc_rational_cheat_set.nd rfl (Or.inl rfl)) (pss_one (ps_set (i := 1) sc_rational_cheat_set.nd rfl (Or.inl rfl) (pe_op op_or (pv 1) (pe_op op_oneShl pe_int (pv 2))))))
      (pss_one (ps_ret (pv 1))))), ?_⟩
  obtain ⟨a, s, rfl, r, o, q⟩ := h
  refine ⟨_, rfl, a, s, rfl, r, o, fun p1 H1 s1 e1 => ?_⟩
  refine ⟨p1, rfl, ⟨_, SqL.of e1⟩, for_list (K := K) (a := p1) (xs := natL (cheatingSignals s)) (fun i σ H' => ∃ (v : Option V), σ = [some (.ref a), some (.int (((cheatingSignals s).take i).foldl (fun c s => c ||| 2 ^ s) 0 : Nat)), v] ∧ H' = H1)
    ⟨none, rfl, rfl⟩ (fun i σ H' _ ⟨_, _, e⟩ => by rw [e]; exact SqL.of e1) ?_ ?_⟩
  · rintro i y σ H' hi ⟨v, rfl, rfl⟩
    have hil : i < (cheatingSignals s).length := by
      have := (List.getElem?_eq_some_iff.mp hi).1
      rw [natL_len] at this
      exact this
    rw [natL_at hil] at hi
    cases hi
    have h5 := o.n5
    have hlt := signals_lt (List.getElem_mem hil)
    have eg : (cheatingSignals s).getD i 0 = (cheatingSignals s)[i] := by rw [List.getD_eq_getElem?_getD, List.getElem?_eq_getElem hil]; rfl
    refine ⟨_, rfl, _, rfl, (cheatingSignals s).getD i 0, rfl, rfl, by rw [eg]; omega, _, _, rfl, rfl, ?_⟩
    have e2 : ((2 : Int) ^ ((cheatingSignals s).getD i 0)) = (((2 : Nat) ^ ((cheatingSignals s).getD i 0) : Nat) : Int) := by rw [Int.natCast_pow]; rfl
    have e3 : Builtin.bitOr (((((cheatingSignals s).take i).foldl (fun c s => c ||| 2 ^ s) 0 : Nat)) : Int) (2 ^ ((cheatingSignals s).getD i 0)) = (((((cheatingSignals s).take i).foldl (fun c s => c ||| 2 ^ s) 0 ||| 2 ^ ((cheatingSignals s).getD i 0) : Nat)) : Int) := by
      rw [e2, Bits.bitOr_pp (Int.natCast_nonneg _) (Int.natCast_nonneg _), Int.toNat_natCast, Int.toNat_natCast]
    refine ⟨some (V.int ((cheatingSignals s).getD i 0 : Nat)), (congrArg (fun z => [some (V.ref a), some (V.int z), some (V.int ((cheatingSignals s).getD i 0 : Nat))]) e3).trans ?_, rfl⟩
    rw [List.take_succ_eq_append_getElem hil, List.foldl_append, eg]
    rfl
  · rintro σ H' ⟨v, rfl, rfl⟩
    refine ⟨_, rfl, ?_⟩
    have e : ((cheatingSignals s).take (natL (cheatingSignals s)).length).foldl (fun c s => c ||| 2 ^ s) 0 = Kp417.maskOf (cheatingSignals s) := by
      rw [natL_len, List.take_length]
      exact mask_fold _ _ o.n5
    have z := q H' s1
    rw [← e] at z
    exact z
/-- a comprehension of fractions over a list of numbers, summed -/
theorem use_total {a : Addr} {ps : List Addr} {rs : List Rat} {n : Nat} {H : Hp} {Q : VK} {E : XK} (ha : H a = some (.lst (ps.map V.ref))) (hl : ps.length = rs.length) (hp : ∀ (i : Nat) p r, ps[i]? = some p → rs[i]? = some r → H p = some (frT r)) (hb : ∀ r ∈ rs, Bd r n) (hn : 1 + rs.length * (n + 1) ≤ 4000)
    (hn2 : n ≤ 4000) (q : GivF H Q rs.sum) : sp_total K [.ref a] H Q E := ⟨a, ps, rs, n, rfl, ha, hl, hp, hb, hn, hn2, q⟩
def sp_profit_of (K : PySem.W.Frag) : Sp := fun vs H Q E =>
  ∃ (a : Addr) (s : Kp416.Setting), vs = [.ref a] ∧ SetR K H a s ∧ SOk s ∧ GivF H Q (Kp416.expectedProfit s)
theorem ok_profit_of (T : Tx K mg) : Cal P w K mg base CX0 7 "profit_of" (sp_profit_of K) := by
  refine (T.d_profit_of).ok0 sc_profit_of bd_profit_of (fun vs H Q E h => ?_) (fun f cdv A outer s H vs Q E hr h => ?_)
  · obtain ⟨_, _, rfl, _⟩ := h; rfl
  refine ⟨_, (pss_one (ps_ret (pe_cal (ok_total T) (hr.mono (by decide)) pass0 (pa_cons (pe_lc (own := [("signal", 1)]) (g := (gName 1)) (tt := tYes) rfl sc_profit_of.nd (pi_list (pe_cal (ok_paying_signals T) (hr.mono (by decide)) pass0 (pa_cons (pv 0) pa_nil))) (blkOk_by (own := [("signal", 1)]) (N := ["setting", "signal"]) (sc := defScope s_profit_of) (by decide +kernel)) (fun _ _ _ _ _ => (pg_name (i := 1) sc_profit_of.nd rfl (Or.inl rfl))) (fun _ _ _ _ _ => pts_nil) (fun _ _ _ _ _ => (pe_cal (ok_value_at T) (hr.mono (by decide)) pass0 (pa_cons (pv 0) (pa_cons (pv 1) pa_nil))))) pa_nil)))), ?_⟩
  obtain ⟨a, s, rfl, r, o, q⟩ := h
  refine ⟨_, rfl, a, s, rfl, r, o, fun p1 H1 s1 e1 => ?_⟩
  refine ⟨p1, rfl, ⟨_, SqL.of e1⟩, fun D nD => ?_⟩
  have h5 := o.n5
  have hlen := signals_le (s := s)
  refine lc_fr (walk_list (xs := natL (cheatingSignals s))) (fun j => cheatingValue s ((cheatingSignals s).getD j 0)) (by rw [natL_len]; omega) nD (fun H' st => SqL.of (st _ _ e1)) ?_ ?_
  · rintro i x H2 H3 Kt hi st ⟨rfl, hx⟩ kT
    rw [natL_len] at hi
    rw [natL_at hi] at hx
    cases hx
    have eg : (cheatingSignals s).getD i 0 = (cheatingSignals s)[i] := by rw [List.getD_eq_getElem?_getD, List.getElem?_eq_getElem hi]; rfl
    exact ⟨rfl, _, rfl, _, rfl, a, s, _, rfl, r.same (s1.trans st), o, by rw [eg]; exact signals_lt (List.getElem_mem hi), fun p2 H2 s2 e2 => kT p2 H2 s2 e2⟩
  · intro H' ps st hD hl hp
    rw [natL_len] at hl
    refine use_total (K := K) (E := E0) (rs := (cheatingSignals s).map (cheatingValue s)) (n := 207) hD (by rw [hl, List.length_map]) (fun i p x hi hx => ?_) (fun x hx => ?_) ?_ (by decide) (fun p2 H2 s2 e2 => q p2 H2 ((s1.trans st).trans s2) e2)
    · rw [hp i p hi]
      rw [List.getElem?_map] at hx
      obtain ⟨z, hz, rfl⟩ := Option.map_eq_some_iff.mp hx
      rw [List.getD_eq_getElem?_getD, hz]
      rfl
    · obtain ⟨z, hz, rfl⟩ := List.mem_map.mp hx
      exact bdCV o z
    · rw [List.length_map]
      have := Nat.mul_le_mul_right (207 + 1) (Nat.le_trans hlen h5)
      omega
def sp_detection_under (K : PySem.W.Frag) : Sp := fun vs H Q E =>
  ∃ (a : Addr) (s : Kp416.Setting), vs = [.ref a] ∧ SetR K H a s ∧ SOk s ∧ GivF H Q (Kp416.detectionProbability s)
theorem ok_detection_under (T : Tx K mg) : Cal P w K mg base CX0 7 "detection_under" (sp_detection_under K) := by
  refine (T.d_detection_under).ok0 sc_detection_under bd_detection_under (fun vs H Q E h => ?_) (fun f cdv A outer s H vs Q E hr h => ?_)
  · obtain ⟨_, _, rfl, _⟩ := h; rfl
  refine ⟨_, (pss_one (ps_ret (pe_cal (ok_total T) (hr.mono (by decide)) pass0 (pa_cons (pe_lc (own := [("signal", 1)]) (g := (gName 1)) (tt := tYes) rfl sc_detection_under.nd (pi_list (pe_cal (ok_paying_signals T) (hr.mono (by decide)) pass0 (pa_cons (pv 0) pa_nil))) (blkOk_by (own := [("signal", 1)]) (N := ["setting", "signal"]) (sc := defScope s_detection_under) (by decide +kernel)) (fun _ _ _ _ _ => (pg_name (i := 1) sc_detection_under.nd rfl (Or.inl rfl))) (fun _ _ _ _ _ => pts_nil) (fun _ _ _ _ _ => (pe_cal (ok_joint_test T) (hr.mono (by decide)) pass0 (pa_cons (pv 0) (pa_cons (pv 1) pa_nil))))) pa_nil)))), ?_⟩
  obtain ⟨a, s, rfl, r, o, q⟩ := h
  refine ⟨_, rfl, a, s, rfl, r, o, fun p1 H1 s1 e1 => ?_⟩
  refine ⟨p1, rfl, ⟨_, SqL.of e1⟩, fun D nD => ?_⟩
  have h5 := o.n5
  have hlen := signals_le (s := s)
  refine lc_fr (walk_list (xs := natL (cheatingSignals s))) (fun j => jointTest s.model ((cheatingSignals s).getD j 0)) (by rw [natL_len]; omega) nD (fun H' st => SqL.of (st _ _ e1)) ?_ ?_
  · rintro i x H2 H3 Kt hi st ⟨rfl, hx⟩ kT
    rw [natL_len] at hi
    rw [natL_at hi] at hx
    cases hx
    have eg : (cheatingSignals s).getD i 0 = (cheatingSignals s)[i] := by rw [List.getD_eq_getElem?_getD, List.getElem?_eq_getElem hi]; rfl
    exact ⟨rfl, _, rfl, _, rfl, a, s, _, rfl, r.same (s1.trans st), o, by rw [eg]; exact signals_lt (List.getElem_mem hi), fun p2 H2 s2 e2 => kT p2 H2 s2 e2⟩
  · intro H' ps st hD hl hp
    rw [natL_len] at hl
    refine use_total (K := K) (E := E0) (rs := (cheatingSignals s).map (jointTest s.model)) (n := 92) hD (by rw [hl, List.length_map]) (fun i p x hi hx => ?_) (fun x hx => ?_) ?_ (by decide) (fun p2 H2 s2 e2 => q p2 H2 ((s1.trans st).trans s2) e2)
    · rw [hp i p hi]
      rw [List.getElem?_map] at hx
      obtain ⟨z, hz, rfl⟩ := Option.map_eq_some_iff.mp hx
      rw [List.getD_eq_getElem?_getD, hz]
      rfl
    · obtain ⟨z, hz, rfl⟩ := List.mem_map.mp hx
      exact bdJT o z
    · rw [List.length_map]
      have := Nat.mul_le_mul_right (92 + 1) (Nat.le_trans hlen h5)
      omega
def sp_harm_under (K : PySem.W.Frag) : Sp := fun vs H Q E =>
  ∃ (a : Addr) (s : Kp416.Setting), vs = [.ref a] ∧ SetR K H a s ∧ SOk s ∧ GivF H Q (Kp416.harmProbability s)
theorem ok_harm_under (T : Tx K mg) : Cal P w K mg base CX0 7 "harm_under" (sp_harm_under K) := by
  refine (T.d_harm_under).ok0 sc_harm_under bd_harm_under (fun vs H Q E h => ?_) (fun f cdv A outer s H vs Q E hr h => ?_)
  · obtain ⟨_, _, rfl, _⟩ := h; rfl
  refine ⟨_, (pss_one (ps_ret (pe_cal (ok_total T) (hr.mono (by decide)) pass0 (pa_cons (pe_lc (own := [("signal", 1)]) (g := (gName 1)) (tt := tYes) rfl sc_harm_under.nd (pi_list (pe_cal (ok_paying_signals T) (hr.mono (by decide)) pass0 (pa_cons (pv 0) pa_nil))) (blkOk_by (own := [("signal", 1)]) (N := ["setting", "signal"]) (sc := defScope s_harm_under) (by decide +kernel)) (fun _ _ _ _ _ => (pg_name (i := 1) sc_harm_under.nd rfl (Or.inl rfl))) (fun _ _ _ _ _ => pts_nil) (fun _ _ _ _ _ => (pe_cal (ok_joint_production T) (hr.mono (by decide)) pass0 (pa_cons (pv 0) (pa_cons (pv 1) pa_nil))))) pa_nil)))), ?_⟩
  obtain ⟨a, s, rfl, r, o, q⟩ := h
  refine ⟨_, rfl, a, s, rfl, r, o, fun p1 H1 s1 e1 => ?_⟩
  refine ⟨p1, rfl, ⟨_, SqL.of e1⟩, fun D nD => ?_⟩
  have h5 := o.n5
  have hlen := signals_le (s := s)
  refine lc_fr (walk_list (xs := natL (cheatingSignals s))) (fun j => jointProduction s.model ((cheatingSignals s).getD j 0)) (by rw [natL_len]; omega) nD (fun H' st => SqL.of (st _ _ e1)) ?_ ?_
  · rintro i x H2 H3 Kt hi st ⟨rfl, hx⟩ kT
    rw [natL_len] at hi
    rw [natL_at hi] at hx
    cases hx
    have eg : (cheatingSignals s).getD i 0 = (cheatingSignals s)[i] := by rw [List.getD_eq_getElem?_getD, List.getElem?_eq_getElem hi]; rfl
    exact ⟨rfl, _, rfl, _, rfl, a, s, _, rfl, r.same (s1.trans st), o, by rw [eg]; exact signals_lt (List.getElem_mem hi), fun p2 H2 s2 e2 => kT p2 H2 s2 e2⟩
  · intro H' ps st hD hl hp
    rw [natL_len] at hl
    refine use_total (K := K) (E := E0) (rs := (cheatingSignals s).map (jointProduction s.model)) (n := 94) hD (by rw [hl, List.length_map]) (fun i p x hi hx => ?_) (fun x hx => ?_) ?_ (by decide) (fun p2 H2 s2 e2 => q p2 H2 ((s1.trans st).trans s2) e2)
    · rw [hp i p hi]
      rw [List.getElem?_map] at hx
      obtain ⟨z, hz, rfl⟩ := Option.map_eq_some_iff.mp hx
      rw [List.getD_eq_getElem?_getD, hz]
      rfl
    · obtain ⟨z, hz, rfl⟩ := List.mem_map.mp hx
      exact bdJP o z
    · rw [List.length_map]
      have := Nat.mul_le_mul_right (94 + 1) (Nat.le_trans hlen h5)
      omega
theorem bdHarm {s : Kp416.Setting} (o : SOk s) : Bd (Kp416.harmProbability s) 476 := by
  unfold Kp416.harmProbability Kp416.sumOver
  refine (bd_sum (n := 5) (k := 94) (fun x hx => ?_) ?_).mono (by decide)
  · obtain ⟨z, hz, rfl⟩ := List.mem_map.mp hx
    exact bdJP o z
  · rw [List.length_map]
    exact Nat.le_trans signals_le o.n5
theorem bdCost {s : Kp416.Setting} (o : SOk s) : Bd (Kp416.totalCost s) 577 := (((bd999 o.tp).mul (bdPrior o)).add ((bd999 o.hp).mul (bdHarm o))).mono (by decide)
def sp_cost_of (K : PySem.W.Frag) : Sp := fun vs H Q E =>
  ∃ (a : Addr) (s : Kp416.Setting), vs = [.ref a] ∧ SetR K H a s ∧ SOk s ∧ GivF H Q (Kp416.totalCost s)
theorem ok_cost_of (T : Tx K mg) : Cal P w K mg base CX0 8 "cost_of" (sp_cost_of K) := by
  refine (T.d_cost_of).ok0 sc_cost_of bd_cost_of (fun vs H Q E h => ?_) (fun f cdv A outer s H vs Q E hr h => ?_)
  · obtain ⟨_, _, rfl, _⟩ := h; rfl
  refine ⟨_, (pss_cons (ps_set (i := 1) sc_cost_of.nd rfl (Or.inl rfl) (pe_cal (ok_times T) (hr.mono (by decide)) pass0 (pa_cons (pe_tup (pa_cons (pe_fldC T.c_Setting T.a_Setting_test_price (pv 0)) (pa_cons pe_int pa_nil))) (pa_cons (pe_cal (ok_prior_of T) (hr.mono (by decide)) pass0 (pa_cons (pv 0) pa_nil)) pa_nil))))
      (pss_cons (ps_set (i := 2) sc_cost_of.nd rfl (Or.inl rfl) (pe_cal (ok_times T) (hr.mono (by decide)) pass0 (pa_cons (pe_tup (pa_cons (pe_fldC T.c_Setting T.a_Setting_harm_price (pv 0)) (pa_cons pe_int pa_nil))) (pa_cons (pe_cal (ok_harm_under T) (hr.mono (by decide)) pass0 (pa_cons (pv 0) pa_nil)) pa_nil))))
      (pss_one (ps_ret (pe_cal (ok_plus T) (hr.mono (by decide)) pass0 (pa_cons (pv 1) (pa_cons (pv 2) pa_nil))))))), ?_⟩
  obtain ⟨a, s, rfl, r, o, q⟩ := h
  obtain ⟨dx, tw, pw, h1, h2, h3⟩ := r.ex
  refine ⟨_, rfl, _, _, _, _, rfl, h1, rfl, szl, fun u nu => ?_⟩
  have su := Same.new (o := .tup [V.int (s.testPrice : Int), V.int 1]) nu
  refine ⟨_, rfl, a, s, rfl, r.same su, o, fun p1 H1 s1 e1 => ?_⟩
  refine ⟨u, p1, ((s.testPrice : Nat) : Rat), _, rfl, s1 _ _ upd_same, e1, (bd999 o.tp).mono (by decide), (bdPrior o).mono (by decide), fun p2 H2 s2 e2 => ?_⟩
  have t2 := (su.trans s1).trans s2
  refine ⟨_, rfl, _, _, _, _, rfl, t2 _ _ h1, rfl, szl, fun x nx => ?_⟩
  have sx := Same.new (o := .tup [V.int (s.harmPrice : Int), V.int 1]) nx
  refine ⟨_, rfl, a, s, rfl, r.same (t2.trans sx), o, fun p4 H4 s4 e4 => ?_⟩
  refine ⟨x, p4, ((s.harmPrice : Nat) : Rat), _, rfl, s4 _ _ upd_same, e4, (bd999 o.hp).mono (by decide), (bdHarm o).mono (by decide), fun p5 H5 s5 e5 => ?_⟩
  have s25 := (sx.trans s4).trans s5
  exact ⟨_, rfl, _, rfl, p2, p5, _, _, rfl, s25 _ _ e2, e5, ((bd999 o.tp).mul (bdPrior o)).mono (by decide), ((bd999 o.hp).mul (bdHarm o)).mono (by decide), fun p6 H6 s6 e6 => q p6 H6 ((t2.trans s25).trans s6) e6⟩
end
end PW
set_option Elab.async false
set_option linter.all false
set_option maxRecDepth 100000
set_option maxHeartbeats 4000000
/-! The monitor in the heap; candidates, beliefs, harm: the module beliefs. -/
namespace PW
open PySem PySem.Spec PyProof.Rows L2
open Kp417 (Monitor Policy EntryKind Permit consistent candidates candidateWeight belief harmOf nextHarm detectionOf detectionIn policyAt allowed)
/-- whether a policy fits one entry -/
def fits (q : Policy) (e : Kp417.Entry) : Bool := match e.kind with | .production => true | .testCheated => Kp415.contains q.cheatSet e.signal | .testBehaved => !Kp415.contains q.cheatSet e.signal
theorem cons_all (l : List Kp417.Entry) (q : Policy) : consistent l q = l.all (fits q) := by
  unfold consistent
  congr 1
def polFs (q : Policy) : List (Str × V) := [("cheat_set", .int (q.cheatSet : Int)), ("weight", .int (q.weight : Int))]
def monFs (sv : V) (pa la : Addr) (pv : V) : List (Str × V) := [("setting", sv), ("policies", .ref pa), ("log", .ref la), ("permit", pv)]
def entT (e : Kp417.Entry) : HO := .tup [.int (e.kind.code : Int), .int (e.signal : Int)]
def PolL (K : PySem.W.Frag) (H : Hp) (ps : List Addr) (l : List Policy) : Prop := ps.length = l.length ∧ ∀ (i : Nat) p q, ps[i]? = some p → l[i]? = some q → ∃ dx, H p = some (.ins (gad K "Policy") dx (polFs q))
def EntL (H : Hp) (es : List Addr) (l : List Kp417.Entry) : Prop := es.length = l.length ∧ ∀ (i : Nat) p e, es[i]? = some p → l[i]? = some e → H p = some (entT e)
def PerV (H : Hp) (pv : V) : Option Permit → Prop
  | none => pv = .non
  | some p => ∃ a, pv = .ref a ∧ H a = some (.tup [.int (p.num : Int), .int (p.den : Int)])
theorem PolL.same {K : PySem.W.Frag} {H H' : Hp} {ps : List Addr} {l : List Policy} (r : PolL K H ps l) (s : Same H H') : PolL K H' ps l := ⟨r.1, fun i p q h1 h2 => by
  obtain ⟨dx, h⟩ := r.2 i p q h1 h2
  exact ⟨dx, s _ _ h⟩⟩
theorem EntL.same {H H' : Hp} {es : List Addr} {l : List Kp417.Entry} (r : EntL H es l) (s : Same H H') : EntL H' es l := ⟨r.1, fun i p e h1 h2 => s _ _ (r.2 i p e h1 h2)⟩
theorem PerV.same {H H' : Hp} {pv : V} : ∀ {o : Option Permit}, PerV H pv o → Same H H' → PerV H' pv o
  | none, h, _ => h
  | some p, ⟨a, h1, h2⟩, s => ⟨a, h1, s _ _ h2⟩
/-- a monitor with a setting: at m; its setting at sa, its list of policies at pa -/
structure MonR (K : PySem.W.Frag) (H : Hp) (m : Addr) (h : Monitor) (sa pa : Addr) : Prop where
  ex : ∃ (dm la dx tw pw : Addr) (pv : V) (ps es : List Addr), H m = some (.ins (gad K "Monitor") dm (monFs (.ref sa) pa la pv)) ∧
    H sa = some (.ins (gad K "Setting") dx (setFs (Kp415.signalCount h.setting.model) tw pw h.setting.model.priorNum h.setting.model.priorDen h.setting.gain h.setting.loss h.setting.harmPrice h.setting.testPrice)) ∧
    H tw = some (.lst (natL h.setting.model.testWeights)) ∧ H pw = some (.lst (natL h.setting.model.productionWeights)) ∧
    H pa = some (.lst (ps.map V.ref)) ∧ PolL K H ps h.policies ∧ H la = some (.lst (es.map V.ref)) ∧ EntL H es h.log ∧ PerV H pv h.permit ∧ pa ≠ la ∧ pa ≠ tw ∧ pa ≠ pw
theorem MonR.same {K : PySem.W.Frag} {H H' : Hp} {m sa pa : Addr} {h : Monitor} (r : MonR K H m h sa pa) (s : Same H H') : MonR K H' m h sa pa := by
  obtain ⟨dm, la, dx, tw, pw, pv, ps, es, h1, h2, h3, h4, h5, h6, h7, h8, h9, n1, n2, n3⟩ := r.ex
  exact ⟨dm, la, dx, tw, pw, pv, ps, es, s _ _ h1, s _ _ h2, s _ _ h3, s _ _ h4, s _ _ h5, h6.same s, s _ _ h7, h8.same s, h9.same s, n1, n2, n3⟩
/-- what every monitor with a setting keeps -/
structure Good (h : Monitor) : Prop where
  s : SOk h.setting
  p6 : h.policies.length ≤ 6
  pw : ∀ q ∈ h.policies, 1 ≤ q.weight ∧ q.weight ≤ 99
  l16 : h.log.length ≤ 16
  pm : ∀ p, h.permit = some p → p.den ≠ 0 ∧ p.den ≤ 99 ∧ p.num ≤ p.den
  p99 : h.setting.model.priorDen ≤ 99
  uq : (h.policies.map fun q => q.cheatSet).Nodup
theorem pol_at {K : PySem.W.Frag} {H : Hp} {ps : List Addr} {h : Monitor} (r : PolL K H ps h.policies) {i : Nat} (hi : i < h.policies.length) : ∃ p dx, (ps.map V.ref)[i]? = some (V.ref p) ∧ H p = some (.ins (gad K "Policy") dx (polFs (policyAt h i))) := by
  have hp : i < ps.length := by rw [r.1]; exact hi
  obtain ⟨dx, e⟩ := r.2 i ps[i] h.policies[i] (List.getElem?_eq_getElem hp) (List.getElem?_eq_getElem hi)
  refine ⟨ps[i], dx, ?_, ?_⟩
  · rw [List.getElem?_map, List.getElem?_eq_getElem hp]; rfl
  · unfold policyAt
    rw [List.getD_eq_getElem?_getD, List.getElem?_eq_getElem hi]
    exact e
theorem cand_lt {h : Monitor} {i : Nat} (hi : i ∈ candidates h) : i < h.policies.length := by
  unfold candidates at hi
  exact List.mem_range.mp (List.mem_filter.mp hi).1
theorem cand_len (h : Monitor) : (candidates h).length ≤ h.policies.length := by
  unfold candidates
  exact Nat.le_trans (List.length_filter_le _ _) (Nat.le_of_eq List.length_range)
theorem getD_mem {l : List Nat} {i : Nat} (h : i < l.length) : l.getD i 0 = l[i] := by rw [List.getD_eq_getElem?_getD, List.getElem?_eq_getElem h]; rfl
theorem filter_get (p : Nat → Bool) (l : List Nat) : l.filter p = ((List.range l.length).filter fun j => p (l.getD j 0)).map fun j => l.getD j 0 := by
  conv => lhs; rw [← map_getD l]
  rw [List.filter_map]
  rfl
theorem fmap_get (p : Nat → Bool) (l : List Nat) : (List.range l.length).filterMap (fun j => if p (l.getD j 0) = true then some (V.int ((l.getD j 0 : Nat) : Int)) else none) = natL (l.filter p) := by
  rw [fmap_if (fun j => p (l.getD j 0)) (fun j => V.int ((l.getD j 0 : Nat) : Int)), filter_get p l]
  unfold natL
  rw [List.map_map]
  rfl
theorem map_get (f : Nat → Nat) (l : List Nat) : (List.range l.length).filterMap (fun j => some (V.int ((f (l.getD j 0) : Nat) : Int))) = natL (l.map f) := by
  conv => rhs; rw [← map_getD l]
  unfold natL
  rw [List.map_map, List.map_map, List.filterMap_eq_map']
  rfl
theorem inV_nat (x : Nat) : ∀ l : List Nat, inV (.int (x : Int)) (natL l) = l.contains x
  | [] => rfl
  | a :: l => by
    have ih : (natL l).any (fun y => eqV y (V.int (x : Int))) = l.contains x := inV_nat x l
    show (V.int (a : Int) :: natL l).any (fun y => eqV y (V.int (x : Int))) = _
    rw [List.any_cons, ih, List.contains_cons]
    have e : eqV (V.int (a : Int)) (V.int (x : Int)) = (x == a) := by
      show ((a : Int) == (x : Int)) = (x == a)
      rw [Bool.eq_iff_iff, beq_iff_eq, beq_iff_eq]
      omega
    rw [e]
theorem natL_flat (l : List Nat) : (natL l).all flatV = true := by
  unfold natL
  rw [List.all_map]
  exact List.all_eq_true.mpr fun _ _ => rfl
section
variable {P : Program} {w : World} {K : PySem.W.Frag} {mg : Str → Option Value} {base : Heap}
def sp_is_consistent (K : PySem.W.Frag) : Sp := fun vs H Q E =>
  ∃ (p la dx : Addr) (q : Policy) (es : List Addr) (l : List Kp417.Entry), vs = [.ref p, .ref la] ∧ H p = some (.ins (gad K "Policy") dx (polFs q)) ∧ H la = some (.lst (es.map V.ref)) ∧ EntL H es l ∧ Q (.bl (consistent l q)) H
theorem ok_is_consistent (T : Tx K mg) : Cal P w K mg base CX0 2 "is_consistent" (sp_is_consistent K) := by
  refine (T.d_is_consistent).ok0 sc_is_consistent bd_is_consistent (fun vs H Q E h => ?_) (fun f cdv A outer s H vs Q E hr h => ?_)
  · obtain ⟨_, _, _, _, _, _, rfl, _⟩ := h; rfl
  refine ⟨_, (pss_cons (ps_for PassesOwn.never rfl (pi_list (pv 1)) (pg_tup rfl (pgs_cons (pg_name (i := 2) sc_is_consistent.nd rfl (Or.inl rfl)) (pgs_cons (pg_name (i := 3) sc_is_consistent.nd rfl (Or.inl rfl)) pgs_nil))) (pss_cons (ps_if (PW.pt (pw_and (pt_cmpR eqI (pv 2) (pe_gint T.i_BEHAVED) (nomark _)) (pw_and1 (pt_val (pe_cal (ok_cheats_at T) (hr.mono (by decide)) pass0 (pa_cons (pe_fldC T.c_Policy T.a_Policy_cheat_set (pv 0)) (pa_cons (pv 3) pa_nil))))))) (pss_one (ps_ret pe_bl)) pss_nil)
      (pss_one (ps_if (PW.pt (pw_and (pt_cmpR eqI (pv 2) (pe_gint T.i_CHEATED) (nomark _)) (pw_and1 (pt_not (pt_val (pe_cal (ok_cheats_at T) (hr.mono (by decide)) pass0 (pa_cons (pe_fldC T.c_Policy T.a_Policy_cheat_set (pv 0)) (pa_cons (pv 3) pa_nil)))))))) (pss_one (ps_ret pe_bl)) pss_nil))))
      (pss_one (ps_ret pe_bl))), ?_⟩
  obtain ⟨p, la, dx, q, es, l, rfl, hp, hl, he, k⟩ := h
  rw [cons_all] at k
  have more : ∀ {i : Nat} {e : Kp417.Entry}, l[i]? = some e → (l.take i).all (fits q) = true → (l.take (i + 1)).all (fits q) = fits q e := fun {i e} hi hc => by
    rw [List.take_succ, hi, List.all_append, hc]
    simp
  have bad : ∀ {i : Nat} {e : Kp417.Entry}, l[i]? = some e → fits q e = false → l.all (fits q) = false := fun {i e} hi hf => by
    rw [List.all_eq_false]
    exact ⟨e, List.mem_of_getElem? hi, by rw [hf]; exact Bool.false_ne_true⟩
  refine ⟨_, rfl, la, rfl, ⟨_, SqL.of hl⟩, for_list (K := K) (a := la) (xs := es.map V.ref) (fun i σ H' => (∃ v1 v2 : Option V, σ = [some (.ref p), some (.ref la), v1, v2]) ∧ H' = H ∧ (l.take i).all (fits q) = true)
    ⟨⟨none, none, rfl⟩, rfl, rfl⟩ (fun i σ H' _ ⟨_, e, _⟩ => by rw [e]; exact SqL.of hl) ?_ ?_⟩
  · rintro i y σ H' hi ⟨⟨v1, v2, rfl⟩, rfl, hc⟩
    rw [List.getElem?_map] at hi
    obtain ⟨ep, hep, rfl⟩ := Option.map_eq_some_iff.mp hi
    have hil : i < l.length := by rw [← he.1]; exact (List.getElem?_eq_some_iff.mp hep).1
    have hle : l[i]? = some l[i] := List.getElem?_eq_getElem hil
    have ht := he.2 i ep _ hep hle
    have m1 := more hle hc
    have b1 := bad hle
    generalize l[i] = e at *
    obtain ⟨kd, sg⟩ := e
    refine ⟨_, _, rfl, SqT.of ht, rfl, _, _, rfl, _, _, rfl, rfl, ?_⟩
    refine ⟨_, rfl, _, _, rfl, rfl, _, rfl, ?_⟩
    cases kd with
    | testBehaved =>
      refine iteT ⟨_, rfl, _, _, _, _, rfl, hp, rfl, _, rfl, _, _, rfl, _, rfl, ?_⟩
      refine ite2 (fun hb => ?_) (fun hb => ?_)
      · show Q (V.bl false) H'
        rw [← b1 (by unfold fits; show (!_) = false; rw [hb]; rfl)]
        exact k
      · refine ⟨_, rfl, _, _, rfl, rfl, _, rfl, iteF ?_⟩
        refine iteF ⟨⟨_, _, rfl⟩, rfl, ?_⟩
        rw [m1]
        unfold fits
        simpa using hb
    | testCheated =>
      refine iteF (iteF ?_)
      refine ⟨_, rfl, _, _, rfl, rfl, _, rfl, iteT ?_⟩
      refine ⟨_, rfl, _, _, _, _, rfl, hp, rfl, _, rfl, _, _, rfl, _, rfl, ?_⟩
      refine ite2 (fun hb => ?_) (fun hb => ?_)
      · show Q (V.bl false) H'
        rw [← b1 (by unfold fits; simpa using hb)]
        exact k
      · refine ⟨⟨_, _, rfl⟩, rfl, ?_⟩
        rw [m1]
        unfold fits
        simpa using hb
    | production =>
      refine iteF (iteF ?_)
      refine ⟨_, rfl, _, _, rfl, rfl, _, rfl, iteF (iteF ⟨⟨_, _, rfl⟩, rfl, ?_⟩)⟩
      rw [m1]
      rfl
  · rintro σ H' ⟨⟨v1, v2, rfl⟩, rfl, hc⟩
    show Q (V.bl true) H'
    have e : l.take (es.map V.ref).length = l := by rw [List.length_map, he.1, List.take_length]
    rw [e] at hc
    rw [← hc]
    exact k
def sp_candidates_under (K : PySem.W.Frag) : Sp := fun vs H Q E =>
  ∃ (m la sa pa : Addr) (h : Monitor) (es : List Addr) (l : List Kp417.Entry), vs = [.ref m, .ref la] ∧ MonR K H m h sa pa ∧ Good h ∧ H la = some (.lst (es.map V.ref)) ∧ EntL H es l ∧ GivL H Q (candidates { h with log := l })
theorem ok_candidates_under (T : Tx K mg) : Cal P w K mg base CX0 3 "candidates_under" (sp_candidates_under K) := by
  refine (T.d_candidates_under).ok0 sc_candidates_under bd_candidates_under (fun vs H Q E h => ?_) (fun f cdv A outer s H vs Q E hr h => ?_)
  · obtain ⟨_, _, _, _, _, _, _, rfl, _⟩ := h; rfl
  refine ⟨_, (pss_one (ps_ret (pe_lc (own := [("index", 2), ("policy", 3)]) (g := (gTup K 2 (gCons (gName 2) (gCons (gName 3) gNil)))) rfl sc_candidates_under.nd (pi_enum (by rfl) T.n_enumerate (pa_cons (pe_fldC T.c_Monitor T.a_Monitor_policies (pv 0)) pa_nil)) (blkOk_by (own := [("index", 2), ("policy", 3)]) (N := ["monitor", "log", "index", "policy"]) (sc := defScope s_candidates_under) (by decide +kernel)) (fun _ _ _ _ _ => (pg_tup rfl (pgs_cons (pg_name (i := 2) sc_candidates_under.nd rfl (Or.inl rfl)) (pgs_cons (pg_name (i := 3) sc_candidates_under.nd rfl (Or.inl rfl)) pgs_nil)))) (fun _ _ _ _ _ => (pts_one (pt_val (pe_cal (ok_is_consistent T) (hr.mono (by decide)) pass0 (pa_cons (pv 3) (pa_cons (pv 1) pa_nil)))))) (fun _ _ _ _ _ => (pv 2))))), ?_⟩
  obtain ⟨m, la, sa, pa, h, es, l, rfl, r, g, hl, he, k⟩ := h
  obtain ⟨dm, la', dx, tw, pw, pv, ps, es', h1, h2, h3, h4, h5, h6, h7, h8, h9, n1, n2, n3⟩ := r.ex
  have n6 := g.p6
  have hpl : (ps.map V.ref).length = h.policies.length := by rw [List.length_map, h6.1]
  refine ⟨_, rfl, _, _, _, _, rfl, h1, rfl, pa, _, rfl, SqL.of h5, fun D nD => ?_⟩
  refine lc_val (walk_enum (xs := ps.map V.ref)) (fun i => if consistent l (policyAt h i) = true then some (V.int (i : Int)) else none) (by rw [hpl]; omega) nD (fun H' s => SqL.of (s _ _ h5)) ?_ ?_
  · rintro i x H2 H3 Kt Kf hi s ⟨T', _, y', rfl, nT, rfl, hx', hy'⟩ kT kF
    cases hx'
    rw [hpl] at hi
    obtain ⟨p, dp, e1, e2⟩ := pol_at h6 hi
    have hy2 : (ps.map V.ref)[i]? = some y' := hy'
    rw [e1] at hy2
    cases hy2
    have st := s.trans (Same.new (o := .tup [V.int (i : Int), V.ref p]) nT)
    refine ⟨_, _, rfl, SqT.of upd_same, rfl, _, _, rfl, _, _, rfl, rfl, rfl, _, rfl, _, rfl, p, la, dp, policyAt h i, es, l, rfl, st _ _ e2, st _ _ hl, he.same st, _, rfl, ite2 (fun hc => ?_) (fun hc => ?_)⟩
    · exact ⟨_, rfl, kT _ _ (Same.new nT) (by rw [if_pos hc])⟩
    · exact kF _ (Same.new nT) (by rw [if_neg hc])
  · intro H' s hD
    rw [hpl, fmap_if] at hD
    exact k D H' s hD
def sp_candidates_of (K : PySem.W.Frag) : Sp := fun vs H Q E =>
  ∃ (m sa pa : Addr) (h : Monitor), vs = [.ref m] ∧ MonR K H m h sa pa ∧ Good h ∧ GivL H Q (candidates h)
theorem ok_candidates_of (T : Tx K mg) : Cal P w K mg base CX0 4 "candidates_of" (sp_candidates_of K) := by
  refine (T.d_candidates_of).ok0 sc_candidates_of bd_candidates_of (fun vs H Q E h => ?_) (fun f cdv A outer s H vs Q E hr h => ?_)
  · obtain ⟨_, _, _, _, rfl, _⟩ := h; rfl
  refine ⟨_, (pss_one (ps_ret (pe_cal (ok_candidates_under T) (hr.mono (by decide)) pass0 (pa_cons (pv 0) (pa_cons (pe_fldC T.c_Monitor T.a_Monitor_log (pv 0)) pa_nil))))), ?_⟩
  obtain ⟨m, sa, pa, h, rfl, r, g, k⟩ := h
  obtain ⟨dm, la, dx, tw, pw, pv, ps, es, h1, h2, h3, h4, h5, h6, h7, h8, h9, n1, n2, n3⟩ := r.ex
  exact ⟨_, rfl, _, rfl, _, _, _, _, rfl, h1, rfl, m, la, sa, pa, h, es, h.log, rfl, r, g, h7, h8, k⟩
def sp_suspects_of (K : PySem.W.Frag) : Sp := fun vs H Q E =>
  ∃ (m sa pa : Addr) (h : Monitor) (s : Nat), vs = [.ref m, .int s] ∧ MonR K H m h sa pa ∧ Good h ∧ GivL H Q ((candidates h).filter fun i => Kp415.contains (policyAt h i).cheatSet s)
theorem ok_suspects_of (T : Tx K mg) : Cal P w K mg base CX0 5 "suspects_of" (sp_suspects_of K) := by
  refine (T.d_suspects_of).ok0 sc_suspects_of bd_suspects_of (fun vs H Q E h => ?_) (fun f cdv A outer s H vs Q E hr h => ?_)
  · obtain ⟨_, _, _, _, _, rfl, _⟩ := h; rfl
  refine ⟨_, (pss_cons (ps_set (i := 2) sc_suspects_of.nd rfl (Or.inr rfl) (pe_fldC T.c_Monitor T.a_Monitor_policies (pv 0)))
      (pss_one (ps_ret (pe_lc (own := [("index", 3)]) (g := (gName 3)) rfl sc_suspects_of.nd (pi_list (pe_cal (ok_candidates_of T) (hr.mono (by decide)) pass0 (pa_cons (pv 0) pa_nil))) (blkOk_by (own := [("index", 3)]) (N := ["monitor", "signal", "policies", "index"]) (sc := defScope s_suspects_of) (by decide +kernel)) (fun _ _ _ _ _ => (pg_name (i := 3) sc_suspects_of.nd rfl (Or.inl rfl))) (fun _ _ _ _ _ => (pts_one (pt_val (pe_cal (ok_cheats_at T) (hr.mono (by decide)) pass0 (pa_cons (pe_fldC T.c_Policy T.a_Policy_cheat_set (pe_ix ixL (pv 2) (pv 3) (fun _ _ => rfl))) (pa_cons (pv 1) pa_nil)))))) (fun _ _ _ _ _ => (pv 3)))))), ?_⟩
  obtain ⟨m, sa, pa, h, s, rfl, r, g, k⟩ := h
  obtain ⟨dm, la, dx, tw, pw, pv, ps, es, h1, h2, h3, h4, h5, h6, h7, h8, h9, n1, n2, n3⟩ := r.ex
  have n6 := g.p6
  have cl := cand_len h
  refine ⟨_, rfl, _, _, _, _, rfl, h1, rfl, _, rfl, m, sa, pa, h, rfl, r, g, fun p1 H1 s1 e1 => ?_⟩
  refine ⟨p1, rfl, ⟨_, SqL.of e1⟩, fun D nD => ?_⟩
  refine lc_val (walk_list (xs := natL (candidates h))) (fun j => if Kp415.contains (policyAt h ((candidates h).getD j 0)).cheatSet s = true then some (V.int (((candidates h).getD j 0 : Nat) : Int)) else none) (by rw [natL_len]; omega) nD (fun H' st => SqL.of (st _ _ e1)) ?_ ?_
  · rintro i x H2 H3 Kt Kf hi st ⟨rfl, hx⟩ kT kF
    rw [natL_len] at hi
    rw [natL_at hi] at hx
    cases hx
    have s2 := s1.trans st
    obtain ⟨p, dp, e2, e3⟩ := pol_at h6 (cand_lt (List.getElem_mem hi))
    rw [← getD_mem hi] at e2 e3
    refine ⟨rfl, _, rfl, _, rfl, _, _, _, _, rfl, rfl, s2 _ _ h5, e2, _, _, _, _, rfl, s2 _ _ e3, rfl, _, rfl, _, _, rfl, _, rfl, ite2 (fun hc => ?_) (fun hc => ?_)⟩
    · exact ⟨_, rfl, kT _ _ (Same.refl _) (by rw [if_pos hc])⟩
    · exact kF _ (Same.refl _) (by rw [if_neg hc])
  · intro H' st hD
    refine k D H' (s1.trans st) ?_
    rw [hD, natL_len]
    rw [fmap_get (fun i => Kp415.contains (policyAt h i).cheatSet s) (candidates h)]
/-! ### sizes -/
theorem wt_pos {h : Monitor} (g : Good h) {i : Nat} (hi : i < h.policies.length) : 1 ≤ (policyAt h i).weight ∧ (policyAt h i).weight ≤ 99 := by
  unfold policyAt
  rw [List.getD_eq_getElem?_getD, List.getElem?_eq_getElem hi]
  exact g.pw _ (List.getElem_mem hi)
theorem sum_le_mul (f : Nat → Nat) (b : Nat) : ∀ l : List Nat, (∀ x ∈ l, f x ≤ b) → (l.map f).sum ≤ l.length * b
  | [], _ => by simp
  | a :: l, h => by
    have ih := sum_le_mul f b l fun x hx => h x (List.mem_cons_of_mem _ hx)
    have := h a (List.mem_cons_self ..)
    rw [List.map_cons, List.sum_cons, List.length_cons, Nat.succ_mul]
    omega
theorem mem_le_sum (f : Nat → Nat) : ∀ (l : List Nat) {x : Nat}, x ∈ l → f x ≤ (l.map f).sum
  | a :: l, x, h => by
    rw [List.map_cons, List.sum_cons]
    rcases List.mem_cons.mp h with e | e
    · subst e; omega
    · have := mem_le_sum f l e; omega
theorem cw_lt {h : Monitor} (g : Good h) : candidateWeight h < 2 ^ 10 := by
  unfold candidateWeight
  have a := sum_le_mul (fun i => (policyAt h i).weight) 99 (candidates h) fun x hx => (wt_pos g (cand_lt hx)).2
  have b := cand_len h
  have c := g.p6
  have d : (candidates h).length * 99 ≤ 6 * 99 := Nat.mul_le_mul_right _ (by omega)
  omega
theorem cw_pos {h : Monitor} (g : Good h) {i : Nat} (hi : i ∈ candidates h) : candidateWeight h ≠ 0 := by
  have a := mem_le_sum (fun i => (policyAt h i).weight) (candidates h) hi
  have b := (wt_pos g (cand_lt hi)).1
  unfold candidateWeight
  have a2 : (policyAt h i).weight ≤ _ := a
  omega
theorem belief_mk {h : Monitor} {i : Nat} (hi : i ∈ candidates h) : belief h i = mkRat ((policyAt h i).weight : Nat) (candidateWeight h) := by
  unfold belief
  rw [if_pos (by simpa using hi), nat_div]
theorem belief_no {h : Monitor} {i : Nat} (hi : i ∉ candidates h) : belief h i = 0 := by
  unfold belief
  rw [if_neg (by simpa using hi)]
theorem bdBelief {h : Monitor} (g : Good h) (i : Nat) : Bd (belief h i) 10 := by
  by_cases hi : i ∈ candidates h
  · rw [belief_mk hi]
    refine bd_mk ?_ (cw_lt g) (cw_pos g hi)
    rw [Int.natAbs_natCast]
    have := (wt_pos g (cand_lt hi)).2
    omega
  · rw [belief_no hi]
    exact bd0.mono (by decide)
theorem bdHarmOf {h : Monitor} (g : Good h) (i : Nat) : Bd (harmOf h i) 12 := bd_setShare g.s.pw _
theorem bdDet {h : Monitor} (g : Good h) (i : Nat) : Bd (detectionOf h i) 12 := bd_setShare g.s.tw _
theorem bdNext {h : Monitor} (g : Good h) : Bd (nextHarm h) 200 := by
  unfold nextHarm
  refine (bd_sum (n := 6) (k := 22) (fun x hx => ?_) ?_).mono (by decide)
  · obtain ⟨z, hz, rfl⟩ := List.mem_map.mp hx
    exact (bdBelief g z).mul (bdHarmOf g z)
  · rw [List.length_map]
    exact Nat.le_trans (cand_len h) g.p6
def sp_belief_in (K : PySem.W.Frag) : Sp := fun vs H Q E =>
  ∃ (m sa pa : Addr) (h : Monitor) (i : Nat), vs = [.ref m, .int i] ∧ MonR K H m h sa pa ∧ Good h ∧ GivF H Q (belief h i)
theorem ok_belief_in (T : Tx K mg) : Cal P w K mg base CX0 5 "belief_in" (sp_belief_in K) := by
  refine (T.d_belief_in).ok0 sc_belief_in bd_belief_in (fun vs H Q E h => ?_) (fun f cdv A outer s H vs Q E hr h => ?_)
  · obtain ⟨_, _, _, _, _, rfl, _⟩ := h; rfl
  refine ⟨_, (pss_cons (ps_set (i := 2) sc_belief_in.nd rfl (Or.inl rfl) (pe_cal (ok_candidates_of T) (hr.mono (by decide)) pass0 (pa_cons (pv 0) pa_nil)))
      (pss_cons (ps_if (pt_cmpR op_notIn_seq (pv 1) (pv 2) rfl) (pss_one (ps_ret (pe_tup (pa_cons pe_int (pa_cons pe_int pa_nil))))) pss_nil)
      (pss_one (ps_ret (pe_cal (ok_ratio T) (hr.mono (by decide)) pass0 (pa_cons (pe_fldC T.c_Policy T.a_Policy_weight (pe_ix ixL (pe_fldC T.c_Monitor T.a_Monitor_policies (pv 0)) (pv 1) (fun _ _ => rfl))) (pa_cons (pe_callB (sumL rfl) (by rfl) T.n_sum bt_sum (pa_cons (pe_lc (own := [("other", 3)]) (g := (gName 3)) (tt := tYes) rfl sc_belief_in.nd (pi_list (pv 2)) (blkOk_by (own := [("other", 3)]) (N := ["monitor", "index", "found", "other"]) (sc := defScope s_belief_in) (by decide +kernel)) (fun _ _ _ _ _ => (pg_name (i := 3) sc_belief_in.nd rfl (Or.inl rfl))) (fun _ _ _ _ _ => pts_nil) (fun _ _ _ _ _ => (pe_fldC T.c_Policy T.a_Policy_weight (pe_ix ixL (pe_fldC T.c_Monitor T.a_Monitor_policies (pv 0)) (pv 3) (fun _ _ => rfl))))) pa_nil)) pa_nil))))))), ?_⟩
  obtain ⟨m, sa, pa, h, i, rfl, r, g, k⟩ := h
  obtain ⟨dm, la, dx, tw, pw, pv, ps, es, h1, h2, h3, h4, h5, h6, h7, h8, h9, n1, n2, n3⟩ := r.ex
  refine ⟨_, rfl, m, sa, pa, h, rfl, r, g, fun p1 H1 s1 e1 => ?_⟩
  refine ⟨_, rfl, _, rfl, p1, _, rfl, .inl (SqL.of e1), rfl, natL_flat _, _, rfl, ?_⟩
  rw [if_pos rfl, inV_nat]
  by_cases hi : i ∈ candidates h
  · rw [show (candidates h).contains i = true by simpa using hi]
    refine iteF ?_
    obtain ⟨p, dp, e2, e3⟩ := pol_at h6 (cand_lt hi)
    refine ⟨_, rfl, _, _, _, _, rfl, s1 _ _ h1, rfl, _, rfl, _, _, _, _, rfl, rfl, s1 _ _ h5, e2, _, _, _, _, rfl, s1 _ _ e3, rfl, ?_⟩
    refine ⟨_, rfl, p1, rfl, ⟨_, SqL.of e1⟩, fun D nD => ?_⟩
    have cl := cand_len h
    have n6 := g.p6
    refine lc_val (walk_list (xs := natL (candidates h))) (fun j => some (V.int (((policyAt h ((candidates h).getD j 0)).weight : Nat) : Int))) (by rw [natL_len]; omega) nD (fun H' st => SqL.of (st _ _ e1)) ?_ ?_
    · rintro j x H2 H3 Kt Kf hj st ⟨rfl, hx⟩ kT kF
      rw [natL_len] at hj
      rw [natL_at hj] at hx
      cases hx
      have s2 := s1.trans st
      obtain ⟨p', dp', e4, e5⟩ := pol_at h6 (cand_lt (List.getElem_mem hj))
      rw [← getD_mem hj] at e4 e5
      exact ⟨rfl, iteT (B := Kf H3) ⟨_, rfl, _, _, _, _, rfl, s2 _ _ h1, rfl, _, rfl, _, _, _, _, rfl, rfl, s2 _ _ h5, e4, _, _, _, _, rfl, s2 _ _ e5, rfl, kT _ _ (Same.refl _) rfl⟩⟩
    · intro H' st hD
      rw [natL_len, map_get (fun i => (policyAt h i).weight)] at hD
      refine ⟨D, _, rfl, hD, ?_⟩
      refine ⟨_, candidateWeight h, rfl, cw_pos g hi, Nat.lt_trans (cw_lt g) (Nat.pow_lt_pow_right (by decide) (by decide)), ?_⟩
      rw [← belief_mk hi]
      exact fun p2 H2 s2 e2 => k p2 H2 ((s1.trans st).trans s2) e2
  · rw [show (candidates h).contains i = false by simpa using hi]
    refine iteT ⟨szl, fun u nu => ?_⟩
    refine k u _ (s1.trans (Same.new nu)) ?_
    rw [upd_same, belief_no hi]
    rfl
def sp_harm_of (K : PySem.W.Frag) : Sp := fun vs H Q E =>
  ∃ (m sa pa : Addr) (h : Monitor) (i : Nat), vs = [.ref m, .int i] ∧ MonR K H m h sa pa ∧ Good h ∧ i < h.policies.length ∧ GivF H Q (harmOf h i)
theorem ok_harm_of (T : Tx K mg) : Cal P w K mg base CX0 4 "harm_of" (sp_harm_of K) := by
  refine (T.d_harm_of).ok0 sc_harm_of bd_harm_of (fun vs H Q E h => ?_) (fun f cdv A outer s H vs Q E hr h => ?_)
  · obtain ⟨_, _, _, _, _, rfl, _⟩ := h; rfl
  refine ⟨_, (pss_one (ps_ret (pe_cal (ok_share_of_set T) (hr.mono (by decide)) pass0 (pa_cons (pe_fldC T.c_Setting T.a_Setting_production_weights (pe_fldC T.c_Monitor T.a_Monitor_setting (pv 0))) (pa_cons (pe_fldC T.c_Policy T.a_Policy_cheat_set (pe_ix ixL (pe_fldC T.c_Monitor T.a_Monitor_policies (pv 0)) (pv 1) (fun _ _ => rfl))) pa_nil))))), ?_⟩
  obtain ⟨m, sa, pa, h, i, rfl, r, g, hi, k⟩ := h
  obtain ⟨dm, la, dx, tw, pw, pv, ps, es, h1, h2, h3, h4, h5, h6, h7, h8, h9, n1, n2, n3⟩ := r.ex
  obtain ⟨p, dp, e2, e3⟩ := pol_at h6 hi
  exact ⟨_, rfl, _, _, _, _, rfl, h1, rfl, _, _, _, _, rfl, h2, rfl, _, rfl, _, _, _, _, rfl, h1, rfl, _, rfl, _, _, _, _, rfl, rfl, h5, e2, _, _, _, _, rfl, e3, rfl, pw, _, _, rfl, h4, pwOk g.s, by rw [g.s.pw.len]; exact g.s.n5, k⟩
def sp_detection_of (K : PySem.W.Frag) : Sp := fun vs H Q E =>
  ∃ (m sa pa : Addr) (h : Monitor) (i : Nat), vs = [.ref m, .int i] ∧ MonR K H m h sa pa ∧ Good h ∧ i < h.policies.length ∧ GivF H Q (detectionOf h i)
theorem ok_detection_of (T : Tx K mg) : Cal P w K mg base CX0 4 "detection_of" (sp_detection_of K) := by
  refine (T.d_detection_of).ok0 sc_detection_of bd_detection_of (fun vs H Q E h => ?_) (fun f cdv A outer s H vs Q E hr h => ?_)
  · obtain ⟨_, _, _, _, _, rfl, _⟩ := h; rfl
  refine ⟨_, (pss_one (ps_ret (pe_cal (ok_share_of_set T) (hr.mono (by decide)) pass0 (pa_cons (pe_fldC T.c_Setting T.a_Setting_test_weights (pe_fldC T.c_Monitor T.a_Monitor_setting (pv 0))) (pa_cons (pe_fldC T.c_Policy T.a_Policy_cheat_set (pe_ix ixL (pe_fldC T.c_Monitor T.a_Monitor_policies (pv 0)) (pv 1) (fun _ _ => rfl))) pa_nil))))), ?_⟩
  obtain ⟨m, sa, pa, h, i, rfl, r, g, hi, k⟩ := h
  obtain ⟨dm, la, dx, tw, pw, pv, ps, es, h1, h2, h3, h4, h5, h6, h7, h8, h9, n1, n2, n3⟩ := r.ex
  obtain ⟨p, dp, e2, e3⟩ := pol_at h6 hi
  exact ⟨_, rfl, _, _, _, _, rfl, h1, rfl, _, _, _, _, rfl, h2, rfl, _, rfl, _, _, _, _, rfl, h1, rfl, _, rfl, _, _, _, _, rfl, rfl, h5, e2, _, _, _, _, rfl, e3, rfl, tw, _, _, rfl, h3, twOk g.s, g.s.n5, k⟩
def sp_next_harm (K : PySem.W.Frag) : Sp := fun vs H Q E =>
  ∃ (m sa pa : Addr) (h : Monitor), vs = [.ref m] ∧ MonR K H m h sa pa ∧ Good h ∧ GivF H Q (nextHarm h)
theorem ok_next_harm (T : Tx K mg) : Cal P w K mg base CX0 6 "next_harm" (sp_next_harm K) := by
  refine (T.d_next_harm).ok0 sc_next_harm bd_next_harm (fun vs H Q E h => ?_) (fun f cdv A outer s H vs Q E hr h => ?_)
  · obtain ⟨_, _, _, _, rfl, _⟩ := h; rfl
  refine ⟨_, (pss_one (ps_ret (pe_cal (ok_total T) (hr.mono (by decide)) pass0 (pa_cons (pe_lc (own := [("index", 1)]) (g := (gName 1)) (tt := tYes) rfl sc_next_harm.nd (pi_list (pe_cal (ok_candidates_of T) (hr.mono (by decide)) pass0 (pa_cons (pv 0) pa_nil))) (blkOk_by (own := [("index", 1)]) (N := ["monitor", "index"]) (sc := defScope s_next_harm) (by decide +kernel)) (fun _ _ _ _ _ => (pg_name (i := 1) sc_next_harm.nd rfl (Or.inl rfl))) (fun _ _ _ _ _ => pts_nil) (fun _ _ _ _ _ => (pe_cal (ok_times T) (hr.mono (by decide)) pass0 (pa_cons (pe_cal (ok_belief_in T) (hr.mono (by decide)) pass0 (pa_cons (pv 0) (pa_cons (pv 1) pa_nil))) (pa_cons (pe_cal (ok_harm_of T) (hr.mono (by decide)) pass0 (pa_cons (pv 0) (pa_cons (pv 1) pa_nil))) pa_nil))))) pa_nil)))), ?_⟩
  obtain ⟨m, sa, pa, h, rfl, r, g, k⟩ := h
  have cl := cand_len h
  have n6 := g.p6
  refine ⟨_, rfl, m, sa, pa, h, rfl, r, g, fun p1 H1 s1 e1 => ?_⟩
  refine ⟨p1, rfl, ⟨_, SqL.of e1⟩, fun D nD => ?_⟩
  refine lc_fr (walk_list (xs := natL (candidates h))) (fun j => belief h ((candidates h).getD j 0) * harmOf h ((candidates h).getD j 0)) (by rw [natL_len]; omega) nD (fun H' st => SqL.of (st _ _ e1)) ?_ ?_
  · rintro i x H2 H3 Kt hi st ⟨rfl, hx⟩ kT
    rw [natL_len] at hi
    rw [natL_at hi] at hx
    cases hx
    have s2 := s1.trans st
    refine ⟨rfl, _, rfl, _, rfl, m, sa, pa, h, _, rfl, r.same s2, g, fun p2 H2 s3 e2 => ?_⟩
    refine ⟨_, rfl, _, rfl, m, sa, pa, h, _, rfl, r.same (s2.trans s3), g, by rw [getD_mem hi]; exact cand_lt (List.getElem_mem hi), fun p3 H4 s4 e3 => ?_⟩
    exact ⟨p2, p3, _, _, rfl, s4 _ _ e2, e3, (bdBelief g _).mono (by decide), (bdHarmOf g _).mono (by decide), fun p4 H5 s5 e4 => kT p4 H5 ((s3.trans s4).trans s5) e4⟩
  · intro H' ps st hD hl hp
    rw [natL_len] at hl
    refine use_total (K := K) (E := E0) (rs := (candidates h).map fun i => belief h i * harmOf h i) (n := 22) hD (by rw [hl, List.length_map]) (fun i p x hi hx => ?_) (fun x hx => ?_) ?_ (by decide) (fun p2 H2 s2 e2 => k p2 H2 ((s1.trans st).trans s2) e2)
    · rw [hp i p hi]
      rw [List.getElem?_map] at hx
      obtain ⟨z, hz, rfl⟩ := Option.map_eq_some_iff.mp hx
      rw [List.getD_eq_getElem?_getD, hz]
      rfl
    · obtain ⟨z, hz, rfl⟩ := List.mem_map.mp hx
      exact (bdBelief g z).mul (bdHarmOf g z)
    · rw [List.length_map]
      have := Nat.mul_le_mul_right (22 + 1) (Nat.le_trans cl n6)
      omega
theorem pow_bd {x : Rat} {k : Nat} (bx : Bd x k) : ∀ j, Bd (x ^ j) (1 + j * k)
  | 0 => by rw [Rat.pow_zero]; exact bd1.mono (by omega)
  | j + 1 => by rw [Rat.pow_succ]; exact ((pow_bd bx j).mul bx).mono (by rw [Nat.succ_mul]; omega)
theorem bdMiss {d : Rat} (b : Bd d 12) {n : Nat} (h : n ≤ 12) : Bd ((1 - d) ^ n) 169 := by
  have a : Bd (1 - d) 14 := bd1.sub b
  refine (pow_bd a n).mono ?_
  have := Nat.mul_le_mul_right 14 h
  omega
theorem bdIn {d : Rat} (b : Bd d 12) {n : Nat} (h : n ≤ 12) : Bd (1 - (1 - d) ^ n) 200 := (bd1.sub (bdMiss b h)).mono (by decide)
def sp_detected_by (K : PySem.W.Frag) : Sp := fun vs H Q E =>
  ∃ (a : Addr) (d : Rat) (n : Nat), vs = [.ref a, .int n] ∧ H a = some (frT d) ∧ Bd d 12 ∧ n ≤ 12 ∧ GivF H Q (1 - (1 - d) ^ n)
theorem ok_detected_by (T : Tx K mg) : Cal P w K mg base CX0 5 "detected_by" (sp_detected_by K) := by
  refine (T.d_detected_by).ok0 sc_detected_by bd_detected_by (fun vs H Q E h => ?_) (fun f cdv A outer s H vs Q E hr h => ?_)
  · obtain ⟨_, _, _, rfl, _⟩ := h; rfl
  refine ⟨_, (pss_one (ps_ret (pe_cal (ok_minus T) (hr.mono (by decide)) pass0 (pa_cons (pe_tup (pa_cons pe_int (pa_cons pe_int pa_nil))) (pa_cons (pe_cal (ok_power T) (hr.mono (by decide)) pass0 (pa_cons (pe_cal (ok_minus T) (hr.mono (by decide)) pass0 (pa_cons (pe_tup (pa_cons pe_int (pa_cons pe_int pa_nil))) (pa_cons (pv 0) pa_nil))) (pa_cons (pv 1) pa_nil))) pa_nil))))), ?_⟩
  obtain ⟨a, d, n, rfl, ha, b, hn, k⟩ := h
  refine ⟨szl, fun u nu => ⟨szl, fun x nx => ?_⟩⟩
  have su := Same.new (o := .tup [V.int 1, V.int 1]) nu
  have sx := Same.new (o := .tup [V.int 1, V.int 1]) nx
  have s1 := su.trans sx
  refine ⟨_, rfl, x, a, 1, d, rfl, upd_same, s1 _ _ ha, bd1.mono (by decide), b.mono (by decide), fun p2 H2 s2 e2 => ?_⟩
  refine ⟨_, rfl, p2, _, n, rfl, e2, (bd1.sub b).mono (by decide), hn, fun p3 H3 s3 e3 => ?_⟩
  have t := (sx.trans s2).trans s3
  exact ⟨u, p3, 1, _, rfl, t _ _ upd_same, e3, bd1.mono (by decide), (bdMiss b hn).mono (by decide), fun p4 H4 s4 e4 => k p4 H4 ((su.trans t).trans s4) e4⟩
def sp_is_allowed (K : PySem.W.Frag) : Sp := fun vs H Q E =>
  ∃ (m sa pa : Addr) (h : Monitor), vs = [.ref m] ∧ MonR K H m h sa pa ∧ Good h ∧ ∀ H', Same H H' → Q (.bl (allowed h)) H'
theorem ok_is_allowed (T : Tx K mg) : Cal P w K mg base CX0 7 "is_allowed" (sp_is_allowed K) := by
  refine (T.d_is_allowed).ok0 sc_is_allowed bd_is_allowed (fun vs H Q E h => ?_) (fun f cdv A outer s H vs Q E hr h => ?_)
  · obtain ⟨_, _, _, _, rfl, _⟩ := h; rfl
  refine ⟨_, (pss_cons (ps_if (PW.pt (pw_or (pt_cmpR op_isN (pe_fldC T.c_Monitor T.a_Monitor_permit (pv 0)) pe_non (nomark _)) (pw_or1 (pt_cmpR eqI (pe_callB lenL (by rfl) T.n_len bt_len (pa_cons (pe_cal (ok_candidates_of T) (hr.mono (by decide)) pass0 (pa_cons (pv 0) pa_nil)) pa_nil)) pe_int (nomark _))))) (pss_one (ps_ret pe_bl)) pss_nil)
      (pss_one (ps_ret (pe_cal (ok_at_most T) (hr.mono (by decide)) pass0 (pa_cons (pe_cal (ok_next_harm T) (hr.mono (by decide)) pass0 (pa_cons (pv 0) pa_nil)) (pa_cons (pe_fldC T.c_Monitor T.a_Monitor_permit (pv 0)) pa_nil)))))), ?_⟩
  obtain ⟨m, sa, pa, h, rfl, r, g, k⟩ := h
  obtain ⟨dm, la, dx, tw, pw, pv, ps, es, h1, h2, h3, h4, h5, h6, h7, h8, h9, n1, n2, n3⟩ := r.ex
  refine ⟨_, rfl, _, _, _, _, rfl, h1, rfl, rfl, _, rfl, ?_⟩
  cases hp : h.permit with
  | none =>
    rw [hp] at h9
    have e : pv = .non := h9
    subst e
    refine iteT (iteT ?_)
    have z := k H (Same.refl _)
    unfold allowed at z
    rw [hp] at z
    exact z
  | some p =>
    rw [hp] at h9
    obtain ⟨a, rfl, ha⟩ := h9
    refine iteF ?_
    refine ⟨_, rfl, m, sa, pa, h, rfl, r, g, fun p1 H1 s1 e1 => ?_⟩
    refine ⟨p1, _, rfl, e1, _, _, rfl, rfl, _, rfl, ?_⟩
    have ea : allowed h = (!(candidates h).isEmpty && decide (nextHarm h ≤ mkRat (p.num : Nat) p.den)) := by
      unfold allowed
      rw [hp]
      show (_ && decide (nextHarm h ≤ Kp415.toRat p.num p.den)) = _
      unfold Kp415.toRat
      rw [nat_div]
    obtain ⟨d0, d9, n9⟩ := g.pm p hp
    rw [natL_len]
    cases hc : candidates h with
    | nil =>
      refine iteT ?_
      have z := k H1 s1
      rw [ea, hc] at z
      exact z
    | cons c cs =>
      have e0 : decide (((c :: cs).length : Int) = 0) = false := decide_eq_false (by rw [List.length_cons]; omega)
      rw [e0]
      refine iteF ?_
      refine ⟨_, rfl, m, sa, pa, h, rfl, r.same s1, g, fun p2 H2 s2 e2 => ?_⟩
      refine ⟨_, rfl, _, _, _, _, rfl, s2 _ _ (s1 _ _ h1), rfl, use_leP (K := K) (E := E0) e2 (s2 _ _ (s1 _ _ ha)) ((bdNext g).mono (by decide)) ?_ ?_ d0 ?_⟩
      · exact Nat.lt_of_lt_of_le (show p.num < 2 ^ 7 by omega) (Nat.pow_le_pow_right (by decide) (by decide))
      · exact Nat.lt_of_lt_of_le (show p.den < 2 ^ 7 by omega) (Nat.pow_le_pow_right (by decide) (by decide))
      · have z := k H2 (s1.trans s2)
        rw [ea, hc] at z
        exact z
end
end PW
set_option Elab.async false
set_option linter.all false
set_option maxRecDepth 100000
set_option maxHeartbeats 4000000
/-! What is raised; the checks; the calls that ask of beliefs and of tests. -/
namespace PW
open PySem PySem.Spec PyProof.Rows L2
open Kp417 (Monitor Policy EntryKind Permit consistent candidates candidateWeight belief harmOf nextHarm detectionOf detectionIn policyAt allowed isPolicy)
/-- the classes of refusals, their codes -/
def refTab : List (Str × Nat) := [("NoSetting", 11), ("SettingExists", 13), ("NotThere", 2), ("OutsideLimits", 22), ("LogNotEmpty", 16), ("SameCheatSet", 17), ("Full", 28), ("NoValue", 33), ("HarmTooHigh", 30), ("NothingToUndo", 6)]
def IsRef (K : PySem.W.Frag) (n : Nat) (C : Addr) : Prop := ∃ x, (x, n) ∈ refTab ∧ C = gad K x
/-- the refusal -n is raised, all else as it was -/
def Rs (K : PySem.W.Frag) (n : Nat) (H : Hp) (E : XK) : Prop := ∀ C d H', IsRef K n C → Same H H' → H' d = some (.xd [(("code" : Str), .int (-(n : Int)))]) → E (.ref C) (some d) H'
theorem Rs.same {K : PySem.W.Frag} {n : Nat} {H H1 : Hp} {E : XK} (r : Rs K n H E) (s : Same H H1) : Rs K n H1 E := fun C d H' c s2 e => r C d H' c (s.trans s2) e
theorem rs_go {K : PySem.W.Frag} {n : Nat} {H : Hp} {E : XK} (x : Str) (r : Rs K n H E) (hx : (x, n) ∈ refTab) : ∀ d, H d = none → E (.ref (gad K x)) (some d) (upd H d (.xd [(("code" : Str), .int (-(n : Int)))])) :=
  fun d nd => r _ d _ ⟨x, hx, rfl⟩ (Same.new nd) upd_same
theorem rf_NoSetting : (("NoSetting" : Str), 11) ∈ refTab := List.mem_of_getElem? (i := 0) rfl
theorem rf_SettingExists : (("SettingExists" : Str), 13) ∈ refTab := List.mem_of_getElem? (i := 1) rfl
theorem rf_NotThere : (("NotThere" : Str), 2) ∈ refTab := List.mem_of_getElem? (i := 2) rfl
theorem rf_OutsideLimits : (("OutsideLimits" : Str), 22) ∈ refTab := List.mem_of_getElem? (i := 3) rfl
theorem rf_LogNotEmpty : (("LogNotEmpty" : Str), 16) ∈ refTab := List.mem_of_getElem? (i := 4) rfl
theorem rf_SameCheatSet : (("SameCheatSet" : Str), 17) ∈ refTab := List.mem_of_getElem? (i := 5) rfl
theorem rf_Full : (("Full" : Str), 28) ∈ refTab := List.mem_of_getElem? (i := 6) rfl
theorem rf_NoValue : (("NoValue" : Str), 33) ∈ refTab := List.mem_of_getElem? (i := 7) rfl
theorem rf_HarmTooHigh : (("HarmTooHigh" : Str), 30) ∈ refTab := List.mem_of_getElem? (i := 8) rfl
theorem rf_NothingToUndo : (("NothingToUndo" : Str), 6) ∈ refTab := List.mem_of_getElem? (i := 9) rfl
/-- a call that changes nothing is answered so -/
def Ans (K : PySem.W.Frag) (H : Hp) (Q : VK) (E : XK) (a : Kp417.Ans) : Prop :=
  if a.num < 0 then Rs K a.num.natAbs H E else ∀ p H', Same H H' → H p = none → H' p = some (.lst ((a.num :: a.nums).map V.int)) → Q (.ref p) H'
theorem ans_no {K : PySem.W.Frag} {H : Hp} {Q : VK} {E : XK} {n : Nat} (k : Ans K H Q E (Kp417.single (-(n : Int)))) (h : 0 < n := by decide) : Rs K n H E := by
  unfold Ans at k
  rw [if_pos (show (Kp417.single (-(n : Int))).num < 0 from show (-(n : Int)) < 0 by omega)] at k
  have e : (Kp417.single (-(n : Int))).num.natAbs = n := by show (-(n : Int)).natAbs = n; omega
  rw [e] at k
  exact k
theorem ans_is {K : PySem.W.Frag} {H : Hp} {Q : VK} {E : XK} {a : Kp417.Ans} (k : Ans K H Q E a) (h : 0 ≤ a.num) : ∀ p H', Same H H' → H p = none → H' p = some (.lst ((a.num :: a.nums).map V.int)) → Q (.ref p) H' := by
  unfold Ans at k
  rw [if_neg (by omega)] at k
  exact k
theorem natL_ints (l : List Nat) : natL l = (l.map fun (x : Nat) => (x : Int)).map V.int := by unfold natL; rw [List.map_map]; rfl
/-- a NEW list of these -/
def GivN (H : Hp) (Q : VK) (ns : List Nat) : Prop := ∀ p H', Same H H' → H p = none → H' p = some (.lst (natL ns)) → Q (.ref p) H'
/-- how many, then these -/
theorem ans_list {K : PySem.W.Frag} {H : Hp} {Q : VK} {E : XK} {l : List Nat} (k : Ans K H Q E (Kp417.listResult l)) : GivN H Q (l.length :: l) := fun p H' s n hp => ans_is k (Int.natCast_nonneg _) p H' s n (by rw [hp, natL_ints]; rfl)
section
variable {P : Program} {w : World} {K : PySem.W.Frag} {mg : Str → Option Value} {base : Heap}
def sp_require_policy (K : PySem.W.Frag) : Sp := fun vs H Q E =>
  ∃ (m sa pa : Addr) (h : Monitor) (i : Nat), vs = [.ref m, .int i] ∧ MonR K H m h sa pa ∧ (isPolicy h i = false → Rs K 2 H E) ∧ (isPolicy h i = true → Q .non H)
theorem ok_require_policy (T : Tx K mg) : Cal P w K mg base (L2.CX P w) 3 "require_policy" (sp_require_policy K) := by
  refine (T.d_require_policy).okX sc_require_policy bd_require_policy (fun vs H Q E h => ?_) (fun f cdv A outer s H vs Q E hr h => ?_)
  · obtain ⟨_, _, _, _, _, rfl, _⟩ := h; rfl
  refine ⟨_, (pss_one (ps_if (pt_cmpR op_ge (pv 1) (pe_callB lenL (by rfl) T.n_len bt_len (pa_cons (pe_fldC T.c_Monitor T.a_Monitor_policies (pv 0)) pa_nil)) (nomark _)) (pss_one (ps_raiseR rfl T.ref T.r_NotThere hr (W := fun cls d _ H => E cls d H) (takes_of rfl rfl rfl rfl))) pss_nil)), ?_⟩
  obtain ⟨m, sa, pa, h, i, rfl, r, k1, k2⟩ := h
  obtain ⟨dm, la, dx, tw, pw, pv, ps, es, h1, h2, h3, h4, h5, h6, h7, h8, h9, n1, n2, n3⟩ := r.ex
  refine ⟨_, rfl, _, rfl, _, _, _, _, rfl, h1, rfl, _, _, rfl, h5, _, _, rfl, rfl, _, rfl, ?_⟩
  rw [List.length_map, h6.1]
  refine ite2 (fun hc => ?_) (fun hc => ?_)
  · have hc' := of_decide_eq_true hc
    refine rs_go "NotThere" (k1 ?_) rf_NotThere
    unfold isPolicy
    exact decide_eq_false (by omega)
  · refine k2 ?_
    unfold isPolicy
    exact decide_eq_true (by simpa using hc)
def sp_require_signal (K : PySem.W.Frag) : Sp := fun vs H Q E =>
  ∃ (m sa pa : Addr) (h : Monitor) (i : Nat), vs = [.ref m, .int i] ∧ MonR K H m h sa pa ∧ (Kp415.isSignal h.setting.model i = false → Rs K 2 H E) ∧ (Kp415.isSignal h.setting.model i = true → Q .non H)
theorem ok_require_signal (T : Tx K mg) : Cal P w K mg base (L2.CX P w) 3 "require_signal" (sp_require_signal K) := by
  refine (T.d_require_signal).okX sc_require_signal bd_require_signal (fun vs H Q E h => ?_) (fun f cdv A outer s H vs Q E hr h => ?_)
  · obtain ⟨_, _, _, _, _, rfl, _⟩ := h; rfl
  refine ⟨_, (pss_one (ps_if (pt_cmpR op_ge (pv 1) (pe_fldC T.c_Setting T.a_Setting_signal_count (pe_fldC T.c_Monitor T.a_Monitor_setting (pv 0))) (nomark _)) (pss_one (ps_raiseR rfl T.ref T.r_NotThere hr (W := fun cls d _ H => E cls d H) (takes_of rfl rfl rfl rfl))) pss_nil)), ?_⟩
  obtain ⟨m, sa, pa, h, i, rfl, r, k1, k2⟩ := h
  obtain ⟨dm, la, dx, tw, pw, pv, ps, es, h1, h2, h3, h4, h5, h6, h7, h8, h9, n1, n2, n3⟩ := r.ex
  refine ⟨_, rfl, _, rfl, _, _, _, _, rfl, h1, rfl, _, _, _, _, rfl, h2, rfl, _, _, rfl, rfl, _, rfl, ?_⟩
  refine ite2 (fun hc => ?_) (fun hc => ?_)
  · have hc' := of_decide_eq_true hc
    refine rs_go "NotThere" (k1 ?_) rf_NotThere
    unfold Kp415.isSignal
    exact decide_eq_false (by omega)
  · refine k2 ?_
    unfold Kp415.isSignal
    exact decide_eq_true (by simpa using hc)
def sp_require_within (K : PySem.W.Frag) : Sp := fun vs H Q E =>
  ∃ a b c : Int, vs = [.int a, .int b, .int c] ∧ (a < b ∨ c < a → Rs K 22 H E) ∧ (b ≤ a → a ≤ c → Q .non H)
theorem ok_require_within (T : Tx K mg) : Cal P w K mg base (L2.CX P w) 3 "require_within" (sp_require_within K) := by
  refine (T.d_require_within).okX sc_require_within bd_require_within (fun vs H Q E h => ?_) (fun f cdv A outer s H vs Q E hr h => ?_)
  · obtain ⟨_, _, _, rfl, _⟩ := h; rfl
  refine ⟨_, (pss_one (ps_if (PW.pt (pw_or (pt_cmpR op_lt (pv 0) (pv 1) (nomark _)) (pw_or1 (pt_cmpR op_gt (pv 0) (pv 2) (nomark _))))) (pss_one (ps_raiseR rfl T.ref T.r_OutsideLimits hr (W := fun cls d _ H => E cls d H) (takes_of rfl rfl rfl rfl))) pss_nil)), ?_⟩
  obtain ⟨a, b, c, rfl, k1, k2⟩ := h
  refine ⟨_, rfl, _, rfl, _, _, rfl, rfl, _, rfl, ?_⟩
  refine ite2 (fun hc => ?_) (fun hc => ?_)
  · refine iteT ?_
    exact rs_go "OutsideLimits" (k1 (.inl (of_decide_eq_true hc))) rf_OutsideLimits
  · refine ⟨_, rfl, _, rfl, _, _, rfl, rfl, _, rfl, ?_⟩
    refine ite2 (fun hd => ?_) (fun hd => ?_)
    · exact rs_go "OutsideLimits" (k1 (.inr (of_decide_eq_true hd))) rf_OutsideLimits
    · exact k2 (by simpa using hc) (by simpa using hd)
def sp_require_fraction (K : PySem.W.Frag) : Sp := fun vs H Q E =>
  ∃ a b : Nat, vs = [.int a, .int b] ∧ (Kp415.validFraction a b = false → Rs K 22 H E) ∧ (Kp415.validFraction a b = true → Q .non H)
theorem ok_require_fraction (T : Tx K mg) : Cal P w K mg base (L2.CX P w) 4 "require_fraction" (sp_require_fraction K) := by
  refine (T.d_require_fraction).okX sc_require_fraction bd_require_fraction (fun vs H Q E h => ?_) (fun f cdv A outer s H vs Q E hr h => ?_)
  · obtain ⟨_, _, rfl, _⟩ := h; rfl
  refine ⟨_, (pss_cons (ps_expr (pe_cal (ok_require_within T) (hr.mono (by decide)) (passes_call (E := E) (W := fun cls d _ H => E cls d H) (takes_of rfl rfl rfl rfl) (fun _ _ _ _ h => h)) (pa_cons (pv 1) (pa_cons pe_int (pa_cons pe_int pa_nil)))))
      (pss_one (ps_expr (pe_cal (ok_require_within T) (hr.mono (by decide)) (passes_call (E := E) (W := fun cls d _ H => E cls d H) (takes_of rfl rfl rfl rfl) (fun _ _ _ _ h => h)) (pa_cons (pv 0) (pa_cons pe_int (pa_cons (pv 1) pa_nil))))))), ?_⟩
  obtain ⟨a, b, rfl, k1, k2⟩ := h
  unfold Kp415.validFraction at k1 k2
  refine ⟨_, rfl, b, 1, 99, rfl, fun hc => k1 ?_, fun c1 c2 => ?_⟩
  · have hc2 : ¬ (1 ≤ b ∧ b ≤ 99) := by omega
    by_cases h1 : 1 ≤ b
    · have h2 : ¬ b ≤ 99 := fun z => hc2 ⟨h1, z⟩
      simp [h2]
    · simp [h1]
  · refine ⟨_, rfl, _, rfl, a, 0, b, rfl, fun hc => k1 ?_, fun c3 c4 => k2 ?_⟩
    · have : ¬ a ≤ b := by omega
      simp [this]
    · have x1 : a ≤ b := by omega
      have x2 : 1 ≤ b := by omega
      have x3 : b ≤ 99 := by omega
      simp [x1, x2, x3]
def sp_require_stakes (K : PySem.W.Frag) : Sp := fun vs H Q E =>
  ∃ a b : Nat, vs = [.int a, .int b] ∧ ((Kp416.validAmount a && Kp416.validAmount b) = false → Rs K 22 H E) ∧ ((Kp416.validAmount a && Kp416.validAmount b) = true → Q .non H)
theorem ok_require_stakes (T : Tx K mg) : Cal P w K mg base (L2.CX P w) 4 "require_stakes" (sp_require_stakes K) := by
  refine (T.d_require_stakes).okX sc_require_stakes bd_require_stakes (fun vs H Q E h => ?_) (fun f cdv A outer s H vs Q E hr h => ?_)
  · obtain ⟨_, _, rfl, _⟩ := h; rfl
  refine ⟨_, (pss_cons (ps_expr (pe_cal (ok_require_within T) (hr.mono (by decide)) (passes_call (E := E) (W := fun cls d _ H => E cls d H) (takes_of rfl rfl rfl rfl) (fun _ _ _ _ h => h)) (pa_cons (pv 0) (pa_cons pe_int (pa_cons (pe_gint T.i_MOST_STAKE) pa_nil)))))
      (pss_one (ps_expr (pe_cal (ok_require_within T) (hr.mono (by decide)) (passes_call (E := E) (W := fun cls d _ H => E cls d H) (takes_of rfl rfl rfl rfl) (fun _ _ _ _ h => h)) (pa_cons (pv 1) (pa_cons pe_int (pa_cons (pe_gint T.i_MOST_STAKE) pa_nil))))))), ?_⟩
  obtain ⟨a, b, rfl, k1, k2⟩ := h
  unfold Kp416.validAmount at k1 k2
  refine ⟨_, rfl, a, 0, 999, rfl, fun hc => k1 ?_, fun c1 c2 => ?_⟩
  · have : ¬ a ≤ 999 := by omega
    simp [this]
  · refine ⟨_, rfl, b, 0, 999, rfl, fun hc => k1 ?_, fun c3 c4 => k2 ?_⟩
    · have : ¬ b ≤ 999 := by omega
      simp [this]
    · have x1 : a ≤ 999 := by omega
      have x2 : b ≤ 999 := by omega
      simp [x1, x2]
def sp_require_empty_log (K : PySem.W.Frag) : Sp := fun vs H Q E =>
  ∃ (m sa pa : Addr) (h : Monitor), vs = [.ref m] ∧ MonR K H m h sa pa ∧ (h.log ≠ [] → Rs K 16 H E) ∧ (h.log = [] → Q .non H)
theorem ok_require_empty_log (T : Tx K mg) : Cal P w K mg base (L2.CX P w) 3 "require_empty_log" (sp_require_empty_log K) := by
  refine (T.d_require_empty_log).okX sc_require_empty_log bd_require_empty_log (fun vs H Q E h => ?_) (fun f cdv A outer s H vs Q E hr h => ?_)
  · obtain ⟨_, _, _, _, rfl, _⟩ := h; rfl
  refine ⟨_, (pss_one (ps_if (pt_cmpR op_gt (pe_callB lenL (by rfl) T.n_len bt_len (pa_cons (pe_fldC T.c_Monitor T.a_Monitor_log (pv 0)) pa_nil)) pe_int (nomark _)) (pss_one (ps_raiseR rfl T.ref T.r_LogNotEmpty hr (W := fun cls d _ H => E cls d H) (takes_of rfl rfl rfl rfl))) pss_nil)), ?_⟩
  obtain ⟨m, sa, pa, h, rfl, r, k1, k2⟩ := h
  obtain ⟨dm, la, dx, tw, pw, pv, ps, es, h1, h2, h3, h4, h5, h6, h7, h8, h9, n1, n2, n3⟩ := r.ex
  refine ⟨_, rfl, _, _, _, _, rfl, h1, rfl, _, _, rfl, h7, _, _, rfl, rfl, _, rfl, ?_⟩
  rw [List.length_map, h8.1]
  refine ite2 (fun hc => ?_) (fun hc => ?_)
  · refine rs_go "LogNotEmpty" (k1 fun e => ?_) rf_LogNotEmpty
    rw [e] at hc
    cases hc
  · refine k2 (List.eq_nil_of_length_eq_zero ?_)
    have hc2 : ¬ (0 : Int) < (h.log.length : Int) := by simpa using hc
    omega
def sp_require_candidates (K : PySem.W.Frag) : Sp := fun vs H Q E =>
  ∃ (m sa pa : Addr) (h : Monitor), vs = [.ref m] ∧ MonR K H m h sa pa ∧ Good h ∧ ((candidates h).isEmpty = true → Rs K 33 H E) ∧ ((candidates h).isEmpty = false → ∀ H', Same H H' → Q .non H')
theorem ok_require_candidates (T : Tx K mg) : Cal P w K mg base (L2.CX P w) 5 "require_candidates" (sp_require_candidates K) := by
  refine (T.d_require_candidates).okX sc_require_candidates bd_require_candidates (fun vs H Q E h => ?_) (fun f cdv A outer s H vs Q E hr h => ?_)
  · obtain ⟨_, _, _, _, rfl, _⟩ := h; rfl
  refine ⟨_, (pss_one (ps_if (pt_cmpR eqI (pe_callB lenL (by rfl) T.n_len bt_len (pa_cons (pe_cal (ok_candidates_of T) (hr.mono (by decide)) pass0 (pa_cons (pv 0) pa_nil)) pa_nil)) pe_int (nomark _)) (pss_one (ps_raiseR rfl T.ref T.r_NoValue hr (W := fun cls d _ H => E cls d H) (takes_of rfl rfl rfl rfl))) pss_nil)), ?_⟩
  obtain ⟨m, sa, pa, h, rfl, r, g, k1, k2⟩ := h
  refine ⟨_, rfl, m, sa, pa, h, rfl, r, g, fun p1 H1 s1 e1 => ?_⟩
  refine ⟨_, _, rfl, e1, _, _, rfl, rfl, _, rfl, ?_⟩
  rw [natL_len]
  cases hc : candidates h with
  | nil =>
    rw [hc] at k1
    exact iteT (rs_go "NoValue" ((k1 rfl).same s1) rf_NoValue)
  | cons c cs =>
    rw [hc] at k2
    rw [show decide (((c :: cs).length : Int) = 0) = false from decide_eq_false (by rw [List.length_cons]; omega)]
    exact iteF (k2 rfl H1 s1)
def sp_counted (K : PySem.W.Frag) : Sp := fun vs H Q E =>
  ∃ (a : Addr) (l : List Nat), vs = [.ref a] ∧ H a = some (.lst (natL l)) ∧ l.length ≤ 1000 ∧ GivN H Q (l.length :: l)
theorem ok_counted (T : Tx K mg) : Cal P w K mg base CX0 1 "counted" (sp_counted K) := by
  refine (T.d_counted).ok0 sc_counted bd_counted (fun vs H Q E h => ?_) (fun f cdv A outer s H vs Q E hr h => ?_)
  · obtain ⟨_, _, rfl, _⟩ := h; rfl
  refine ⟨_, (pss_one (ps_ret (pe_op op_cat (pe_lst (pa_cons (pe_callB lenL (by rfl) T.n_len bt_len (pa_cons (pv 0) pa_nil)) pa_nil)) (pv 0)))), ?_⟩
  obtain ⟨a, l, rfl, ha, hl, k⟩ := h
  refine ⟨_, rfl, _, _, rfl, ha, szl, fun u nu => ?_⟩
  have su := Same.new (o := .lst [V.int ((natL l).length : Int)]) nu
  refine ⟨_, rfl, _, _, _, _, rfl, rfl, upd_same, su _ _ ha, ?_, fun p np => ?_⟩
  · rw [natL_len]
    exact Nat.le_trans (show 1 + l.length ≤ 1001 by omega) (by decide)
  · refine k p _ (su.trans (Same.new np)) (su.free np) ?_
    rw [upd_same, natL_len]
    rfl
end
end PW
set_option Elab.async false
set_option linter.all false
set_option maxRecDepth 100000
set_option maxHeartbeats 4000000
/-! The calls of beliefs and of tests: belief_calls, detection_calls. -/
namespace PW
open PySem PySem.Spec PyProof.Rows L2
open Kp417 (Monitor Policy EntryKind Permit consistent candidates candidateWeight belief harmOf nextHarm detectionOf detectionIn policyAt allowed isPolicy run query single fractionResult listResult boolResult)
section
variable {P : Program} {w : World} {K : PySem.W.Frag} {mg : Str → Option Value} {base : Heap}
theorem ans_fr {K : PySem.W.Frag} {H : Hp} {Q : VK} {E : XK} {x : Rat} (k : Ans K H Q E (fractionResult x)) : ∀ p H', Same H H' → H p = none → H' p = some (.lst [.int 0, .int x.num, .int (x.den : Int)]) → Q (.ref p) H' := ans_is k (show (0 : Int) ≤ 0 by decide)
theorem ans_one {K : PySem.W.Frag} {H : Hp} {Q : VK} {E : XK} {v : Int} (k : Ans K H Q E (single v)) (h : 0 ≤ v) : ∀ p H', Same H H' → H p = none → H' p = some (.lst [.int v]) → Q (.ref p) H' := ans_is k h
/-- xs + list(t), t the tuple of a fraction -/
theorem cat_go {H H1 : Hp} {u p1 : Addr} {r : Rat} {xs : List V} {Q : VK} (s : Same H H1) (hu : H1 u = some (.lst xs)) (hp : H1 p1 = some (frT r)) (hx : xs.length ≤ 900)
    (k : ∀ p H', Same H H' → H p = none → H' p = some (.lst (xs ++ [.int r.num, .int (r.den : Int)])) → Q (.ref p) H') :
    ∃ p ys, [V.ref p1] = [V.ref p] ∧ H1 p = some (.tup ys) ∧ ∀ l, H1 l = none → (fun y H2 => rCat (.ref u) y H2 Q) (.ref l) (upd H1 l (.lst ys)) := by
  refine ⟨p1, _, rfl, hp, fun l nl => ?_⟩
  have sl := Same.new (o := .lst [V.int r.num, V.int (r.den : Int)]) nl
  refine ⟨u, l, xs, _, rfl, rfl, sl _ _ hu, upd_same, Nat.le_trans (show xs.length + 2 ≤ 902 by omega) (by decide), fun p np => ?_⟩
  exact k p _ ((s.trans sl).trans (Same.new np)) ((s.trans sl).free np) upd_same
def sp_candidates (K : PySem.W.Frag) : Sp := fun vs H Q E =>
  ∃ (m sa pa : Addr) (h : Monitor), vs = [.ref m] ∧ MonR K H m h sa pa ∧ Good h ∧ Ans K H Q E (run h .candidates).2
theorem ok_candidates (T : Tx K mg) : Cal P w K mg base CX0 5 "candidates" (sp_candidates K) := by
  refine (T.d_candidates).ok0 sc_candidates bd_candidates (fun vs H Q E h => ?_) (fun f cdv A outer s H vs Q E hr h => ?_)
  · obtain ⟨_, _, _, _, rfl, _⟩ := h; rfl
  refine ⟨_, (pss_one (ps_ret (pe_cal (ok_counted T) (hr.mono (by decide)) pass0 (pa_cons (pe_cal (ok_candidates_of T) (hr.mono (by decide)) pass0 (pa_cons (pv 0) pa_nil)) pa_nil)))), ?_⟩
  obtain ⟨m, sa, pa, h, rfl, r, g, k⟩ := h
  have k : Ans K H Q E (listResult (Kp417.candidates h)) := k
  refine ⟨_, rfl, m, sa, pa, h, rfl, r, g, fun p1 H1 s1 e1 => ?_⟩
  have cl := cand_len h
  have n6 := g.p6
  exact ⟨p1, _, rfl, e1, by omega, fun p2 H2 s2 n2 e2 => ans_list k p2 H2 (s1.trans s2) (s1.free n2) e2⟩
def sp_belief (K : PySem.W.Frag) : Sp := fun vs H Q E =>
  ∃ (m sa pa : Addr) (h : Monitor) (i : Nat), vs = [.ref m, .int i] ∧ MonR K H m h sa pa ∧ Good h ∧ Ans K H Q E (run h (.belief i)).2
theorem ok_belief (T : Tx K mg) : Cal P w K mg base (L2.CX P w) 6 "belief" (sp_belief K) := by
  refine (T.d_belief).okX sc_belief bd_belief (fun vs H Q E h => ?_) (fun f cdv A outer s H vs Q E hr h => ?_)
  · obtain ⟨_, _, _, _, _, rfl, _⟩ := h; rfl
  refine ⟨_, (pss_cons (ps_expr (pe_cal (ok_require_policy T) (hr.mono (by decide)) (passes_call (E := E) (W := fun cls d _ H => E cls d H) (takes_of rfl rfl rfl rfl) (fun _ _ _ _ h => h)) (pa_cons (pv 0) (pa_cons (pv 1) pa_nil))))
      (pss_one (ps_ret (pe_op op_cat (pe_lst (pa_cons pe_int pa_nil)) (pe_callTy listT (by rfl) T.n_list bt_list (pa_cons (pe_cal (ok_belief_in T) (hr.mono (by decide)) pass0 (pa_cons (pv 0) (pa_cons (pv 1) pa_nil))) pa_nil)))))), ?_⟩
  obtain ⟨m, sa, pa, h, i, rfl, r, g, k⟩ := h
  have k : Ans K H Q E (if isPolicy h i then fractionResult (Kp417.belief h i) else single (-2)) := k
  refine ⟨_, rfl, _, rfl, m, sa, pa, h, i, rfl, r, fun hc => ?_, fun hc => ?_⟩
  · rw [hc, if_neg Bool.false_ne_true] at k
    exact ans_no (n := 2) k
  rw [hc, if_pos rfl] at k
  refine ⟨szl, fun u nu => ?_⟩
  have su := Same.new (o := .lst [V.int 0]) nu
  refine ⟨_, rfl, _, rfl, m, sa, pa, h, i, rfl, r.same su, g, fun p1 H1 s1 e1 => ?_⟩
  exact cat_go (su.trans s1) (s1 _ _ upd_same) e1 (by decide) (ans_fr k)
def sp_honest_belief (K : PySem.W.Frag) : Sp := fun vs H Q E =>
  ∃ (m sa pa : Addr) (h : Monitor), vs = [.ref m] ∧ MonR K H m h sa pa ∧ Good h ∧ (∀ i j, i < h.policies.length → j < h.policies.length → (policyAt h i).cheatSet = (policyAt h j).cheatSet → i = j) ∧ Ans K H Q E (run h .honestBelief).2
theorem ok_honest_belief (T : Tx K mg) : Cal P w K mg base (L2.CX P w) 6 "honest_belief" (sp_honest_belief K) := by
  refine (T.d_honest_belief).okX sc_honest_belief bd_honest_belief (fun vs H Q E h => ?_) (fun f cdv A outer s H vs Q E hr h => ?_)
  · obtain ⟨_, _, _, _, rfl, _⟩ := h; rfl
  refine ⟨_, (pss_cons (ps_expr (pe_cal (ok_require_candidates T) (hr.mono (by decide)) (passes_call (E := E) (W := fun cls d _ H => E cls d H) (takes_of rfl rfl rfl rfl) (fun _ _ _ _ h => h)) (pa_cons (pv 0) pa_nil)))
      (pss_cons (ps_for (passes_of rfl) rfl (pi_list (pe_cal (ok_candidates_of T) (hr.mono (by decide)) pass0 (pa_cons (pv 0) pa_nil))) (pg_name (i := 1) sc_honest_belief.nd rfl (Or.inl rfl)) (pss_one (ps_if (pt_cmpR eqI (pe_fldC T.c_Policy T.a_Policy_cheat_set (pe_ix ixL (pe_fldC T.c_Monitor T.a_Monitor_policies (pv 0)) (pv 1) (fun _ _ => rfl))) pe_int (nomark _)) (pss_one (ps_ret (pe_op op_cat (pe_lst (pa_cons pe_int pa_nil)) (pe_callTy listT (by rfl) T.n_list bt_list (pa_cons (pe_cal (ok_belief_in T) (hr.mono (by decide)) pass0 (pa_cons (pv 0) (pa_cons (pv 1) pa_nil))) pa_nil))))) pss_nil)))
      (pss_one (ps_ret (pe_lst (pa_cons pe_int (pa_cons pe_int (pa_cons pe_int pa_nil)))))))), ?_⟩
  obtain ⟨m, sa, pa, h, rfl, r, g, uq, k⟩ := h
  have k : Ans K H Q E (if (Kp417.candidates h).isEmpty then single (-33) else fractionResult (((Kp417.candidates h).filter fun i => (policyAt h i).cheatSet == 0).map (Kp417.belief h)).sum) := k
  refine ⟨_, rfl, m, sa, pa, h, rfl, r, g, fun hc => ?_, fun hc H0 s0 => ?_⟩
  · rw [hc, if_pos rfl] at k
    exact ans_no (n := 33) k
  rw [hc, if_neg Bool.false_ne_true] at k
  obtain ⟨dm, la, dx, tw, pw, pv, ps, es, h1, h2, h3, h4, h5, h6, h7, h8, h9, n1, n2, n3⟩ := (r.same s0).ex
  refine ⟨_, rfl, m, sa, pa, h, rfl, r.same s0, g, fun p1 H1 s1 e1 => ?_⟩
  refine ⟨p1, rfl, ⟨_, SqL.of e1⟩, for_list (K := K) (a := p1) (xs := natL (Kp417.candidates h)) (fun i σ H' => (∃ v : Option V, σ = [some (.ref m), v]) ∧ H' = H1 ∧ ((Kp417.candidates h).take i).filter (fun i => (policyAt h i).cheatSet == 0) = [])
    ⟨⟨none, rfl⟩, rfl, rfl⟩ (fun i σ H' _ ⟨_, e, _⟩ => by rw [e]; exact SqL.of e1) ?_ ?_⟩
  · rintro i y σ H' hi ⟨⟨v, rfl⟩, rfl, hf⟩
    have hil : i < (Kp417.candidates h).length := by
      have := (List.getElem?_eq_some_iff.mp hi).1
      rw [natL_len] at this
      exact this
    rw [natL_at hil, getD_mem hil] at hi
    cases hi
    have hpl := cand_lt (List.getElem_mem hil)
    obtain ⟨p, dp, e2, e3⟩ := pol_at h6 hpl
    refine ⟨_, rfl, _, _, _, _, rfl, s1 _ _ h1, rfl, _, rfl, _, _, _, _, rfl, rfl, s1 _ _ h5, e2, _, _, _, _, rfl, s1 _ _ e3, rfl, _, _, rfl, rfl, _, rfl, ?_⟩
    refine ite2 (fun hz => ?_) (fun hz => ?_)
    · have hz0 : (policyAt h (Kp417.candidates h)[i]).cheatSet = 0 := by
        have := of_decide_eq_true hz
        omega
      have ef : (Kp417.candidates h).filter (fun i => (policyAt h i).cheatSet == 0) = [(Kp417.candidates h)[i]] := by
        have nd : (Kp417.candidates h).Nodup := by
          unfold Kp417.candidates
          exact List.Pairwise.filter _ List.nodup_range
        have e : Kp417.candidates h = (Kp417.candidates h).take i ++ (Kp417.candidates h)[i] :: (Kp417.candidates h).drop (i + 1) := by
          rw [← List.drop_eq_getElem_cons hil, List.take_append_drop]
        have e0 : ((Kp417.candidates h).drop (i + 1)).filter (fun i => (policyAt h i).cheatSet == 0) = [] := by
          rw [List.filter_eq_nil_iff]
          intro z hz1 hz2
          have hz3 : (policyAt h z).cheatSet = 0 := by simpa using hz2
          have hzm : z ∈ Kp417.candidates h := List.mem_of_mem_drop hz1
          have hzz := uq z _ (cand_lt hzm) hpl (hz3.trans hz0.symm)
          rw [e] at nd
          have n3 := (List.nodup_append.mp nd).2.1
          have n4 := (List.nodup_cons.mp n3).1
          rw [← hzz] at n4
          exact n4 hz1
        conv => lhs; rw [e]
        rw [List.filter_append, hf, List.filter_cons_of_pos (by simp [hz0]), e0]
        rfl
      rw [ef] at k
      have k : Ans K H Q E (fractionResult ([Kp417.belief h (Kp417.candidates h)[i]]).sum) := k
      rw [List.sum_cons, List.sum_nil, Rat.add_zero] at k
      refine ⟨szl, fun u nu => ?_⟩
      have su := Same.new (o := .lst [V.int 0]) nu
      refine ⟨_, rfl, _, rfl, m, sa, pa, h, _, rfl, ((r.same s0).same s1).same su, g, fun p5 H5 s5 e5 => ?_⟩
      exact cat_go (((s0.trans s1).trans su).trans s5) (s5 _ _ upd_same) e5 (by decide) (ans_fr k)
    · refine ⟨⟨_, rfl⟩, rfl, ?_⟩
      have hz0 : ¬ (policyAt h (Kp417.candidates h)[i]).cheatSet = 0 := by
        intro z
        rw [z] at hz
        exact hz rfl
      rw [List.take_succ_eq_append_getElem hil, List.filter_append, hf, List.filter_cons_of_neg (by simp [hz0])]
      rfl
  · rintro σ H' ⟨⟨v, rfl⟩, rfl, hf⟩
    rw [natL_len, List.take_length] at hf
    rw [hf] at k
    refine ⟨szl, fun u nu => ?_⟩
    exact ans_fr k u _ ((s0.trans s1).trans (Same.new nu)) ((s0.trans s1).free nu) upd_same
def sp_suspects (K : PySem.W.Frag) : Sp := fun vs H Q E =>
  ∃ (m sa pa : Addr) (h : Monitor) (i : Nat), vs = [.ref m, .int i] ∧ MonR K H m h sa pa ∧ Good h ∧ Ans K H Q E (run h (.suspects i)).2
theorem ok_suspects (T : Tx K mg) : Cal P w K mg base (L2.CX P w) 6 "suspects" (sp_suspects K) := by
  refine (T.d_suspects).okX sc_suspects bd_suspects (fun vs H Q E h => ?_) (fun f cdv A outer s H vs Q E hr h => ?_)
  · obtain ⟨_, _, _, _, _, rfl, _⟩ := h; rfl
  refine ⟨_, (pss_cons (ps_expr (pe_cal (ok_require_signal T) (hr.mono (by decide)) (passes_call (E := E) (W := fun cls d _ H => E cls d H) (takes_of rfl rfl rfl rfl) (fun _ _ _ _ h => h)) (pa_cons (pv 0) (pa_cons (pv 1) pa_nil))))
      (pss_one (ps_ret (pe_cal (ok_counted T) (hr.mono (by decide)) pass0 (pa_cons (pe_cal (ok_suspects_of T) (hr.mono (by decide)) pass0 (pa_cons (pv 0) (pa_cons (pv 1) pa_nil))) pa_nil))))), ?_⟩
  obtain ⟨m, sa, pa, h, i, rfl, r, g, k⟩ := h
  have k : Ans K H Q E (if Kp415.isSignal h.setting.model i then listResult ((Kp417.candidates h).filter fun j => Kp415.contains (policyAt h j).cheatSet i) else single (-2)) := k
  refine ⟨_, rfl, _, rfl, m, sa, pa, h, i, rfl, r, fun hc => ?_, fun hc => ?_⟩
  · rw [hc, if_neg Bool.false_ne_true] at k
    exact ans_no (n := 2) k
  rw [hc, if_pos rfl] at k
  refine ⟨_, rfl, _, rfl, m, sa, pa, h, i, rfl, r, g, fun p1 H1 s1 e1 => ?_⟩
  have cl := cand_len h
  have n6 := g.p6
  have fl := List.length_filter_le (fun j => Kp415.contains (policyAt h j).cheatSet i) (Kp417.candidates h)
  exact ⟨p1, _, rfl, e1, by omega, fun p2 H2 s2 n2 e2 => ans_list k p2 H2 (s1.trans s2) (s1.free n2) e2⟩
def sp_next_harm_probability (K : PySem.W.Frag) : Sp := fun vs H Q E =>
  ∃ (m sa pa : Addr) (h : Monitor), vs = [.ref m] ∧ MonR K H m h sa pa ∧ Good h ∧ Ans K H Q E (run h .nextHarmProbability).2
theorem ok_next_harm_probability (T : Tx K mg) : Cal P w K mg base (L2.CX P w) 7 "next_harm_probability" (sp_next_harm_probability K) := by
  refine (T.d_next_harm_probability).okX sc_next_harm_probability bd_next_harm_probability (fun vs H Q E h => ?_) (fun f cdv A outer s H vs Q E hr h => ?_)
  · obtain ⟨_, _, _, _, rfl, _⟩ := h; rfl
  refine ⟨_, (pss_cons (ps_expr (pe_cal (ok_require_candidates T) (hr.mono (by decide)) (passes_call (E := E) (W := fun cls d _ H => E cls d H) (takes_of rfl rfl rfl rfl) (fun _ _ _ _ h => h)) (pa_cons (pv 0) pa_nil)))
      (pss_one (ps_ret (pe_op op_cat (pe_lst (pa_cons pe_int pa_nil)) (pe_callTy listT (by rfl) T.n_list bt_list (pa_cons (pe_cal (ok_next_harm T) (hr.mono (by decide)) pass0 (pa_cons (pv 0) pa_nil)) pa_nil)))))), ?_⟩
  obtain ⟨m, sa, pa, h, rfl, r, g, k⟩ := h
  have k : Ans K H Q E (if (Kp417.candidates h).isEmpty then single (-33) else fractionResult (nextHarm h)) := k
  refine ⟨_, rfl, m, sa, pa, h, rfl, r, g, fun hc => ?_, fun hc H0 s0 => ?_⟩
  · rw [hc, if_pos rfl] at k
    exact ans_no (n := 33) k
  rw [hc, if_neg Bool.false_ne_true] at k
  refine ⟨szl, fun u nu => ?_⟩
  have su := Same.new (o := .lst [V.int 0]) nu
  refine ⟨_, rfl, m, sa, pa, h, rfl, (r.same s0).same su, g, fun p1 H1 s1 e1 => ?_⟩
  exact cat_go ((s0.trans su).trans s1) (s1 _ _ upd_same) e1 (by decide) (ans_fr k)
/-- the worst so far -/
def worse (h : Monitor) (j i : Nat) : Nat := if harmOf h j < harmOf h i then i else j
theorem worse_lt {h : Monitor} {j i : Nat} (c : harmOf h j < harmOf h i) : worse h j i = i := if_pos c
theorem worse_ge {h : Monitor} {j i : Nat} (c : ¬ harmOf h j < harmOf h i) : worse h j i = j := if_neg c
theorem worst_fold (h : Monitor) : ∀ (l : List Nat) (j : Nat), l.foldl (fun (best : Option Nat) (i : Nat) => match best with | none => some i | some j => if harmOf h j < harmOf h i then some i else some j) (some j) = some (l.foldl (worse h) j)
  | [], _ => rfl
  | i :: l, j => by
    have ih := worst_fold h l (worse h j i)
    rw [List.foldl_cons, List.foldl_cons, ← ih]
    congr 1
    unfold worse
    by_cases c : harmOf h j < harmOf h i
    · simp [c]
    · simp [c]
theorem worst_eq {h : Monitor} {c : Nat} {cs : List Nat} (e : Kp417.candidates h = c :: cs) : Kp417.worstCandidate h = some ((c :: cs).foldl (worse h) c) := by
  have a : Kp417.worstCandidate h = (c :: cs).foldl (fun (best : Option Nat) (i : Nat) => match best with | none => some i | some j => if harmOf h j < harmOf h i then some i else some j) none := by
    unfold Kp417.worstCandidate
    rw [e]
    congr 1
  rw [a, List.foldl_cons, List.foldl_cons, worst_fold]
  unfold worse
  rw [if_neg Rat.lt_irrefl]
theorem worse_mem (h : Monitor) (S : Nat → Prop) : ∀ (l : List Nat) (j : Nat), S j → (∀ x ∈ l, S x) → S (l.foldl (worse h) j)
  | [], _, hj, _ => hj
  | i :: l, j, hj, hl => by
    refine worse_mem h S l _ ?_ fun x hx => hl x (List.mem_cons_of_mem _ hx)
    unfold worse
    split
    · exact hl i (List.mem_cons_self ..)
    · exact hj
def sp_worst_candidate (K : PySem.W.Frag) : Sp := fun vs H Q E =>
  ∃ (m sa pa : Addr) (h : Monitor), vs = [.ref m] ∧ MonR K H m h sa pa ∧ Good h ∧ Ans K H Q E (run h .worstCandidate).2
theorem ok_worst_candidate (T : Tx K mg) : Cal P w K mg base (L2.CX P w) 6 "worst_candidate" (sp_worst_candidate K) := by
  refine (T.d_worst_candidate).okX sc_worst_candidate bd_worst_candidate (fun vs H Q E h => ?_) (fun f cdv A outer s H vs Q E hr h => ?_)
  · obtain ⟨_, _, _, _, rfl, _⟩ := h; rfl
  refine ⟨_, (pss_cons (ps_expr (pe_cal (ok_require_candidates T) (hr.mono (by decide)) (passes_call (E := E) (W := fun cls d _ H => E cls d H) (takes_of rfl rfl rfl rfl) (fun _ _ _ _ h => h)) (pa_cons (pv 0) pa_nil)))
      (pss_cons (ps_set (i := 1) sc_worst_candidate.nd rfl (Or.inl rfl) (pe_cal (ok_candidates_of T) (hr.mono (by decide)) pass0 (pa_cons (pv 0) pa_nil)))
      (pss_cons (ps_set (i := 2) sc_worst_candidate.nd rfl (Or.inl rfl) (pe_ix ixL (pv 1) pe_int (fun _ _ => rfl)))
      (pss_cons (ps_for (passes_of rfl) rfl (pi_list (pv 1)) (pg_name (i := 3) sc_worst_candidate.nd rfl (Or.inl rfl)) (pss_one (ps_if (pt_not (pt_val (pe_cal (ok_at_most T) (hr.mono (by decide)) pass0 (pa_cons (pe_cal (ok_harm_of T) (hr.mono (by decide)) pass0 (pa_cons (pv 0) (pa_cons (pv 3) pa_nil))) (pa_cons (pe_cal (ok_harm_of T) (hr.mono (by decide)) pass0 (pa_cons (pv 0) (pa_cons (pv 2) pa_nil))) pa_nil))))) (pss_one (ps_set (i := 2) sc_worst_candidate.nd rfl (Or.inl rfl) (pv 3))) pss_nil)))
      (pss_one (ps_ret (pe_op op_cat (pe_lst (pa_cons (pv 2) pa_nil)) (pe_callTy listT (by rfl) T.n_list bt_list (pa_cons (pe_cal (ok_harm_of T) (hr.mono (by decide)) pass0 (pa_cons (pv 0) (pa_cons (pv 2) pa_nil))) pa_nil))))))))), ?_⟩
  obtain ⟨m, sa, pa, h, rfl, r, g, k⟩ := h
  refine ⟨_, rfl, m, sa, pa, h, rfl, r, g, fun hc => ?_, fun hc H0 s0 => ?_⟩
  · have e : Kp417.candidates h = [] := List.isEmpty_iff.mp hc
    have ew : Kp417.worstCandidate h = none := by unfold Kp417.worstCandidate; rw [e]; rfl
    have k : Ans K H Q E (match Kp417.worstCandidate h with | none => single (-33) | some i => ⟨(i : Int), Kp417.fraction (harmOf h i)⟩) := k
    rw [ew] at k
    exact ans_no (n := 33) k
  cases ec : Kp417.candidates h with
  | nil => rw [ec] at hc; cases hc
  | cons c cs =>
    have k : Ans K H Q E (match Kp417.worstCandidate h with | none => single (-33) | some i => ⟨(i : Int), Kp417.fraction (harmOf h i)⟩) := k
    rw [worst_eq ec] at k
    have inc : ∀ x ∈ c :: cs, x < h.policies.length := fun x hx => cand_lt (by rw [ec]; exact hx)
    refine ⟨_, rfl, m, sa, pa, h, rfl, r.same s0, g, fun p1 H1 s1 e1 => ?_⟩
    rw [ec] at e1
    refine ⟨_, rfl, _, _, 0, V.int (c : Int), rfl, rfl, e1, rfl, ?_⟩
    refine ⟨_, rfl, p1, rfl, ⟨_, SqL.of e1⟩, for_list (K := K) (a := p1) (xs := natL (c :: cs)) (fun i σ H' => (∃ v : Option V, σ = [some (.ref m), some (.ref p1), some (.int ((((c :: cs).take i).foldl (worse h) c : Nat) : Int)), v]) ∧ Same H1 H')
      ⟨⟨none, rfl⟩, Same.refl _⟩ (fun i σ H' _ ⟨_, e⟩ => SqL.of (e _ _ e1)) ?_ ?_⟩
    · rintro i y σ H' hi ⟨⟨v, rfl⟩, st⟩
      have hil : i < (c :: cs).length := by
        have := (List.getElem?_eq_some_iff.mp hi).1
        rw [natL_len] at this
        exact this
      rw [natL_at hil, getD_mem hil] at hi
      cases hi
      have hx := inc _ (List.getElem_mem hil)
      have hw : ((c :: cs).take i).foldl (worse h) c < h.policies.length := worse_mem h (fun x => x < h.policies.length) _ _ (inc c (List.mem_cons_self ..)) fun x hx => inc x (List.mem_of_mem_take hx)
      have s2 := (s0.trans s1).trans st
      refine ⟨_, rfl, _, rfl, m, sa, pa, h, _, rfl, r.same s2, g, hx, fun p2 H2 s3 e2 => ?_⟩
      refine ⟨_, rfl, _, rfl, m, sa, pa, h, _, rfl, (r.same s2).same s3, g, hw, fun p3 H3 s4 e3 => ?_⟩
      have b1 := (bdHarmOf g (c :: cs)[i]).mono (show 12 ≤ 4000 by decide)
      have b2 := (bdHarmOf g (((c :: cs).take i).foldl (worse h) c)).mono (show 12 ≤ 4000 by decide)
      refine ⟨p2, p3, _, _, _, _, rfl, s4 _ _ e2, e3, b1.1, b2.1, b1.2, b2.2, _, rfl, ?_⟩
      have en : (!decide ((harmOf h (c :: cs)[i]).num * ((harmOf h (((c :: cs).take i).foldl (worse h) c)).den : Int) ≤ (harmOf h (((c :: cs).take i).foldl (worse h) c)).num * ((harmOf h (c :: cs)[i]).den : Int))) = decide (harmOf h (((c :: cs).take i).foldl (worse h) c) < harmOf h (c :: cs)[i]) := by
        rw [Bool.eq_iff_iff]
        simp only [Bool.not_eq_true', decide_eq_false_iff_not, decide_eq_true_eq]
        rw [← Rat.le_iff, Rat.not_le]
      show if (!decide ((harmOf h (c :: cs)[i]).num * ((harmOf h (((c :: cs).take i).foldl (worse h) c)).den : Int) ≤ (harmOf h (((c :: cs).take i).foldl (worse h) c)).num * ((harmOf h (c :: cs)[i]).den : Int))) = true then _ else _
      rw [en]
      have et : ((c :: cs).take (i + 1)).foldl (worse h) c = worse h (((c :: cs).take i).foldl (worse h) c) (c :: cs)[i] := by
        rw [List.take_succ_eq_append_getElem hil, List.foldl_append]
        rfl
      refine ite2 (fun hz => ?_) (fun hz => ?_)
      · refine ⟨_, rfl, ⟨some (V.int ((c :: cs)[i] : Nat)), ?_⟩, (st.trans s3).trans s4⟩
        rw [et, worse_lt (of_decide_eq_true hz)]
        rfl
      · refine ⟨⟨some (V.int ((c :: cs)[i] : Nat)), ?_⟩, (st.trans s3).trans s4⟩
        rw [et, worse_ge (by simpa using hz)]
        rfl
    · rintro σ H' ⟨⟨v, rfl⟩, st⟩
      rw [natL_len, List.take_length]
      have hw : (c :: cs).foldl (worse h) c < h.policies.length := worse_mem h (fun x => x < h.policies.length) _ _ (inc c (List.mem_cons_self ..)) fun x hx => inc x hx
      have s2 := (s0.trans s1).trans st
      refine ⟨_, rfl, szl, fun u nu => ?_⟩
      have su := Same.new (o := .lst [V.int (((c :: cs).foldl (worse h) c : Nat) : Int)]) nu
      refine ⟨_, rfl, _, rfl, m, sa, pa, h, _, rfl, (r.same s2).same su, g, hw, fun p5 H5 s5 e5 => ?_⟩
      exact cat_go ((s2.trans su).trans s5) (s5 _ _ upd_same) e5 (by show 1 ≤ 900; decide) (ans_is k (Int.natCast_nonneg _))
end
end PW
set_option Elab.async false
set_option linter.all false
set_option maxRecDepth 100000
set_option maxHeartbeats 4000000
/-! The calls of tests and of the permit: detection_calls, permit_calls. -/
namespace PW
open PySem PySem.Spec PyProof.Rows L2
open Kp417 (Monitor Policy EntryKind Permit consistent candidateWeight harmOf nextHarm detectionOf detectionIn policyAt allowed isPolicy run query single fractionResult listResult boolResult)
section
variable {P : Program} {w : World} {K : PySem.W.Frag} {mg : Str → Option Value} {base : Heap}
theorem ans_bool {K : PySem.W.Frag} {H : Hp} {Q : VK} {E : XK} {b : Bool} (k : Ans K H Q E (boolResult b)) : ∀ p H', Same H H' → H p = none → H' p = some (.lst [.int (if b then 1 else 0)]) → Q (.ref p) H' := by
  refine ans_one (v := if b then 1 else 0) k ?_
  split <;> decide
theorem pol_lt {h : Monitor} {i : Nat} (c : isPolicy h i = true) : i < h.policies.length := of_decide_eq_true c
/-- the end of a call that answers 1 or 0 by the sign of a fraction -/
theorem num_dec {x : Rat} : decide ((0 : Int) < x.num) = decide (0 < x) := by rw [decide_eq_decide, num_pos]
def sp_is_detectable (K : PySem.W.Frag) : Sp := fun vs H Q E =>
  ∃ (m sa pa : Addr) (h : Monitor) (i : Nat), vs = [.ref m, .int i] ∧ MonR K H m h sa pa ∧ Good h ∧ Ans K H Q E (run h (.isDetectable i)).2
theorem ok_is_detectable (T : Tx K mg) : Cal P w K mg base (L2.CX P w) 5 "is_detectable" (sp_is_detectable K) := by
  refine (T.d_is_detectable).okX sc_is_detectable bd_is_detectable (fun vs H Q E h => ?_) (fun f cdv A outer s H vs Q E hr h => ?_)
  · obtain ⟨_, _, _, _, _, rfl, _⟩ := h; rfl
  refine ⟨_, (pss_cons (ps_expr (pe_cal (ok_require_policy T) (hr.mono (by decide)) (passes_call (E := E) (W := fun cls d _ H => E cls d H) (takes_of rfl rfl rfl rfl) (fun _ _ _ _ h => h)) (pa_cons (pv 0) (pa_cons (pv 1) pa_nil))))
      (pss_cons (ps_if (pt_cmpR op_gt (pe_ix ixT (pe_cal (ok_detection_of T) (hr.mono (by decide)) pass0 (pa_cons (pv 0) (pa_cons (pv 1) pa_nil))) pe_int (fun _ _ => rfl)) pe_int (nomark _)) (pss_one (ps_ret (pe_lst (pa_cons pe_int pa_nil)))) pss_nil)
      (pss_one (ps_ret (pe_lst (pa_cons pe_int pa_nil)))))), ?_⟩
  obtain ⟨m, sa, pa, h, i, rfl, r, g, k⟩ := h
  have k : Ans K H Q E (if isPolicy h i then boolResult (decide (0 < detectionOf h i)) else single (-2)) := k
  refine ⟨_, rfl, _, rfl, m, sa, pa, h, i, rfl, r, fun hc => ?_, fun hc => ?_⟩
  · rw [hc, if_neg Bool.false_ne_true] at k
    exact ans_no (n := 2) k
  rw [hc, if_pos rfl] at k
  refine ⟨_, rfl, _, rfl, m, sa, pa, h, i, rfl, r, g, pol_lt hc, fun p1 H1 s1 e1 => ?_⟩
  refine ⟨_, _, 0, _, rfl, rfl, e1, rfl, _, _, rfl, rfl, _, rfl, ?_⟩
  rw [← num_dec] at k
  refine ite2 (fun hz => ?_) (fun hz => ?_)
  · have hz2 : decide ((0 : Int) < (detectionOf h i).num) = true := hz
    rw [hz2] at k
    exact ⟨szl, fun p np => ans_bool k p _ (s1.trans (Same.new np)) (s1.free np) upd_same⟩
  · have hz2 : decide ((0 : Int) < (detectionOf h i).num) = false := by simpa using hz
    rw [hz2] at k
    exact ⟨szl, fun p np => ans_bool k p _ (s1.trans (Same.new np)) (s1.free np) upd_same⟩
def sp_policy_detection_probability (K : PySem.W.Frag) : Sp := fun vs H Q E =>
  ∃ (m sa pa : Addr) (h : Monitor) (i n : Nat), vs = [.ref m, .int i, .int n] ∧ MonR K H m h sa pa ∧ Good h ∧ Ans K H Q E (run h (.policyDetectionProbability i n)).2
theorem ok_policy_detection_probability (T : Tx K mg) : Cal P w K mg base (L2.CX P w) 6 "policy_detection_probability" (sp_policy_detection_probability K) := by
  refine (T.d_policy_detection_probability).okX sc_policy_detection_probability bd_policy_detection_probability (fun vs H Q E h => ?_) (fun f cdv A outer s H vs Q E hr h => ?_)
  · obtain ⟨_, _, _, _, _, _, rfl, _⟩ := h; rfl
  refine ⟨_, (pss_cons (ps_expr (pe_cal (ok_require_policy T) (hr.mono (by decide)) (passes_call (E := E) (W := fun cls d _ H => E cls d H) (takes_of rfl rfl rfl rfl) (fun _ _ _ _ h => h)) (pa_cons (pv 0) (pa_cons (pv 1) pa_nil))))
      (pss_cons (ps_expr (pe_cal (ok_require_within T) (hr.mono (by decide)) (passes_call (E := E) (W := fun cls d _ H => E cls d H) (takes_of rfl rfl rfl rfl) (fun _ _ _ _ h => h)) (pa_cons (pv 2) (pa_cons pe_int (pa_cons (pe_gint T.i_MOST_TESTS) pa_nil)))))
      (pss_one (ps_ret (pe_op op_cat (pe_lst (pa_cons pe_int pa_nil)) (pe_callTy listT (by rfl) T.n_list bt_list (pa_cons (pe_cal (ok_detected_by T) (hr.mono (by decide)) pass0 (pa_cons (pe_cal (ok_detection_of T) (hr.mono (by decide)) pass0 (pa_cons (pv 0) (pa_cons (pv 1) pa_nil))) (pa_cons (pv 2) pa_nil))) pa_nil))))))), ?_⟩
  obtain ⟨m, sa, pa, h, i, n, rfl, r, g, k⟩ := h
  have k : Ans K H Q E (if isPolicy h i = false then single (-2) else if 12 < n then single (-22) else fractionResult (detectionIn h i n)) := k
  refine ⟨_, rfl, _, rfl, m, sa, pa, h, i, rfl, r, fun hc => ?_, fun hc => ?_⟩
  · rw [if_pos hc] at k
    exact ans_no (n := 2) k
  rw [if_neg (by rw [hc]; decide)] at k
  refine ⟨_, rfl, n, 0, 12, rfl, fun hn => ?_, fun _ hn => ?_⟩
  · rw [if_pos (by omega)] at k
    exact ans_no (n := 22) k
  rw [if_neg (by omega)] at k
  refine ⟨szl, fun u nu => ?_⟩
  have su := Same.new (o := .lst [V.int 0]) nu
  refine ⟨_, rfl, _, rfl, m, sa, pa, h, i, rfl, r.same su, g, pol_lt hc, fun p1 H1 s1 e1 => ?_⟩
  refine ⟨_, rfl, p1, _, n, rfl, e1, bdDet g i, by omega, fun p2 H2 s2 e2 => ?_⟩
  exact cat_go ((su.trans s1).trans s2) (s2 _ _ (s1 _ _ upd_same)) e2 (by show 1 ≤ 900; decide) (ans_fr k)
theorem find_range {n i : Nat} {F : Nat → Bool} (h0 : ∀ t, t < i → F t = false) (h1 : F i = true) (hi : i < n) : (List.range n).find? F = some i := by
  rw [List.find?_eq_some_iff_getElem]
  refine ⟨h1, i, by rw [List.length_range]; exact hi, by rw [List.getElem_range], fun j hj => ?_⟩
  rw [List.getElem_range, h0 j hj]
  rfl
theorem all_filter (p q : Nat → Bool) : ∀ l : List Nat, (l.filter fun i => !p i).all q = l.all fun i => p i || q i
  | [] => rfl
  | a :: l => by
    have ih := all_filter p q l
    cases h : p a
    · rw [List.filter_cons_of_pos (by simp [h]), List.all_cons, List.all_cons, ih, h, Bool.false_or]
    · rw [List.filter_cons_of_neg (by simp [h]), List.all_cons, ih, h, Bool.true_or, Bool.true_and]
theorem all_map_get (f : Nat → Bool) (l : List Nat) : ((List.range l.length).map fun j => f (l.getD j 0)).all id = l.all f := by
  conv => rhs; rw [← map_getD l]
  rw [List.all_map, List.all_map]
  rfl
def sp_tests_needed (K : PySem.W.Frag) : Sp := fun vs H Q E =>
  ∃ (m sa pa : Addr) (h : Monitor) (a b : Nat), vs = [.ref m, .int a, .int b] ∧ MonR K H m h sa pa ∧ Good h ∧ Ans K H Q E (run h (.testsNeeded a b)).2
theorem ok_tests_needed (T : Tx K mg) : Cal P w K mg base (L2.CX P w) 6 "tests_needed" (sp_tests_needed K) := by
  refine (T.d_tests_needed).okX sc_tests_needed bd_tests_needed (fun vs H Q E h => ?_) (fun f cdv A outer s H vs Q E hr h => ?_)
  · obtain ⟨_, _, _, _, _, _, rfl, _⟩ := h; rfl
  refine ⟨_, (pss_cons (ps_expr (pe_cal (ok_require_fraction T) (hr.mono (by decide)) (passes_call (E := E) (W := fun cls d _ H => E cls d H) (takes_of rfl rfl rfl rfl) (fun _ _ _ _ h => h)) (pa_cons (pv 1) (pa_cons (pv 2) pa_nil))))
      (pss_cons (ps_set (i := 3) sc_tests_needed.nd rfl (Or.inr rfl) (pe_cal (ok_ratio T) (hr.mono (by decide)) pass0 (pa_cons (pv 1) (pa_cons (pv 2) pa_nil))))
      (pss_cons (ps_setLc (i := 4) (own := [("index", 7)]) (g := (gName 7)) rfl sc_tests_needed.nd rfl rfl (sw_true rfl rfl rfl (by decide +kernel)) (pi_list (pe_cal (ok_candidates_of T) (hr.mono (by decide)) pass0 (pa_cons (pv 0) pa_nil))) (blkOk_by (own := [("index", 7)]) (N := ["monitor", "num", "den", "wanted", "cheaters", "detections", "tests", "index", "detection"]) (sc := defScope s_tests_needed) (by decide +kernel)) (fun _ _ _ _ _ => (pg_name (i := 7) sc_tests_needed.nd rfl (Or.inl rfl))) (fun _ _ _ _ _ => (pts_one (pt_cmpR neI (pe_fldC T.c_Policy T.a_Policy_cheat_set (pe_ix ixL (pe_fldC T.c_Monitor T.a_Monitor_policies (pv 0)) (pv 7) (fun _ _ => rfl))) pe_int (nomark _)))) (fun _ _ _ _ _ => (pv 7)))
      (pss_cons (ps_setLc (i := 5) (own := [("index", 7)]) (g := (gName 7)) (tt := tYes) rfl sc_tests_needed.nd rfl rfl (sw_true rfl rfl rfl (by decide +kernel)) (pi_list (pv 4)) (blkOk_by (own := [("index", 7)]) (N := ["monitor", "num", "den", "wanted", "cheaters", "detections", "tests", "index", "detection"]) (sc := defScope s_tests_needed) (by decide +kernel)) (fun _ _ _ _ _ => (pg_name (i := 7) sc_tests_needed.nd rfl (Or.inl rfl))) (fun _ _ _ _ _ => pts_nil) (fun _ _ _ _ _ => (pe_cal (ok_detection_of T) (hr.mono (by decide)) pass0 (pa_cons (pv 0) (pa_cons (pv 7) pa_nil)))))
      (pss_cons (ps_for (passes_of rfl) rfl (pi_range1 rfl T.n_range (pa_cons (pe_op op_add (pe_gint T.i_MOST_TESTS) pe_int) pa_nil)) (pg_name (i := 6) sc_tests_needed.nd rfl (Or.inr rfl)) (pss_one (ps_if (pt_val (pe_callB (cr_all rfl) (by rfl) T.n_all bt_all (pa_cons (pe_lc (own := [("detection", 8)]) (g := (gName 8)) (tt := tYes) rfl sc_tests_needed.nd (pi_list (pv 5)) (blkOk_by (own := [("detection", 8)]) (N := ["monitor", "num", "den", "wanted", "cheaters", "detections", "tests", "index", "detection"]) (sc := defScope s_tests_needed) (by decide +kernel)) (fun _ _ _ _ _ => (pg_name (i := 8) sc_tests_needed.nd rfl (Or.inl rfl))) (fun _ _ _ _ _ => pts_nil) (fun _ _ _ _ _ => (pe_cal (ok_at_most T) (hr.mono (by decide)) pass0 (pa_cons (pv 3) (pa_cons (pe_cal (ok_detected_by T) (hr.mono (by decide)) pass0 (pa_cons (pv 8) (pa_cons (pv 6) pa_nil))) pa_nil))))) pa_nil))) (pss_one (ps_ret (pe_lst (pa_cons (pv 6) pa_nil)))) pss_nil)))
      (pss_one (ps_raiseR rfl T.ref T.r_NoValue hr (W := fun cls d _ H => E cls d H) (takes_of rfl rfl rfl rfl)))))))), ?_⟩
  obtain ⟨m, sa, pa, h, a, b, rfl, r, g, k⟩ := h
  have k : Ans K H Q E (if Kp415.validFraction a b = false then single (-22) else match (List.range 13).find? fun tests => (Kp417.candidates h).all fun i => (policyAt h i).cheatSet == 0 || decide (Kp415.toRat a b ≤ detectionIn h i tests) with | none => single (-33) | some tests => single (tests : Nat)) := k
  refine ⟨_, rfl, _, rfl, a, b, rfl, fun hc => ?_, fun hc => ?_⟩
  · rw [if_pos hc] at k
    exact ans_no (n := 22) k
  rw [if_neg (by rw [hc]; decide)] at k
  have hv : a ≤ b ∧ 1 ≤ b ∧ b ≤ 99 := by
    unfold Kp415.validFraction at hc
    simpa [and_assoc] using hc
  refine ⟨_, rfl, _, rfl, a, b, rfl, by omega, lt8000 (by omega), fun p0 H0 s0 e0 => ?_⟩
  have bw : Bd (mkRat (a : Int) b) 12 := bd_mk (by rw [Int.natAbs_natCast]; omega) (by omega) (by omega)
  have er : Kp415.toRat a b = mkRat (a : Int) b := by unfold Kp415.toRat; rw [nat_div]
  rw [er] at k
  have n6 := g.p6
  have cl := cand_len h
  have sA := s0
  refine ⟨_, rfl, m, sa, pa, h, rfl, r.same sA, g, fun p1 H1 s1 e1 => ?_⟩
  have sB := sA.trans s1
  -- cheaters
  refine ⟨p1, rfl, ⟨_, SqL.of e1⟩, fun D nD => ?_⟩
  refine lc_val (walk_list (xs := natL (Kp417.candidates h))) (fun j => if (!((policyAt h ((Kp417.candidates h).getD j 0)).cheatSet == 0)) = true then some (V.int (((Kp417.candidates h).getD j 0 : Nat) : Int)) else none) (by rw [natL_len]; omega) nD (fun H' st => SqL.of (st _ _ e1)) ?_ ?_
  · rintro i x H2 H3 Kt Kf hi st ⟨rfl, hx⟩ kT kF
    rw [natL_len] at hi
    rw [natL_at hi] at hx
    cases hx
    obtain ⟨dm, la, dx, tw, pw, pv, ps, es, h1, h2, h3, h4, h5, h6, h7, h8, h9, n1, n2, n3⟩ := (r.same (sB.trans st)).ex
    obtain ⟨p, dp, e2, e3⟩ := pol_at h6 (cand_lt (List.getElem_mem hi))
    rw [← getD_mem hi] at e2 e3
    refine ⟨rfl, _, rfl, _, _, _, _, rfl, h1, rfl, _, rfl, _, _, _, _, rfl, rfl, h5, e2, _, _, _, _, rfl, e3, rfl, _, _, rfl, rfl, _, rfl, ?_⟩
    have ez : (!decide (((policyAt h ((Kp417.candidates h).getD i 0)).cheatSet : Int) = 0)) = (!((policyAt h ((Kp417.candidates h).getD i 0)).cheatSet == 0)) := by
      congr 1
      rw [Bool.eq_iff_iff, decide_eq_true_eq, beq_iff_eq]
      omega
    show if (!decide (((policyAt h ((Kp417.candidates h).getD i 0)).cheatSet : Int) = 0)) = true then _ else _
    rw [ez]
    refine ite2 (fun hz => ?_) (fun hz => ?_)
    · exact ⟨_, rfl, kT _ _ (Same.refl _) (by rw [if_pos hz])⟩
    · exact kF _ (Same.refl _) (by rw [if_neg hz])
  intro H2 s2 hD
  rw [natL_len, fmap_get (fun i => !((policyAt h i).cheatSet == 0))] at hD
  generalize ech : (Kp417.candidates h).filter (fun i => !((policyAt h i).cheatSet == 0)) = ch at hD
  have chl : ch.length ≤ 6 := by
    rw [← ech]
    exact Nat.le_trans (List.length_filter_le _ _) (by omega)
  have chm : ∀ x ∈ ch, x < h.policies.length := fun x hx => by
    rw [← ech] at hx
    exact cand_lt (List.mem_filter.mp hx).1
  have sC := sB.trans s2
  -- detections
  refine ⟨_, rfl, D, rfl, ⟨_, SqL.of hD⟩, fun D2 nD2 => ?_⟩
  refine lc_fr (walk_list (xs := natL ch)) (fun j => detectionOf h (ch.getD j 0)) (by rw [natL_len]; omega) nD2 (fun H' st => SqL.of (st _ _ hD)) ?_ ?_
  · rintro i x H3 H4 Kt hi st ⟨rfl, hx⟩ kT
    rw [natL_len] at hi
    rw [natL_at hi] at hx
    cases hx
    exact ⟨rfl, _, rfl, _, rfl, m, sa, pa, h, _, rfl, r.same (sC.trans st), g, by rw [getD_mem hi]; exact chm _ (List.getElem_mem hi), fun p2 H5 s5 e5 => kT p2 H5 s5 e5⟩
  intro H3 ps s3 hD2 pl pf
  rw [natL_len] at pl
  have sD := sC.trans s3
  have eF : ∀ t, ((Kp417.candidates h).all fun i => (policyAt h i).cheatSet == 0 || decide (mkRat (a : Int) b ≤ detectionIn h i t)) = ch.all fun i => decide (mkRat (a : Int) b ≤ detectionIn h i t) := fun t => by
    rw [← ech, all_filter (fun i => (policyAt h i).cheatSet == 0)]
  simp only [eF] at k
  refine ⟨_, _, rfl, rfl, 13, rfl, by decide, by decide, for_it (walk_r0 (n := 13)) (fun i σ H' => (∃ v1 : Option V, σ = [some (.ref m), some (.int a), some (.int b), some (.ref p0), some (.ref D), some (.ref D2), v1, none, none]) ∧ Same H3 H' ∧ ∀ t, t < i → (ch.all fun i => decide (mkRat (a : Int) b ≤ detectionIn h i t)) = false)
    ⟨⟨none, rfl⟩, Same.refl _, fun t ht => absurd ht (Nat.not_lt_zero _)⟩ (fun _ _ _ _ _ => trivial) ?_ ?_⟩
  · rintro i x σ H4 H5 hi ⟨⟨v1, rfl⟩, s4, hf⟩ ⟨rfl, rfl⟩
    have sE := sD.trans s4
    refine ⟨_, rfl, D2, rfl, ⟨_, SqL.of (s4 _ _ hD2)⟩, fun D3 nD3 => ?_⟩
    refine lc_val (walk_list (xs := ps.map V.ref)) (fun j => some (V.bl (decide (mkRat (a : Int) b ≤ detectionIn h (ch.getD j 0) i)))) (by rw [List.length_map, pl]; omega) nD3 (fun H' st => SqL.of (st _ _ (s4 _ _ hD2))) ?_ ?_
    · rintro j x H6 H7 Kt Kf hj st ⟨rfl, hx⟩ kT kF
      rw [List.length_map, pl] at hj
      rw [List.getElem?_map] at hx
      obtain ⟨q, hq, rfl⟩ := Option.map_eq_some_iff.mp hx
      have ej := st _ _ (s4 _ _ (pf j q hq))
      refine ⟨rfl, iteT (B := Kf H7) ?_⟩
      refine ⟨_, rfl, _, rfl, _, rfl, q, _, i, rfl, ej, bdDet g _, by omega, fun p6 H8 s8 e8 => ?_⟩
      have b1 := bw.mono (show 12 ≤ 4000 by decide)
      have b2 := (bdIn (bdDet g (ch.getD j 0)) (show i ≤ 12 by omega)).mono (show 200 ≤ 4000 by decide)
      refine ⟨p0, p6, _, _, _, _, rfl, s8 _ _ (st _ _ (s4 _ _ (s3 _ _ (s2 _ _ (s1 _ _ e0))))), e8, b1.1, b2.1, b1.2, b2.2, ?_⟩
      refine kT _ _ s8 ?_
      show some (V.bl (decide (mkRat (a : Int) b ≤ detectionIn h (ch.getD j 0) i))) = _
      have e : decide (mkRat (a : Int) b ≤ detectionIn h (ch.getD j 0) i) = decide ((mkRat (a : Int) b).num * ((1 - (1 - detectionOf h (ch.getD j 0)) ^ i).den : Int) ≤ (1 - (1 - detectionOf h (ch.getD j 0)) ^ i).num * ((mkRat (a : Int) b).den : Int)) := by
        rw [decide_eq_decide]
        exact Rat.le_iff _ _
      rw [e]
    · intro H6 s6 hD3
      rw [List.length_map, pl, List.filterMap_eq_map'] at hD3
      refine ⟨D3, (List.range ch.length).map fun j => decide (mkRat (a : Int) b ≤ detectionIn h (ch.getD j 0) i), rfl, SqL.of (by rw [hD3, List.map_map]; rfl), _, rfl, ?_⟩
      rw [all_map_get (fun x => decide (mkRat (a : Int) b ≤ detectionIn h x i))]
      refine ite2 (fun hz => ?_) (fun hz => ?_)
      · rw [find_range hf hz hi] at k
        refine ⟨_, rfl, szl, fun p np => ?_⟩
        exact ans_one k (Int.natCast_nonneg _) p _ (((sD.trans s4).trans s6).trans (Same.new np)) (((sD.trans s4).trans s6).free np) upd_same
      · refine ⟨⟨_, rfl⟩, s4.trans s6, fun t ht => ?_⟩
        by_cases e : t = i
        · subst e
          simpa using hz
        · exact hf t (by omega)
  · rintro σ H4 ⟨⟨v1, rfl⟩, s4, hf⟩
    have en : ((List.range 13).find? fun t => ch.all fun i => decide (mkRat (a : Int) b ≤ detectionIn h i t)) = none := by
      rw [List.find?_eq_none]
      intro x hx
      rw [hf x (List.mem_range.mp hx)]
      exact Bool.false_ne_true
    rw [en] at k
    exact rs_go "NoValue" ((ans_no (n := 33) k).same (sD.trans s4)) rf_NoValue
theorem cont_xor (a b s : Nat) : Kp415.contains (a ^^^ b) s = (Kp415.contains a s != Kp415.contains b s) := by
  have e : ∀ x, Kp415.contains x s = x.testBit s := fun x => by
    unfold Kp415.contains
    rw [Nat.testBit_eq_decide_div_mod_eq, Bool.eq_iff_iff]
    simp
  rw [e, e, e, Nat.testBit_xor]
theorem sum_pos_iff : ∀ l : List Nat, 0 < l.sum ↔ ∃ x ∈ l, 0 < x
  | [] => by simp
  | a :: l => by
    have ih := sum_pos_iff l
    rw [List.sum_cons]
    constructor
    · intro h
      by_cases ha : 0 < a
      · exact ⟨a, List.mem_cons_self .., ha⟩
      · obtain ⟨x, hx, h0⟩ := ih.mp (by omega)
        exact ⟨x, List.mem_cons_of_mem _ hx, h0⟩
    · rintro ⟨x, hx, h0⟩
      rcases List.mem_cons.mp hx with e | e
      · omega
      · have := ih.mpr ⟨x, e, h0⟩
        omega
theorem mk_pos {n d : Nat} (hd : d ≠ 0) : (0 < (mkRat (n : Int) d).num) ↔ 0 < n := by
  rw [mk_num hd, Int.natAbs_natCast]
  have g0 : 0 < Nat.gcd n d := Nat.gcd_pos_of_pos_right _ (Nat.pos_of_ne_zero hd)
  constructor
  · intro h
    rcases Nat.eq_zero_or_pos n with e | e
    · subst e
      simp at h
    · exact e
  · intro h
    have hle : Nat.gcd n d ≤ n := Nat.gcd_le_left _ h
    have := Nat.div_pos hle g0
    rw [← Int.natCast_ediv]
    omega
theorem share_sign (ws : List Nat) (c : Nat) (hw : ws.sum ≠ 0) : decide ((0 : Int) < (Kp415.setShare ws c).num) = (List.range ws.length).any fun s => decide (0 < ws.getD s 0) && Kp415.contains c s := by
  rw [setShare_mk, Bool.eq_iff_iff, decide_eq_true_eq, mk_pos hw, sum_pos_iff, List.any_eq_true]
  unfold inside
  constructor
  · rintro ⟨x, hx, h0⟩
    obtain ⟨s, hs, rfl⟩ := List.mem_map.mp hx
    obtain ⟨h1, h2⟩ := List.mem_filter.mp hs
    exact ⟨s, h1, by rw [Bool.and_eq_true, decide_eq_true_eq]; exact ⟨h0, h2⟩⟩
  · rintro ⟨s, hs, h0⟩
    rw [Bool.and_eq_true, decide_eq_true_eq] at h0
    exact ⟨_, List.mem_map.mpr ⟨s, List.mem_filter.mpr ⟨hs, h0.2⟩, rfl⟩, h0.1⟩
def sp_are_distinguishable (K : PySem.W.Frag) : Sp := fun vs H Q E =>
  ∃ (m sa pa : Addr) (h : Monitor) (i j : Nat), vs = [.ref m, .int i, .int j] ∧ MonR K H m h sa pa ∧ Good h ∧ Ans K H Q E (run h (.areDistinguishable i j)).2
theorem ok_are_distinguishable (T : Tx K mg) : Cal P w K mg base (L2.CX P w) 4 "are_distinguishable" (sp_are_distinguishable K) := by
  refine (T.d_are_distinguishable).okX sc_are_distinguishable bd_are_distinguishable (fun vs H Q E h => ?_) (fun f cdv A outer s H vs Q E hr h => ?_)
  · obtain ⟨_, _, _, _, _, _, rfl, _⟩ := h; rfl
  refine ⟨_, (pss_cons (ps_expr (pe_cal (ok_require_policy T) (hr.mono (by decide)) (passes_call (E := E) (W := fun cls d _ H => E cls d H) (takes_of rfl rfl rfl rfl) (fun _ _ _ _ h => h)) (pa_cons (pv 0) (pa_cons (pv 1) pa_nil))))
      (pss_cons (ps_expr (pe_cal (ok_require_policy T) (hr.mono (by decide)) (passes_call (E := E) (W := fun cls d _ H => E cls d H) (takes_of rfl rfl rfl rfl) (fun _ _ _ _ h => h)) (pa_cons (pv 0) (pa_cons (pv 2) pa_nil))))
      (pss_cons (ps_set (i := 3) sc_are_distinguishable.nd rfl (Or.inl rfl) (pe_op op_xor (pe_fldC T.c_Policy T.a_Policy_cheat_set (pe_ix ixL (pe_fldC T.c_Monitor T.a_Monitor_policies (pv 0)) (pv 1) (fun _ _ => rfl))) (pe_fldC T.c_Policy T.a_Policy_cheat_set (pe_ix ixL (pe_fldC T.c_Monitor T.a_Monitor_policies (pv 0)) (pv 2) (fun _ _ => rfl)))))
      (pss_cons (ps_if (pt_cmpR op_gt (pe_ix ixT (pe_cal (ok_share_of_set T) (hr.mono (by decide)) pass0 (pa_cons (pe_fldC T.c_Setting T.a_Setting_test_weights (pe_fldC T.c_Monitor T.a_Monitor_setting (pv 0))) (pa_cons (pv 3) pa_nil))) pe_int (fun _ _ => rfl)) pe_int (nomark _)) (pss_one (ps_ret (pe_lst (pa_cons pe_int pa_nil)))) pss_nil)
      (pss_one (ps_ret (pe_lst (pa_cons pe_int pa_nil)))))))), ?_⟩
  obtain ⟨m, sa, pa, h, i, j, rfl, r, g, k⟩ := h
  have k : Ans K H Q E (if isPolicy h i && isPolicy h j then boolResult (Kp417.distinguishable h i j) else single (-2)) := k
  refine ⟨_, rfl, _, rfl, m, sa, pa, h, i, rfl, r, fun hc => ?_, fun hc => ?_⟩
  · rw [hc, Bool.false_and, if_neg Bool.false_ne_true] at k
    exact ans_no (n := 2) k
  refine ⟨_, rfl, _, rfl, m, sa, pa, h, j, rfl, r, fun hd => ?_, fun hd => ?_⟩
  · rw [hd, Bool.and_false, if_neg Bool.false_ne_true] at k
    exact ans_no (n := 2) k
  rw [hc, hd, Bool.true_and, if_pos rfl] at k
  obtain ⟨dm, la, dx, tw, pw, pv, ps, es, h1, h2, h3, h4, h5, h6, h7, h8, h9, n1, n2, n3⟩ := r.ex
  obtain ⟨p, dp, e2, e3⟩ := pol_at h6 (pol_lt hc)
  obtain ⟨p', dp', e4, e5⟩ := pol_at h6 (pol_lt hd)
  refine ⟨_, rfl, _, _, _, _, rfl, h1, rfl, _, rfl, _, _, _, _, rfl, rfl, h5, e2, _, _, _, _, rfl, e3, rfl, _, rfl, _, _, _, _, rfl, h1, rfl, _, rfl, _, _, _, _, rfl, rfl, h5, e4, _, _, _, _, rfl, e5, rfl, _, _, rfl, rfl, ?_⟩
  have ex : Builtin.bitXor ((policyAt h i).cheatSet : Int) ((policyAt h j).cheatSet : Int) = (((policyAt h i).cheatSet ^^^ (policyAt h j).cheatSet : Nat) : Int) := by
    rw [Bits.bitXor_pp (Int.natCast_nonneg _) (Int.natCast_nonneg _), Int.toNat_natCast, Int.toNat_natCast]
  refine ⟨_, rfl, _, _, _, _, rfl, h1, rfl, _, _, _, _, rfl, h2, rfl, _, rfl, tw, h.setting.model.testWeights, (policyAt h i).cheatSet ^^^ (policyAt h j).cheatSet, ?_, h3, twOk g.s, g.s.n5, fun p1 H1 s1 e1 => ?_⟩
  · show [V.ref tw, V.int (Builtin.bitXor _ _)] = _
    rw [ex]
  refine ⟨_, _, 0, _, rfl, rfl, e1, rfl, _, _, rfl, rfl, _, rfl, ?_⟩
  have ed : Kp417.distinguishable h i j = decide ((0 : Int) < (Kp415.setShare h.setting.model.testWeights ((policyAt h i).cheatSet ^^^ (policyAt h j).cheatSet)).num) := by
    rw [share_sign _ _ g.s.tw.pos]
    unfold Kp417.distinguishable
    congr 1
    funext s
    rw [cont_xor]
  rw [ed] at k
  refine ite2 (fun hz => ?_) (fun hz => ?_)
  · rw [show decide ((0 : Int) < (Kp415.setShare h.setting.model.testWeights ((policyAt h i).cheatSet ^^^ (policyAt h j).cheatSet)).num) = true from hz] at k
    exact ⟨szl, fun p np => ans_bool k p _ (s1.trans (Same.new np)) (s1.free np) upd_same⟩
  · rw [show decide ((0 : Int) < (Kp415.setShare h.setting.model.testWeights ((policyAt h i).cheatSet ^^^ (policyAt h j).cheatSet)).num) = false by simpa using hz] at k
    exact ⟨szl, fun p np => ans_bool k p _ (s1.trans (Same.new np)) (s1.free np) upd_same⟩
end
end PW
set_option Elab.async false
set_option linter.all false
set_option maxRecDepth 100000
set_option maxHeartbeats 4000000
/-! Settings that differ, deterrence: state, variants, deterrence, rational_calls, deterrence_calls. -/
namespace PW
open PySem PySem.Spec PyProof.Rows L2
open Kp415 (signalCount priorTest testShare productionShare jointTest jointProduction)
open Kp416 (cheatingSignals cheatingValue)
/-- all but x as it was -/
def Kp (x : Addr) (H H' : Hp) : Prop := ∀ b o, H b = some o → b ≠ x → H' b = some o
theorem Kp.st {x : Addr} {H H1 : Hp} {o : HO} (k : Kp x H H1) : Kp x H (upd H1 x o) := fun b u e n => by rw [upd_ne n]; exact k b u e n
theorem Kp.mk {x p : Addr} {H H1 : Hp} {o : HO} (k : Kp x H H1) (n : H1 p = none) : Kp x H (upd H1 p o) := fun b u e m => Same.new n b u (k b u e m)
theorem Kp.refl (x : Addr) (H : Hp) : Kp x H H := fun _ _ e _ => e
theorem szs {fs : List (Str × V)} (h : Nat.ble (fs.length + 1) 1000 = true := by rfl) : fs.length < 1000 := Nat.lt_of_succ_le (Nat.le_of_ble_eq_true h)
theorem rep_ones (n : Nat) : (List.replicate ((n : Int)).toNat [V.int 1]).flatten = natL (List.replicate n 1) := by
  rw [Int.toNat_natCast]
  induction n with
  | zero => rfl
  | succ n ih => rw [List.replicate_succ, List.flatten_cons, ih, List.replicate_succ]; rfl
section
variable {P : Program} {w : World} {K : PySem.W.Frag} {mg : Str → Option Value} {base : Heap}
def sp_Setting_init (K : PySem.W.Frag) : Sp := fun vs H Q E =>
  ∃ (x dx : Addr) (n : Nat), vs = [.ref x, .int n] ∧ H x = some (.ins (gad K "Setting") dx []) ∧ n ≤ 5 ∧ ∀ H' tw pw, Kp x H H' → H tw = none → H pw = none → H' x = some (.ins (gad K "Setting") dx (setFs n tw pw 1 2 1 1 1 1)) →
    H' tw = some (.lst (natL (List.replicate n 1))) → H' pw = some (.lst (natL (List.replicate n 1))) → Q .non H'
theorem mk_Setting (T : Tx K mg) : CalM P w K mg base 1 "Setting" (gad K "Setting") (sp_Setting_init K) := by
  refine (T.m_Setting).ok sc_Setting_init bd_Setting_init (fun vs H Q E h => ?_) (fun f cdv A outer s H vs Q E hr h => ?_)
  · obtain ⟨_, _, _, rfl, _⟩ := h; rfl
  refine ⟨_, (pss_cons (ps_fldC T.c_Setting T.a_Setting_signal_count (pv 0) (pv 1))
      (pss_cons (ps_fldC T.c_Setting T.a_Setting_test_weights (pv 0) (pe_op op_rep (pe_lst (pa_cons pe_int pa_nil)) (pv 1)))
      (pss_cons (ps_fldC T.c_Setting T.a_Setting_production_weights (pv 0) (pe_op op_rep (pe_lst (pa_cons pe_int pa_nil)) (pv 1)))
      (pss_cons (ps_fldC T.c_Setting T.a_Setting_prior_num (pv 0) pe_int)
      (pss_cons (ps_fldC T.c_Setting T.a_Setting_prior_den (pv 0) pe_int)
      (pss_cons (ps_fldC T.c_Setting T.a_Setting_gain (pv 0) pe_int)
      (pss_cons (ps_fldC T.c_Setting T.a_Setting_loss (pv 0) pe_int)
      (pss_cons (ps_fldC T.c_Setting T.a_Setting_harm_price (pv 0) pe_int)
      (pss_one (ps_fldC T.c_Setting T.a_Setting_test_price (pv 0) pe_int)))))))))), ?_⟩
  obtain ⟨x, dx, n, rfl, hx, hn, k⟩ := h
  refine ⟨_, rfl, _, rfl, _, _, _, rfl, hx, szs, ?_⟩
  have k1 := (Kp.refl x H).st (o := .ins (gad K "Setting") dx (putF "signal_count" (V.int (n : Int)) []))
  refine ⟨szl, fun u nu => ?_⟩
  have k2 := k1.mk (o := .lst [V.int 1]) nu
  have x2 := Same.new (o := .lst [V.int 1]) nu _ _ (upd_same (H := H) (a := x) (o := .ins (gad K "Setting") dx (putF "signal_count" (V.int (n : Int)) [])))
  refine ⟨_, rfl, _, _, _, rfl, rfl, upd_same, by omega, by omega, Nat.le_trans (show 1 * ((n : Int)).toNat ≤ 5 by omega) (by decide), fun tw nt => ?_⟩
  rw [rep_ones]
  have k3 := k2.mk (o := .lst (natL (List.replicate n 1))) nt
  have x3 := Same.new (o := .lst (natL (List.replicate n 1))) nt _ _ x2
  have tx : tw ≠ x := fun e => by rw [e] at nt; rw [nt] at x2; cases x2
  refine ⟨_, rfl, _, _, _, rfl, x3, szs, ?_⟩
  have k4 := k3.st (o := .ins (gad K "Setting") dx (putF "test_weights" (V.ref tw) (putF "signal_count" (V.int (n : Int)) [])))
  generalize h3 : upd (upd (upd H x (.ins (gad K "Setting") dx (putF "signal_count" (V.int (n : Int)) []))) u (.lst [V.int 1])) tw (.lst (natL (List.replicate n 1))) = H3 at *
  have t3 : H3 tw = some (.lst (natL (List.replicate n 1))) := by rw [← h3]; exact upd_same
  have f3 : ∀ {b : Addr}, H3 b = none → H b = none := fun {b} e => by
    cases q : H b with
    | none => rfl
    | some o =>
      by_cases hb : b = x
      · rw [hb, x3] at e; cases e
      · rw [k3 b o q hb] at e; cases e
  have ft : H tw = none := by
    cases q : H tw with
    | none => rfl
    | some o =>
      have := k2 tw o q tx
      rw [nt] at this
      cases this
  refine ⟨szl, fun u2 nu2 => ?_⟩
  have k5 := k4.mk (o := .lst [V.int 1]) nu2
  have x5 := Same.new (o := .lst [V.int 1]) nu2 _ _ (upd_same (H := H3) (a := x) (o := .ins (gad K "Setting") dx (putF "test_weights" (V.ref tw) (putF "signal_count" (V.int (n : Int)) []))))
  have t5 := Same.new (o := .lst [V.int 1]) nu2 _ _ ((upd_ne tx).trans t3)
  refine ⟨_, rfl, _, _, _, rfl, rfl, upd_same, by omega, by omega, Nat.le_trans (show 1 * ((n : Int)).toNat ≤ 5 by omega) (by decide), fun pw np => ?_⟩
  rw [rep_ones]
  have k6 := k5.mk (o := .lst (natL (List.replicate n 1))) np
  have x6 := Same.new (o := .lst (natL (List.replicate n 1))) np _ _ x5
  have t6 := Same.new (o := .lst (natL (List.replicate n 1))) np _ _ t5
  have px : pw ≠ x := fun e => by rw [e] at np; rw [np] at x5; cases x5
  have fp : H pw = none := by
    cases q : H pw with
    | none => rfl
    | some o =>
      have := k5 pw o q px
      rw [np] at this
      cases this
  refine ⟨_, rfl, _, _, _, rfl, x6, szs, _, rfl, _, _, _, rfl, upd_same, szs, _, rfl, _, _, _, rfl, upd_same, szs, _, rfl, _, _, _, rfl, upd_same, szs, _, rfl, _, _, _, rfl, upd_same, szs, _, rfl, _, _, _, rfl, upd_same, szs, _, rfl, _, _, _, rfl, upd_same, szs, ?_⟩
  refine k _ tw pw k6.st.st.st.st.st.st.st ft fp ?_ ?_ ?_
  · rw [upd_same]
    rfl
  · repeat rw [upd_ne tx]
    exact t6
  · repeat rw [upd_ne px]
    exact upd_same
def sp_Policy_init (K : PySem.W.Frag) : Sp := fun vs H Q E =>
  ∃ (x dx : Addr) (c wt : Nat), vs = [.ref x, .int c, .int wt] ∧ H x = some (.ins (gad K "Policy") dx []) ∧ ∀ H', Kp x H H' → H' x = some (.ins (gad K "Policy") dx (polFs ⟨c, wt⟩)) → Q .non H'
theorem mk_Policy (T : Tx K mg) : CalM P w K mg base 1 "Policy" (gad K "Policy") (sp_Policy_init K) := by
  refine (T.m_Policy).ok sc_Policy_init bd_Policy_init (fun vs H Q E h => ?_) (fun f cdv A outer s H vs Q E hr h => ?_)
  · obtain ⟨_, _, _, _, rfl, _⟩ := h; rfl
  refine ⟨_, (pss_cons (ps_fldC T.c_Policy T.a_Policy_cheat_set (pv 0) (pv 1))
      (pss_one (ps_fldC T.c_Policy T.a_Policy_weight (pv 0) (pv 2)))), ?_⟩
  obtain ⟨x, dx, c, wt, rfl, hx, k⟩ := h
  refine ⟨_, rfl, _, rfl, _, _, _, rfl, hx, szs, _, rfl, _, rfl, _, _, _, rfl, upd_same, szs, ?_⟩
  refine k _ (Kp.refl x H).st.st ?_
  rw [upd_same]
  rfl
def sp_Monitor_init (K : PySem.W.Frag) : Sp := fun vs H Q E =>
  ∃ (x dx : Addr), vs = [.ref x] ∧ H x = some (.ins (gad K "Monitor") dx []) ∧ ∀ H' pa la, Kp x H H' → H pa = none → H la = none → pa ≠ la → H' x = some (.ins (gad K "Monitor") dx (monFs .non pa la .non)) → H' pa = some (.lst []) → H' la = some (.lst []) → Q .non H'
theorem mk_Monitor (T : Tx K mg) : CalM P w K mg base 1 "Monitor" (gad K "Monitor") (sp_Monitor_init K) := by
  refine (T.m_Monitor).ok sc_Monitor_init bd_Monitor_init (fun vs H Q E h => ?_) (fun f cdv A outer s H vs Q E hr h => ?_)
  · obtain ⟨_, _, rfl, _⟩ := h; rfl
  refine ⟨_, (pss_cons (ps_fldC T.c_Monitor T.a_Monitor_setting (pv 0) pe_non)
      (pss_cons (ps_fldC T.c_Monitor T.a_Monitor_policies (pv 0) (pe_lst pa_nil))
      (pss_cons (ps_fldC T.c_Monitor T.a_Monitor_log (pv 0) (pe_lst pa_nil))
      (pss_one (ps_fldC T.c_Monitor T.a_Monitor_permit (pv 0) pe_non))))), ?_⟩
  obtain ⟨x, dx, rfl, hx, k⟩ := h
  refine ⟨_, rfl, _, _, _, rfl, hx, szs, szl, fun pa np => ?_⟩
  have k1 := (Kp.refl x H).st (o := .ins (gad K "Monitor") dx (putF "setting" V.non []))
  have k2 := k1.mk (o := .lst []) np
  have x2 := Same.new (o := .lst []) np _ _ (upd_same (H := H) (a := x) (o := .ins (gad K "Monitor") dx (putF "setting" V.non [])))
  have px : pa ≠ x := fun e => by rw [e, upd_same] at np; cases np
  have fp : H pa = none := by rw [upd_ne px] at np; exact np
  refine ⟨_, rfl, _, _, _, rfl, x2, szs, szl, fun la nl => ?_⟩
  have k4 := (k2.st (o := .ins (gad K "Monitor") dx (putF "policies" (V.ref pa) (putF "setting" V.non [])))).mk (o := .lst []) nl
  have x4 := Same.new (o := .lst []) nl _ _ (upd_same (a := x) (o := .ins (gad K "Monitor") dx (putF "policies" (V.ref pa) (putF "setting" V.non []))))
  have p4 := Same.new (o := .lst []) nl _ _ ((upd_ne px).trans upd_same)
  have lx : la ≠ x := fun e => by rw [e, upd_same] at nl; cases nl
  have lp : la ≠ pa := fun e => by rw [e, upd_ne px, upd_same] at nl; cases nl
  have fl : H la = none := by rw [upd_ne lx, upd_ne lp, upd_ne lx] at nl; exact nl
  refine ⟨_, rfl, _, _, _, rfl, x4, szs, _, rfl, _, _, _, rfl, upd_same, szs, ?_⟩
  refine k _ pa la k4.st.st fp fl (Ne.symm lp) ?_ ?_ ?_
  · rw [upd_same]
    rfl
  · repeat rw [upd_ne px]
    exact p4
  · repeat rw [upd_ne lx]
    exact upd_same
theorem made_same {x dx C : Addr} {H H1 : Hp} (nx : H x = none) (nd : H dx = none) (k : Kp x (upd (upd H dx (.own x)) x (.ins C dx [])) H1) : Same H H1 := fun b o e => by
  have hx : b ≠ x := ne_of_none e nx
  refine k b o ?_ hx
  rw [upd_ne hx, upd_ne (ne_of_none e nd)]
  exact e
def sp_copy_of (K : PySem.W.Frag) : Sp := fun vs H Q E =>
  ∃ (a : Addr) (s : Kp416.Setting), vs = [.ref a] ∧ SetR K H a s ∧ signalCount s.model ≤ 5 ∧ ∀ p H', Same H H' → H p = none → SetR K H' p s → Q (.ref p) H'
theorem ok_copy_of (T : Tx K mg) : Cal P w K mg base CX0 3 "copy_of" (sp_copy_of K) := by
  refine (T.d_copy_of).ok0 sc_copy_of bd_copy_of (fun vs H Q E h => ?_) (fun f cdv A outer s H vs Q E hr h => ?_)
  · obtain ⟨_, _, rfl, _⟩ := h; rfl
  refine ⟨_, (pss_cons (ps_set (i := 1) sc_copy_of.nd rfl (Or.inl rfl) (pe_mk (mk_Setting T) (hr.mono (by decide)) (pa_cons (pe_fldC T.c_Setting T.a_Setting_signal_count (pv 0)) pa_nil)))
      (pss_cons (ps_fldC T.c_Setting T.a_Setting_test_weights (pv 1) (pe_callTy listL (by rfl) T.n_list bt_list (pa_cons (pe_fldC T.c_Setting T.a_Setting_test_weights (pv 0)) pa_nil)))
      (pss_cons (ps_fldC T.c_Setting T.a_Setting_production_weights (pv 1) (pe_callTy listL (by rfl) T.n_list bt_list (pa_cons (pe_fldC T.c_Setting T.a_Setting_production_weights (pv 0)) pa_nil)))
      (pss_cons (ps_fldC T.c_Setting T.a_Setting_prior_num (pv 1) (pe_fldC T.c_Setting T.a_Setting_prior_num (pv 0)))
      (pss_cons (ps_fldC T.c_Setting T.a_Setting_prior_den (pv 1) (pe_fldC T.c_Setting T.a_Setting_prior_den (pv 0)))
      (pss_cons (ps_fldC T.c_Setting T.a_Setting_gain (pv 1) (pe_fldC T.c_Setting T.a_Setting_gain (pv 0)))
      (pss_cons (ps_fldC T.c_Setting T.a_Setting_loss (pv 1) (pe_fldC T.c_Setting T.a_Setting_loss (pv 0)))
      (pss_cons (ps_fldC T.c_Setting T.a_Setting_harm_price (pv 1) (pe_fldC T.c_Setting T.a_Setting_harm_price (pv 0)))
      (pss_cons (ps_fldC T.c_Setting T.a_Setting_test_price (pv 1) (pe_fldC T.c_Setting T.a_Setting_test_price (pv 0)))
      (pss_one (ps_ret (pv 1)))))))))))), ?_⟩
  obtain ⟨a, s, rfl, r, n5, k⟩ := h
  obtain ⟨dx0, tw0, pw0, h1, h2, h3⟩ := r.ex
  refine ⟨_, rfl, _, _, _, _, rfl, h1, rfl, fun x dx nx nd ne => ⟨x, dx, signalCount s.model, rfl, upd_same, n5, fun H1 tw pw kp _ _ e1 _ _ => ⟨rfl, ?_⟩⟩⟩
  have s1 := made_same nx nd kp
  refine ⟨_, rfl, _, _, _, _, rfl, s1 _ _ h1, rfl, _, _, rfl, s1 _ _ h2, fun l nl => ?_⟩
  have s2 := s1.trans (Same.new (o := .lst (natL s.model.testWeights)) nl)
  have x2 := Same.new (o := .lst (natL s.model.testWeights)) nl _ _ e1
  have lx : l ≠ x := fun e => by rw [e, e1] at nl; cases nl
  refine ⟨_, rfl, _, _, _, rfl, x2, szs, ?_⟩
  generalize hG : upd (upd H1 l (.lst (natL s.model.testWeights))) x _ = G
  have s3 : Same H G := by rw [← hG]; exact updD s2 nx
  have x3 : G x = some (.ins (gad K "Setting") dx (putF "test_weights" (V.ref l) (setFs (signalCount s.model) tw pw 1 2 1 1 1 1))) := by rw [← hG]; exact upd_same
  have l3 : G l = some (.lst (natL s.model.testWeights)) := by rw [← hG, upd_ne lx]; exact upd_same
  clear hG
  refine ⟨_, rfl, _, _, _, _, rfl, s3 _ _ h1, rfl, _, _, rfl, s3 _ _ h3, fun m nm => ?_⟩
  have s4 := s3.trans (Same.new (o := .lst (natL s.model.productionWeights)) nm)
  have x4 := Same.new (o := .lst (natL s.model.productionWeights)) nm _ _ x3
  have l4 := Same.new (o := .lst (natL s.model.productionWeights)) nm _ _ l3
  have mx : m ≠ x := fun e => by rw [e, x3] at nm; cases nm
  refine ⟨_, rfl, _, _, _, rfl, x4, szs, ?_⟩
  have s5 := updD (o := .ins (gad K "Setting") dx (putF "production_weights" (V.ref m) (putF "test_weights" (V.ref l) (setFs (signalCount s.model) tw pw 1 2 1 1 1 1)))) s4 nx
  refine ⟨_, rfl, _, _, _, _, rfl, s5 _ _ h1, rfl, _, rfl, _, _, _, rfl, upd_same, szs, ?_⟩
  have s6 := updD (o := .ins (gad K "Setting") dx (putF "prior_num" (V.int (s.model.priorNum : Int)) (putF "production_weights" (V.ref m) (putF "test_weights" (V.ref l) (setFs (signalCount s.model) tw pw 1 2 1 1 1 1))))) s5 nx
  rw [upd_upd] at s6 ⊢
  refine ⟨_, rfl, _, _, _, _, rfl, s6 _ _ h1, rfl, _, rfl, _, _, _, rfl, upd_same, szs, ?_⟩
  rw [upd_upd]
  refine ⟨_, rfl, _, _, _, _, rfl, updD s4 nx _ _ h1, rfl, _, rfl, _, _, _, rfl, upd_same, szs, ?_⟩
  rw [upd_upd]
  refine ⟨_, rfl, _, _, _, _, rfl, updD s4 nx _ _ h1, rfl, _, rfl, _, _, _, rfl, upd_same, szs, ?_⟩
  rw [upd_upd]
  refine ⟨_, rfl, _, _, _, _, rfl, updD s4 nx _ _ h1, rfl, _, rfl, _, _, _, rfl, upd_same, szs, ?_⟩
  rw [upd_upd]
  refine ⟨_, rfl, _, _, _, _, rfl, updD s4 nx _ _ h1, rfl, _, rfl, _, _, _, rfl, upd_same, szs, ?_⟩
  rw [upd_upd]
  refine ⟨_, rfl, k x _ (updD s4 nx) nx ⟨dx, l, m, ?_, ?_, ?_⟩⟩
  · rw [upd_same]
    rfl
  · rw [upd_ne lx]
    exact l4
  · rw [upd_ne mx]
    exact upd_same
/-- the setting with another prior, with other stakes -/
def wPrior (s : Kp416.Setting) (pn pd : Nat) : Kp416.Setting := { s with model := { s.model with priorNum := pn, priorDen := pd } }
def wStakes (s : Kp416.Setting) (g l : Nat) : Kp416.Setting := { s with gain := g, loss := l }
def sp_with_prior (K : PySem.W.Frag) : Sp := fun vs H Q E =>
  ∃ (a : Addr) (s : Kp416.Setting) (pn pd : Nat), vs = [.ref a, .int pn, .int pd] ∧ SetR K H a s ∧ signalCount s.model ≤ 5 ∧ ∀ p H', Same H H' → H p = none → SetR K H' p (wPrior s pn pd) → Q (.ref p) H'
theorem ok_with_prior (T : Tx K mg) : Cal P w K mg base CX0 4 "with_prior" (sp_with_prior K) := by
  refine (T.d_with_prior).ok0 sc_with_prior bd_with_prior (fun vs H Q E h => ?_) (fun f cdv A outer s H vs Q E hr h => ?_)
  · obtain ⟨_, _, _, _, rfl, _⟩ := h; rfl
  refine ⟨_, (pss_cons (ps_set (i := 3) sc_with_prior.nd rfl (Or.inl rfl) (pe_cal (ok_copy_of T) (hr.mono (by decide)) pass0 (pa_cons (pv 0) pa_nil)))
      (pss_cons (ps_fldC T.c_Setting T.a_Setting_prior_num (pv 3) (pv 1))
      (pss_cons (ps_fldC T.c_Setting T.a_Setting_prior_den (pv 3) (pv 2))
      (pss_one (ps_ret (pv 3)))))), ?_⟩
  obtain ⟨a, s, pn, pd, rfl, r, n5, k⟩ := h
  refine ⟨_, rfl, a, s, rfl, r, n5, fun p H1 s1 np r1 => ?_⟩
  obtain ⟨dx, tw, pw, h1, h2, h3⟩ := r1.ex
  have tx : tw ≠ p := ne_of h2 h1 (fun z => by cases z)
  have px : pw ≠ p := ne_of h3 h1 (fun z => by cases z)
  refine ⟨_, rfl, _, rfl, _, _, _, rfl, h1, szs, _, rfl, _, rfl, _, _, _, rfl, upd_same, szs, ?_⟩
  rw [upd_upd]
  refine ⟨_, rfl, k p _ (updD s1 np) np ⟨dx, tw, pw, ?_, by rw [upd_ne tx]; exact h2, by rw [upd_ne px]; exact h3⟩⟩
  rw [upd_same]
  rfl
def sp_with_stakes (K : PySem.W.Frag) : Sp := fun vs H Q E =>
  ∃ (a : Addr) (s : Kp416.Setting) (g l : Nat), vs = [.ref a, .int g, .int l] ∧ SetR K H a s ∧ signalCount s.model ≤ 5 ∧ ∀ p H', Same H H' → H p = none → SetR K H' p (wStakes s g l) → Q (.ref p) H'
theorem ok_with_stakes (T : Tx K mg) : Cal P w K mg base CX0 4 "with_stakes" (sp_with_stakes K) := by
  refine (T.d_with_stakes).ok0 sc_with_stakes bd_with_stakes (fun vs H Q E h => ?_) (fun f cdv A outer s H vs Q E hr h => ?_)
  · obtain ⟨_, _, _, _, rfl, _⟩ := h; rfl
  refine ⟨_, (pss_cons (ps_set (i := 3) sc_with_stakes.nd rfl (Or.inl rfl) (pe_cal (ok_copy_of T) (hr.mono (by decide)) pass0 (pa_cons (pv 0) pa_nil)))
      (pss_cons (ps_fldC T.c_Setting T.a_Setting_gain (pv 3) (pv 1))
      (pss_cons (ps_fldC T.c_Setting T.a_Setting_loss (pv 3) (pv 2))
      (pss_one (ps_ret (pv 3)))))), ?_⟩
  obtain ⟨a, s, g, l, rfl, r, n5, k⟩ := h
  refine ⟨_, rfl, a, s, rfl, r, n5, fun p H1 s1 np r1 => ?_⟩
  obtain ⟨dx, tw, pw, h1, h2, h3⟩ := r1.ex
  have tx : tw ≠ p := ne_of h2 h1 (fun z => by cases z)
  have px : pw ≠ p := ne_of h3 h1 (fun z => by cases z)
  refine ⟨_, rfl, _, rfl, _, _, _, rfl, h1, szs, _, rfl, _, rfl, _, _, _, rfl, upd_same, szs, ?_⟩
  rw [upd_upd]
  refine ⟨_, rfl, k p _ (updD s1 np) np ⟨dx, tw, pw, ?_, by rw [upd_ne tx]; exact h2, by rw [upd_ne px]; exact h3⟩⟩
  rw [upd_same]
  rfl
end
end PW
set_option Elab.async false
set_option linter.all false
set_option maxRecDepth 100000
set_option maxHeartbeats 4000000
/-! The rational agent's calls, deterrence: rational_calls, deterrence, deterrence_calls. -/
namespace PW
open PySem PySem.Spec PyProof.Rows L2
open Kp415 (signalCount priorTest testShare productionShare jointTest jointProduction)
open Kp416 (cheatingSignals deterrentPriorAt)
open Kp417 (Monitor run single fractionResult listResult)
def cv (a : Kp416.Ans) : Kp417.Ans := ⟨a.num, a.nums⟩
theorem rs_ans (h : Monitor) (c : Kp416.Call) (hc : (match c with | .setTestWeights _ | .mergeSignals _ => false | _ => true) = true) : (Kp417.runSetting h c).2 = cv (Kp416.step (some h.setting) c).2 := by
  unfold Kp417.runSetting
  cases c <;> first | exact absurd hc Bool.false_ne_true | (dsimp only; split <;> rfl)
theorem ans_rs {K : PySem.W.Frag} {H : Hp} {Q : VK} {E : XK} {h : Monitor} (c : Kp416.Call) (hc : (match c with | .setTestWeights _ | .mergeSignals _ => false | _ => true) = true) (k : Ans K H Q E (Kp417.runSetting h c).2) : Ans K H Q E (cv (Kp416.step (some h.setting) c).2) := by
  rw [← rs_ans h c hc]
  exact k
theorem MonR.set {K : PySem.W.Frag} {H : Hp} {m sa pa : Addr} {h : Monitor} (r : MonR K H m h sa pa) : SetR K H sa h.setting ∧ ∃ dm fs, H m = some (.ins (gad K "Monitor") dm fs) ∧ fs.lookup ("setting" : Str) = some (V.ref sa) := by
  obtain ⟨dm, la, dx, tw, pw, pv, ps, es, h1, h2, h3, h4, h5, h6, h7, h8, h9, n1, n2, n3⟩ := r.ex
  exact ⟨⟨dx, tw, pw, h2, h3, h4⟩, dm, _, h1, rfl⟩
section
variable {P : Program} {w : World} {K : PySem.W.Frag} {mg : Str → Option Value} {base : Heap}
def sp_cheating_value (K : PySem.W.Frag) : Sp := fun vs H Q E =>
  ∃ (m sa pa : Addr) (h : Monitor) (i : Nat), vs = [.ref m, .int i] ∧ MonR K H m h sa pa ∧ Good h ∧ Ans K H Q E (run h (.cheatingValue i)).2
theorem ok_cheating_value (T : Tx K mg) : Cal P w K mg base (L2.CX P w) 6 "cheating_value" (sp_cheating_value K) := by
  refine (T.d_cheating_value).okX sc_cheating_value bd_cheating_value (fun vs H Q E h => ?_) (fun f cdv A outer s H vs Q E hr h => ?_)
  · obtain ⟨_, _, _, _, _, rfl, _⟩ := h; rfl
  refine ⟨_, (pss_cons (ps_expr (pe_cal (ok_require_signal T) (hr.mono (by decide)) (passes_call (E := E) (W := fun cls d _ H => E cls d H) (takes_of rfl rfl rfl rfl) (fun _ _ _ _ h => h)) (pa_cons (pv 0) (pa_cons (pv 1) pa_nil))))
      (pss_one (ps_ret (pe_op op_cat (pe_lst (pa_cons pe_int pa_nil)) (pe_callTy listT (by rfl) T.n_list bt_list (pa_cons (pe_cal (ok_value_at T) (hr.mono (by decide)) pass0 (pa_cons (pe_fldC T.c_Monitor T.a_Monitor_setting (pv 0)) (pa_cons (pv 1) pa_nil))) pa_nil)))))), ?_⟩
  obtain ⟨m, sa, pa, h, i, rfl, r, g, k⟩ := h
  have k : Ans K H Q E (cv (if Kp415.isSignal h.setting.model i then Kp416.fractionResult (Kp416.cheatingValue h.setting i) else Kp416.single (-2))) := ans_rs (.cheatingValue i) rfl k
  obtain ⟨rs, dm, fs, h1, h2⟩ := r.set
  refine ⟨_, rfl, _, rfl, m, sa, pa, h, i, rfl, r, fun hc => ?_, fun hc => ?_⟩
  · rw [hc, if_neg Bool.false_ne_true] at k
    exact ans_no (n := 2) k
  rw [hc, if_pos rfl] at k
  refine ⟨szl, fun u nu => ?_⟩
  have su := Same.new (o := .lst [V.int 0]) nu
  refine ⟨_, rfl, _, _, _, _, rfl, su _ _ h1, h2, _, rfl, sa, h.setting, i, rfl, rs.same su, g.s, of_decide_eq_true hc, fun p1 H1 s1 e1 => ?_⟩
  exact cat_go (su.trans s1) (s1 _ _ upd_same) e1 (by show 1 ≤ 900; decide) (ans_fr k)
def sp_cheating_signals (K : PySem.W.Frag) : Sp := fun vs H Q E =>
  ∃ (m sa pa : Addr) (h : Monitor), vs = [.ref m] ∧ MonR K H m h sa pa ∧ Good h ∧ Ans K H Q E (run h .cheatingSignals).2
theorem ok_cheating_signals (T : Tx K mg) : Cal P w K mg base CX0 7 "cheating_signals" (sp_cheating_signals K) := by
  refine (T.d_cheating_signals).ok0 sc_cheating_signals bd_cheating_signals (fun vs H Q E h => ?_) (fun f cdv A outer s H vs Q E hr h => ?_)
  · obtain ⟨_, _, _, _, rfl, _⟩ := h; rfl
  refine ⟨_, (pss_one (ps_ret (pe_cal (ok_counted T) (hr.mono (by decide)) pass0 (pa_cons (pe_cal (ok_paying_signals T) (hr.mono (by decide)) pass0 (pa_cons (pe_fldC T.c_Monitor T.a_Monitor_setting (pv 0)) pa_nil)) pa_nil)))), ?_⟩
  obtain ⟨m, sa, pa, h, rfl, r, g, k⟩ := h
  have k : Ans K H Q E (listResult (cheatingSignals h.setting)) := ans_rs .cheatingSignals rfl k
  obtain ⟨rs, dm, fs, h1, h2⟩ := r.set
  refine ⟨_, rfl, _, _, _, _, rfl, h1, h2, sa, h.setting, rfl, rs, g.s, fun p1 H1 s1 e1 => ?_⟩
  have l1 := signals_le (s := h.setting)
  have l2 := g.s.n5
  exact ⟨p1, _, rfl, e1, by omega, fun p2 H2 s2 n2 e2 => ans_list k p2 H2 (s1.trans s2) (s1.free n2) e2⟩
def sp_expected_profit (K : PySem.W.Frag) : Sp := fun vs H Q E =>
  ∃ (m sa pa : Addr) (h : Monitor), vs = [.ref m] ∧ MonR K H m h sa pa ∧ Good h ∧ Ans K H Q E (run h .expectedProfit).2
theorem ok_expected_profit (T : Tx K mg) : Cal P w K mg base CX0 8 "expected_profit" (sp_expected_profit K) := by
  refine (T.d_expected_profit).ok0 sc_expected_profit bd_expected_profit (fun vs H Q E h => ?_) (fun f cdv A outer s H vs Q E hr h => ?_)
  · obtain ⟨_, _, _, _, rfl, _⟩ := h; rfl
  refine ⟨_, (pss_one (ps_ret (pe_op op_cat (pe_lst (pa_cons pe_int pa_nil)) (pe_callTy listT (by rfl) T.n_list bt_list (pa_cons (pe_cal (ok_profit_of T) (hr.mono (by decide)) pass0 (pa_cons (pe_fldC T.c_Monitor T.a_Monitor_setting (pv 0)) pa_nil)) pa_nil))))), ?_⟩
  obtain ⟨m, sa, pa, h, rfl, r, g, k⟩ := h
  have k : Ans K H Q E (fractionResult (Kp416.expectedProfit h.setting)) := ans_rs .expectedProfit rfl k
  obtain ⟨rs, dm, fs, h1, h2⟩ := r.set
  refine ⟨szl, fun u nu => ?_⟩
  have su := Same.new (o := .lst [V.int 0]) nu
  refine ⟨_, rfl, _, _, _, _, rfl, su _ _ h1, h2, sa, h.setting, rfl, rs.same su, g.s, fun p1 H1 s1 e1 => ?_⟩
  exact cat_go (su.trans s1) (s1 _ _ upd_same) e1 (by show 1 ≤ 900; decide) (ans_fr k)
def sp_detection_probability (K : PySem.W.Frag) : Sp := fun vs H Q E =>
  ∃ (m sa pa : Addr) (h : Monitor), vs = [.ref m] ∧ MonR K H m h sa pa ∧ Good h ∧ Ans K H Q E (run h .detectionProbability).2
theorem ok_detection_probability (T : Tx K mg) : Cal P w K mg base CX0 8 "detection_probability" (sp_detection_probability K) := by
  refine (T.d_detection_probability).ok0 sc_detection_probability bd_detection_probability (fun vs H Q E h => ?_) (fun f cdv A outer s H vs Q E hr h => ?_)
  · obtain ⟨_, _, _, _, rfl, _⟩ := h; rfl
  refine ⟨_, (pss_one (ps_ret (pe_op op_cat (pe_lst (pa_cons pe_int pa_nil)) (pe_callTy listT (by rfl) T.n_list bt_list (pa_cons (pe_cal (ok_detection_under T) (hr.mono (by decide)) pass0 (pa_cons (pe_fldC T.c_Monitor T.a_Monitor_setting (pv 0)) pa_nil)) pa_nil))))), ?_⟩
  obtain ⟨m, sa, pa, h, rfl, r, g, k⟩ := h
  have k : Ans K H Q E (fractionResult (Kp416.detectionProbability h.setting)) := ans_rs .detectionProbability rfl k
  obtain ⟨rs, dm, fs, h1, h2⟩ := r.set
  refine ⟨szl, fun u nu => ?_⟩
  have su := Same.new (o := .lst [V.int 0]) nu
  refine ⟨_, rfl, _, _, _, _, rfl, su _ _ h1, h2, sa, h.setting, rfl, rs.same su, g.s, fun p1 H1 s1 e1 => ?_⟩
  exact cat_go (su.trans s1) (s1 _ _ upd_same) e1 (by show 1 ≤ 900; decide) (ans_fr k)
def sp_harm_probability (K : PySem.W.Frag) : Sp := fun vs H Q E =>
  ∃ (m sa pa : Addr) (h : Monitor), vs = [.ref m] ∧ MonR K H m h sa pa ∧ Good h ∧ Ans K H Q E (run h .harmProbability).2
theorem ok_harm_probability (T : Tx K mg) : Cal P w K mg base CX0 8 "harm_probability" (sp_harm_probability K) := by
  refine (T.d_harm_probability).ok0 sc_harm_probability bd_harm_probability (fun vs H Q E h => ?_) (fun f cdv A outer s H vs Q E hr h => ?_)
  · obtain ⟨_, _, _, _, rfl, _⟩ := h; rfl
  refine ⟨_, (pss_one (ps_ret (pe_op op_cat (pe_lst (pa_cons pe_int pa_nil)) (pe_callTy listT (by rfl) T.n_list bt_list (pa_cons (pe_cal (ok_harm_under T) (hr.mono (by decide)) pass0 (pa_cons (pe_fldC T.c_Monitor T.a_Monitor_setting (pv 0)) pa_nil)) pa_nil))))), ?_⟩
  obtain ⟨m, sa, pa, h, rfl, r, g, k⟩ := h
  have k : Ans K H Q E (fractionResult (Kp416.harmProbability h.setting)) := ans_rs .harmProbability rfl k
  obtain ⟨rs, dm, fs, h1, h2⟩ := r.set
  refine ⟨szl, fun u nu => ?_⟩
  have su := Same.new (o := .lst [V.int 0]) nu
  refine ⟨_, rfl, _, _, _, _, rfl, su _ _ h1, h2, sa, h.setting, rfl, rs.same su, g.s, fun p1 H1 s1 e1 => ?_⟩
  exact cat_go (su.trans s1) (s1 _ _ upd_same) e1 (by show 1 ≤ 900; decide) (ans_fr k)
def sp_total_cost (K : PySem.W.Frag) : Sp := fun vs H Q E =>
  ∃ (m sa pa : Addr) (h : Monitor), vs = [.ref m] ∧ MonR K H m h sa pa ∧ Good h ∧ Ans K H Q E (run h .totalCost).2
theorem ok_total_cost (T : Tx K mg) : Cal P w K mg base CX0 9 "total_cost" (sp_total_cost K) := by
  refine (T.d_total_cost).ok0 sc_total_cost bd_total_cost (fun vs H Q E h => ?_) (fun f cdv A outer s H vs Q E hr h => ?_)
  · obtain ⟨_, _, _, _, rfl, _⟩ := h; rfl
  refine ⟨_, (pss_one (ps_ret (pe_op op_cat (pe_lst (pa_cons pe_int pa_nil)) (pe_callTy listT (by rfl) T.n_list bt_list (pa_cons (pe_cal (ok_cost_of T) (hr.mono (by decide)) pass0 (pa_cons (pe_fldC T.c_Monitor T.a_Monitor_setting (pv 0)) pa_nil)) pa_nil))))), ?_⟩
  obtain ⟨m, sa, pa, h, rfl, r, g, k⟩ := h
  have k : Ans K H Q E (fractionResult (Kp416.totalCost h.setting)) := ans_rs .totalCost rfl k
  obtain ⟨rs, dm, fs, h1, h2⟩ := r.set
  refine ⟨szl, fun u nu => ?_⟩
  have su := Same.new (o := .lst [V.int 0]) nu
  refine ⟨_, rfl, _, _, _, _, rfl, su _ _ h1, h2, sa, h.setting, rfl, rs.same su, g.s, fun p1 H1 s1 e1 => ?_⟩
  exact cat_go (su.trans s1) (s1 _ _ upd_same) e1 (by show 1 ≤ 900; decide) (ans_fr k)
theorem sok_prior {s : Kp416.Setting} (o : SOk s) {a b : Nat} (hb : b ≠ 0) (h1 : a < 2 ^ 80) (h2 : b < 2 ^ 80) : SOk (wPrior s a b) := ⟨o.n1, o.n5, o.tw, o.pw, hb, h1, h2, o.g, o.l, o.hp, o.tp⟩
theorem sok_stakes {s : Kp416.Setting} (o : SOk s) {a b : Nat} (h1 : a ≤ 999) (h2 : b ≤ 999) : SOk (wStakes s a b) := ⟨o.n1, o.n5, o.tw, o.pw, o.pd, o.pl, o.pb, h1, h2, o.hp, o.tp⟩
theorem vf_of {a b : Nat} (c : Kp415.validFraction a b = true) : a ≤ b ∧ 1 ≤ b ∧ b ≤ 99 := by
  unfold Kp415.validFraction at c
  simpa [and_assoc] using c
theorem lt80 {x : Nat} (h : x ≤ 99) : x < 2 ^ 80 := Nat.lt_of_le_of_lt h (by decide)
def sp_cheating_signals_for_prior (K : PySem.W.Frag) : Sp := fun vs H Q E =>
  ∃ (m sa pa : Addr) (h : Monitor) (a b : Nat), vs = [.ref m, .int a, .int b] ∧ MonR K H m h sa pa ∧ Good h ∧ Ans K H Q E (run h (.cheatingSignalsForPrior a b)).2
theorem ok_cheating_signals_for_prior (T : Tx K mg) : Cal P w K mg base (L2.CX P w) 7 "cheating_signals_for_prior" (sp_cheating_signals_for_prior K) := by
  refine (T.d_cheating_signals_for_prior).okX sc_cheating_signals_for_prior bd_cheating_signals_for_prior (fun vs H Q E h => ?_) (fun f cdv A outer s H vs Q E hr h => ?_)
  · obtain ⟨_, _, _, _, _, _, rfl, _⟩ := h; rfl
  refine ⟨_, (pss_cons (ps_expr (pe_cal (ok_require_fraction T) (hr.mono (by decide)) (passes_call (E := E) (W := fun cls d _ H => E cls d H) (takes_of rfl rfl rfl rfl) (fun _ _ _ _ h => h)) (pa_cons (pv 1) (pa_cons (pv 2) pa_nil))))
      (pss_one (ps_ret (pe_cal (ok_counted T) (hr.mono (by decide)) pass0 (pa_cons (pe_cal (ok_paying_signals T) (hr.mono (by decide)) pass0 (pa_cons (pe_cal (ok_with_prior T) (hr.mono (by decide)) pass0 (pa_cons (pe_fldC T.c_Monitor T.a_Monitor_setting (pv 0)) (pa_cons (pv 1) (pa_cons (pv 2) pa_nil)))) pa_nil)) pa_nil))))), ?_⟩
  obtain ⟨m, sa, pa, h, a, b, rfl, r, g, k⟩ := h
  have k : Ans K H Q E (cv (if Kp415.validFraction a b then Kp416.listResult (cheatingSignals (wPrior h.setting a b)) else Kp416.single (-22))) := ans_rs (.cheatingSignalsForPrior a b) rfl k
  obtain ⟨rs, dm, fs, h1, h2⟩ := r.set
  refine ⟨_, rfl, _, rfl, a, b, rfl, fun hc => ?_, fun hc => ?_⟩
  · rw [hc, if_neg Bool.false_ne_true] at k
    exact ans_no (n := 22) k
  rw [hc, if_pos rfl] at k
  obtain ⟨v1, v2, v3⟩ := vf_of hc
  refine ⟨_, rfl, _, _, _, _, rfl, h1, h2, _, rfl, _, rfl, sa, h.setting, a, b, rfl, rs, g.s.n5, fun p0 H0 s0 n0 r0 => ?_⟩
  have o := sok_prior g.s (a := a) (b := b) (by omega) (lt80 (by omega)) (lt80 v3)
  refine ⟨p0, _, rfl, r0, o, fun p1 H1 s1 e1 => ?_⟩
  have l1 := signals_le (s := wPrior h.setting a b)
  have l2 := o.n5
  exact ⟨p1, _, rfl, e1, by omega, fun p2 H2 s2 n2 e2 => ans_list k p2 H2 ((s0.trans s1).trans s2) ((s0.trans s1).free n2) e2⟩
def sp_cheating_signals_for_stakes (K : PySem.W.Frag) : Sp := fun vs H Q E =>
  ∃ (m sa pa : Addr) (h : Monitor) (a b : Nat), vs = [.ref m, .int a, .int b] ∧ MonR K H m h sa pa ∧ Good h ∧ Ans K H Q E (run h (.cheatingSignalsForStakes a b)).2
theorem ok_cheating_signals_for_stakes (T : Tx K mg) : Cal P w K mg base (L2.CX P w) 7 "cheating_signals_for_stakes" (sp_cheating_signals_for_stakes K) := by
  refine (T.d_cheating_signals_for_stakes).okX sc_cheating_signals_for_stakes bd_cheating_signals_for_stakes (fun vs H Q E h => ?_) (fun f cdv A outer s H vs Q E hr h => ?_)
  · obtain ⟨_, _, _, _, _, _, rfl, _⟩ := h; rfl
  refine ⟨_, (pss_cons (ps_expr (pe_cal (ok_require_stakes T) (hr.mono (by decide)) (passes_call (E := E) (W := fun cls d _ H => E cls d H) (takes_of rfl rfl rfl rfl) (fun _ _ _ _ h => h)) (pa_cons (pv 1) (pa_cons (pv 2) pa_nil))))
      (pss_one (ps_ret (pe_cal (ok_counted T) (hr.mono (by decide)) pass0 (pa_cons (pe_cal (ok_paying_signals T) (hr.mono (by decide)) pass0 (pa_cons (pe_cal (ok_with_stakes T) (hr.mono (by decide)) pass0 (pa_cons (pe_fldC T.c_Monitor T.a_Monitor_setting (pv 0)) (pa_cons (pv 1) (pa_cons (pv 2) pa_nil)))) pa_nil)) pa_nil))))), ?_⟩
  obtain ⟨m, sa, pa, h, a, b, rfl, r, g, k⟩ := h
  have k : Ans K H Q E (cv (if Kp416.validAmount a && Kp416.validAmount b then Kp416.listResult (cheatingSignals (wStakes h.setting a b)) else Kp416.single (-22))) := ans_rs (.cheatingSignalsForStakes a b) rfl k
  obtain ⟨rs, dm, fs, h1, h2⟩ := r.set
  refine ⟨_, rfl, _, rfl, a, b, rfl, fun hc => ?_, fun hc => ?_⟩
  · rw [hc, if_neg Bool.false_ne_true] at k
    exact ans_no (n := 22) k
  rw [hc, if_pos rfl] at k
  have v : a ≤ 999 ∧ b ≤ 999 := by
    unfold Kp416.validAmount at hc
    simpa using hc
  refine ⟨_, rfl, _, _, _, _, rfl, h1, h2, _, rfl, _, rfl, sa, h.setting, a, b, rfl, rs, g.s.n5, fun p0 H0 s0 n0 r0 => ?_⟩
  have o := sok_stakes g.s v.1 v.2
  refine ⟨p0, _, rfl, r0, o, fun p1 H1 s1 e1 => ?_⟩
  have l1 := signals_le (s := wStakes h.setting a b)
  have l2 := o.n5
  exact ⟨p1, _, rfl, e1, by omega, fun p2 H2 s2 n2 e2 => ans_list k p2 H2 ((s0.trans s1).trans s2) ((s0.trans s1).free n2) e2⟩
/-! ### deterrent priors -/
theorem g_nonneg (s : Kp416.Setting) (i : Nat) : 0 ≤ (s.gain : Rat) * productionShare s.model i := Rat.mul_nonneg (by rw [← Rat.num_nonneg]; exact Int.natCast_nonneg _) (share_nonneg _ _)
theorem l_nonneg (s : Kp416.Setting) (i : Nat) : 0 ≤ (s.loss : Rat) * testShare s.model i := Rat.mul_nonneg (by rw [← Rat.num_nonneg]; exact Int.natCast_nonneg _) (share_nonneg _ _)
theorem bdG {s : Kp416.Setting} (o : SOk s) (i : Nat) : Bd ((s.gain : Rat) * productionShare s.model i) 22 := (bd999 o.g).mul (bd_share o.pw i)
theorem bdL {s : Kp416.Setting} (o : SOk s) (i : Nat) : Bd ((s.loss : Rat) * testShare s.model i) 22 := (bd999 o.l).mul (bd_share o.tw i)
theorem gl_pos {s : Kp416.Setting} {i : Nat} (hg : (s.gain : Rat) * productionShare s.model i ≠ 0) : 0 < ((s.gain : Rat) * productionShare s.model i + (s.loss : Rat) * testShare s.model i).num := by
  rw [num_pos]
  have a := g_nonneg s i
  have b := l_nonneg s i
  refine Rat.lt_of_le_of_ne (Rat.add_nonneg a b) fun z => hg ?_
  refine Rat.le_antisymm ?_ a
  have e : (s.gain : Rat) * productionShare s.model i + 0 ≤ (s.gain : Rat) * productionShare s.model i + (s.loss : Rat) * testShare s.model i := Rat.add_le_add_left.mpr b
  rw [Rat.add_zero, ← z] at e
  exact e
theorem det_bd {s : Kp416.Setting} (o : SOk s) {i : Nat} {x : Rat} (e : deterrentPriorAt s i = some x) : Bd x 67 ∧ 0 ≤ x.num := by
  unfold deterrentPriorAt at e
  dsimp only at e
  by_cases hg : (s.gain : Rat) * productionShare s.model i = 0
  · rw [if_pos hg] at e
    cases e
    exact ⟨bd0.mono (by decide), by decide⟩
  · rw [if_neg hg] at e
    by_cases hl : (s.loss : Rat) * testShare s.model i = 0
    · rw [if_pos hl] at e
      cases e
    · rw [if_neg hl] at e
      cases e
      have p := gl_pos hg
      refine ⟨((bdG o i).div ((bdG o i).add (bdL o i)) p).mono (by decide), ?_⟩
      rw [div_mk p, mk_num (Nat.mul_ne_zero (Rat.den_nz _) (by omega))]
      refine Int.ediv_nonneg (Int.mul_nonneg ?_ (Int.natCast_nonneg _)) (Int.natCast_nonneg _)
      rw [Rat.num_nonneg]
      exact g_nonneg s i
def sp_prior_against (K : PySem.W.Frag) : Sp := fun vs H Q E =>
  ∃ (a : Addr) (s : Kp416.Setting) (i : Nat), vs = [.ref a, .int i] ∧ SetR K H a s ∧ SOk s ∧ i < signalCount s.model ∧ (deterrentPriorAt s i = none → ∀ H', Same H H' → Q .non H') ∧ ∀ x, deterrentPriorAt s i = some x → GivF H Q x
theorem ok_prior_against (T : Tx K mg) : Cal P w K mg base CX0 4 "prior_against" (sp_prior_against K) := by
  refine (T.d_prior_against).ok0 sc_prior_against bd_prior_against (fun vs H Q E h => ?_) (fun f cdv A outer s H vs Q E hr h => ?_)
  · obtain ⟨_, _, _, rfl, _⟩ := h; rfl
  refine ⟨_, (pss_cons (ps_set (i := 2) sc_prior_against.nd rfl (Or.inl rfl) (pe_cal (ok_times T) (hr.mono (by decide)) pass0 (pa_cons (pe_tup (pa_cons (pe_fldC T.c_Setting T.a_Setting_gain (pv 0)) (pa_cons pe_int pa_nil))) (pa_cons (pe_cal (ok_share_of T) (hr.mono (by decide)) pass0 (pa_cons (pe_fldC T.c_Setting T.a_Setting_production_weights (pv 0)) (pa_cons (pv 1) pa_nil))) pa_nil))))
      (pss_cons (ps_set (i := 3) sc_prior_against.nd rfl (Or.inl rfl) (pe_cal (ok_times T) (hr.mono (by decide)) pass0 (pa_cons (pe_tup (pa_cons (pe_fldC T.c_Setting T.a_Setting_loss (pv 0)) (pa_cons pe_int pa_nil))) (pa_cons (pe_cal (ok_share_of T) (hr.mono (by decide)) pass0 (pa_cons (pe_fldC T.c_Setting T.a_Setting_test_weights (pv 0)) (pa_cons (pv 1) pa_nil))) pa_nil))))
      (pss_cons (ps_if (pt_cmpR eqI (pe_ix ixT (pv 2) pe_int (fun _ _ => rfl)) pe_int (nomark _)) (pss_one (ps_ret (pe_tup (pa_cons pe_int (pa_cons pe_int pa_nil))))) pss_nil)
      (pss_cons (ps_if (pt_cmpR eqI (pe_ix ixT (pv 3) pe_int (fun _ _ => rfl)) pe_int (nomark _)) (pss_one (ps_ret pe_non)) pss_nil)
      (pss_one (ps_ret (pe_cal (ok_quotient T) (hr.mono (by decide)) pass0 (pa_cons (pv 2) (pa_cons (pe_cal (ok_plus T) (hr.mono (by decide)) pass0 (pa_cons (pv 2) (pa_cons (pv 3) pa_nil))) pa_nil))))))))), ?_⟩
  obtain ⟨a, s, i, rfl, r, o, hi, k1, k2⟩ := h
  obtain ⟨dx, tw, pw, h1, h2, h3⟩ := r.ex
  refine ⟨_, rfl, _, _, _, _, rfl, h1, rfl, szl, fun u nu => ?_⟩
  have su := Same.new (o := .tup [V.int (s.gain : Int), V.int 1]) nu
  refine ⟨_, rfl, _, _, _, _, rfl, su _ _ h1, rfl, _, rfl, pw, _, i, rfl, su _ _ h3, pwOk o, by rw [o.pw.len]; exact hi, fun p1 H1 s1 e1 => ?_⟩
  refine ⟨u, p1, ((s.gain : Nat) : Rat), _, rfl, s1 _ _ upd_same, e1, (bd999 o.g).mono (by decide), (bd_share o.pw i).mono (by decide), fun p2 H2 s2 e2 => ?_⟩
  have t2 := (su.trans s1).trans s2
  refine ⟨_, rfl, _, _, _, _, rfl, t2 _ _ h1, rfl, szl, fun x nx => ?_⟩
  have sx := Same.new (o := .tup [V.int (s.loss : Int), V.int 1]) nx
  refine ⟨_, rfl, _, _, _, _, rfl, sx _ _ (t2 _ _ h1), rfl, _, rfl, tw, _, i, rfl, sx _ _ (t2 _ _ h2), twOk o, hi, fun p4 H4 s4 e4 => ?_⟩
  refine ⟨x, p4, ((s.loss : Nat) : Rat), _, rfl, s4 _ _ upd_same, e4, (bd999 o.l).mono (by decide), (bd_share o.tw i).mono (by decide), fun p5 H5 s5 e5 => ?_⟩
  have s25 := (sx.trans s4).trans s5
  have e2' := s25 _ _ e2
  have t5 := t2.trans s25
  have ed : deterrentPriorAt s i = if (s.gain : Rat) * productionShare s.model i = 0 then some 0 else if (s.loss : Rat) * testShare s.model i = 0 then none else some ((s.gain : Rat) * productionShare s.model i / ((s.gain : Rat) * productionShare s.model i + (s.loss : Rat) * testShare s.model i)) := rfl
  refine ⟨_, rfl, _, _, 0, _, rfl, rfl, e2', rfl, _, _, rfl, rfl, _, rfl, ?_⟩
  refine ite2 (fun hz => ?_) (fun hz => ?_)
  · have hz2 : (s.gain : Rat) * productionShare s.model i = 0 := num_zero.mp (of_decide_eq_true hz)
    rw [if_pos hz2] at ed
    exact ⟨szl, fun p np => k2 0 ed p _ (t5.trans (Same.new np)) upd_same⟩
  · have hz2 : ¬ (s.gain : Rat) * productionShare s.model i = 0 := fun z => hz (decide_eq_true (num_zero.mpr z))
    rw [if_neg hz2] at ed
    refine ⟨_, rfl, _, _, 0, _, rfl, rfl, e5, rfl, _, _, rfl, rfl, _, rfl, ?_⟩
    refine ite2 (fun hy => ?_) (fun hy => ?_)
    · have hy2 : (s.loss : Rat) * testShare s.model i = 0 := num_zero.mp (of_decide_eq_true hy)
      rw [if_pos hy2] at ed
      exact k1 ed H5 t5
    · have hy2 : ¬ (s.loss : Rat) * testShare s.model i = 0 := fun z => hy (decide_eq_true (num_zero.mpr z))
      rw [if_neg hy2] at ed
      refine ⟨_, rfl, _, rfl, _, rfl, p2, p5, _, _, rfl, e2', e5, (bdG o i).mono (by decide), (bdL o i).mono (by decide), fun p6 H6 s6 e6 => ?_⟩
      exact ⟨p2, p6, _, _, rfl, s6 _ _ e2', e6, (bdG o i).mono (by decide), ((bdG o i).add (bdL o i)).mono (by decide), gl_pos hz2, fun p7 H7 s7 e7 => k2 _ ed p7 H7 ((t5.trans s6).trans s7) e7⟩
/-- the deterrent prior of the first signals -/
def detF (s : Kp416.Setting) (i : Nat) : Option Rat := (List.range i).foldl (fun (best : Option Rat) (signal : Nat) => match best, deterrentPriorAt s signal with
  | some x, some y => some (Kp415.larger x y)
  | _, _ => none) (some 0)
theorem detF_succ (s : Kp416.Setting) (i : Nat) : detF s (i + 1) = match detF s i, deterrentPriorAt s i with | some x, some y => some (Kp415.larger x y) | _, _ => none := by
  unfold detF
  rw [List.range_succ, List.foldl_append]
  rfl
theorem detF_none {s : Kp416.Setting} {i : Nat} (h : detF s i = none) : ∀ j, detF s (i + j) = none
  | 0 => h
  | j + 1 => by
    rw [← Nat.add_assoc, detF_succ, detF_none h j]
theorem detF_eq (s : Kp416.Setting) : Kp416.deterrentPrior s = detF s (signalCount s.model) := by
  unfold Kp416.deterrentPrior detF
  congr 1
theorem larger_bd {x y : Rat} {k : Nat} (hx : Bd x k ∧ 0 ≤ x.num) (hy : Bd y k ∧ 0 ≤ y.num) : Bd (Kp415.larger x y) k ∧ 0 ≤ (Kp415.larger x y).num := by
  unfold Kp415.larger
  split
  · exact hy
  · exact hx
theorem nle_dec {x y : Rat} : (!decide (x.num * (y.den : Int) ≤ y.num * (x.den : Int))) = decide (y < x) := by
  rw [Bool.eq_iff_iff]
  simp only [Bool.not_eq_true', decide_eq_false_iff_not, decide_eq_true_eq]
  rw [← Rat.le_iff, Rat.not_le]
def sp_prior_against_all (K : PySem.W.Frag) : Sp := fun vs H Q E =>
  ∃ (a : Addr) (s : Kp416.Setting), vs = [.ref a] ∧ SetR K H a s ∧ SOk s ∧ (Kp416.deterrentPrior s = none → ∀ H', Same H H' → Q .non H') ∧ ∀ x, Kp416.deterrentPrior s = some x → GivF H Q x
theorem ok_prior_against_all (T : Tx K mg) : Cal P w K mg base CX0 5 "prior_against_all" (sp_prior_against_all K) := by
  refine (T.d_prior_against_all).ok0 sc_prior_against_all bd_prior_against_all (fun vs H Q E h => ?_) (fun f cdv A outer s H vs Q E hr h => ?_)
  · obtain ⟨_, _, rfl, _⟩ := h; rfl
  refine ⟨_, (pss_cons (ps_set (i := 1) sc_prior_against_all.nd rfl (Or.inl rfl) (pe_tup (pa_cons pe_int (pa_cons pe_int pa_nil))))
      (pss_cons (ps_for PassesOwn.never rfl (pi_range1 rfl T.n_range (pa_cons (pe_fldC T.c_Setting T.a_Setting_signal_count (pv 0)) pa_nil)) (pg_name (i := 2) sc_prior_against_all.nd rfl (Or.inl rfl)) (pss_cons (ps_set (i := 3) sc_prior_against_all.nd rfl (Or.inl rfl) (pe_cal (ok_prior_against T) (hr.mono (by decide)) pass0 (pa_cons (pv 0) (pa_cons (pv 2) pa_nil))))
      (pss_cons (ps_if (pt_cmpR op_isN (pv 3) pe_non (nomark _)) (pss_one (ps_ret pe_non)) pss_nil)
      (pss_one (ps_if (pt_not (pt_val (pe_cal (ok_at_most T) (hr.mono (by decide)) pass0 (pa_cons (pv 3) (pa_cons (pv 1) pa_nil))))) (pss_one (ps_set (i := 1) sc_prior_against_all.nd rfl (Or.inl rfl) (pv 3))) pss_nil)))))
      (pss_one (ps_ret (pv 1))))), ?_⟩
  obtain ⟨a, s, rfl, r, o, k1, k2⟩ := h
  rw [detF_eq] at k1 k2
  obtain ⟨dx, tw, pw, h1, h2, h3⟩ := r.ex
  have n5 := o.n5
  refine ⟨szl, fun u nu => ?_⟩
  have su := Same.new (o := .tup [V.int 0, V.int 1]) nu
  refine ⟨_, rfl, _, _, _, _, rfl, su _ _ h1, rfl, _, rfl, by omega, by omega, for_it (walk_r0 (n := signalCount s.model)) (fun i σ H' => (∃ (t : Addr) (v1 v2 : Option V) (L : Rat), σ = [some (.ref a), some (.ref t), v1, v2] ∧ H' t = some (frT L) ∧ detF s i = some L ∧ Bd L 67 ∧ 0 ≤ L.num) ∧ Same H H')
    ⟨⟨u, none, none, 0, rfl, upd_same, rfl, bd0.mono (by decide), by decide⟩, su⟩ (fun _ _ _ _ _ => trivial) ?_ ?_⟩
  · rintro i x σ H1 H2 hi ⟨⟨t, v1, v2, L, rfl, ht, eL, bL⟩, s1⟩ ⟨rfl, rfl⟩
    refine ⟨_, rfl, _, rfl, a, s, i, rfl, r.same s1, o, hi, fun en H3 s3 => ?_, fun y ey p3 H3 s3 e3 => ?_⟩
    · refine ⟨_, rfl, rfl, _, rfl, iteT ?_⟩
      have e1 : detF s (i + 1) = none := by rw [detF_succ, eL, en]
      have e2 := detF_none e1 (signalCount s.model - (i + 1))
      rw [show i + 1 + (signalCount s.model - (i + 1)) = signalCount s.model by omega] at e2
      exact k1 e2 H3 (s1.trans s3)
    · refine ⟨_, rfl, rfl, _, rfl, iteF ?_⟩
      have by_ := det_bd o ey
      have b1 := by_.1.mono (show 67 ≤ 4000 by decide)
      have b2 := bL.1.mono (show 67 ≤ 4000 by decide)
      refine ⟨_, rfl, _, rfl, p3, t, _, _, _, _, rfl, e3, s3 _ _ ht, b1.1, b2.1, b1.2, b2.2, _, rfl, ?_⟩
      have e1 : detF s (i + 1) = some (Kp415.larger L y) := by rw [detF_succ, eL, ey]
      show if (!decide (y.num * (L.den : Int) ≤ L.num * (y.den : Int))) = true then _ else _
      rw [nle_dec]
      refine ite2 (fun hz => ?_) (fun hz => ?_)
      · have hz2 : L < y := of_decide_eq_true hz
        have el : Kp415.larger L y = y := by unfold Kp415.larger; rw [if_pos hz2]
        refine ⟨_, rfl, ⟨p3, _, _, y, rfl, e3, by rw [e1, el], by_⟩, s1.trans s3⟩
      · have hz2 : ¬ L < y := by simpa using hz
        have el : Kp415.larger L y = L := by unfold Kp415.larger; rw [if_neg hz2]
        exact ⟨⟨t, _, _, L, rfl, s3 _ _ ht, by rw [e1, el], bL⟩, s1.trans s3⟩
  · rintro σ H1 ⟨⟨t, v1, v2, L, rfl, ht, eL, bL⟩, s1⟩
    exact ⟨_, rfl, k2 L eL t H1 s1 ht⟩
end
end PW
set_option Elab.async false
set_option linter.all false
set_option maxRecDepth 100000
set_option maxHeartbeats 4000000
/-! The cheapest prior, the calls of deterrence. -/
namespace PW
open PySem PySem.Spec PyProof.Rows L2
open Kp415 (signalCount priorTest testShare productionShare jointTest jointProduction)
open Kp416 (cheatingSignals deterrentPriorAt candidatePriors withPrior totalCost)
open Kp417 (Monitor run single fractionResult listResult)
/-- the tuples of these fractions -/
def FrL (H : Hp) (ps : List Addr) (rs : List Rat) : Prop := ps.length = rs.length ∧ ∀ (j : Nat) p r, ps[j]? = some p → rs[j]? = some r → H p = some (frT r)
theorem FrL.same {H H' : Hp} {ps : List Addr} {rs : List Rat} (f : FrL H ps rs) (s : Same H H') : FrL H' ps rs := ⟨f.1, fun j p r a b => s _ _ (f.2 j p r a b)⟩
theorem FrL.put {H : Hp} {ps : List Addr} {rs : List Rat} {D : Addr} {xs ys : List V} (f : FrL H ps rs) (hD : H D = some (.lst xs)) : FrL (upd H D (.lst ys)) ps rs := ⟨f.1, fun j p r a b => by
  have e := f.2 j p r a b
  rw [upd_ne (ne_of e hD (fun z => by unfold frT at z; cases z))]
  exact e⟩
theorem FrL.snoc {H : Hp} {ps : List Addr} {rs : List Rat} {p : Addr} {r : Rat} (f : FrL H ps rs) (hp : H p = some (frT r)) : FrL H (ps ++ [p]) (rs ++ [r]) := by
  refine ⟨by rw [List.length_append, List.length_append, f.1]; rfl, fun j q x a b => ?_⟩
  by_cases hj : j < ps.length
  · rw [List.getElem?_append_left hj] at a
    rw [List.getElem?_append_left (by rw [← f.1]; exact hj)] at b
    exact f.2 j q x a b
  · rw [List.getElem?_append_right (by omega)] at a
    rw [List.getElem?_append_right (by rw [← f.1]; omega), ← f.1] at b
    have hz : j - ps.length = 0 := by
      have := (List.getElem?_eq_some_iff.mp a).1
      simp at this
      omega
    rw [hz] at a b
    cases a
    cases b
    exact hp
theorem FrL.at {H : Hp} {ps : List Addr} {rs : List Rat} {j : Nat} {p : Addr} (f : FrL H ps rs) (a : ps[j]? = some p) (hj : j < rs.length) : H p = some (frT rs[j]) := f.2 j p _ a (List.getElem?_eq_getElem hj)
section
variable {P : Program} {w : World} {K : PySem.W.Frag} {mg : Str → Option Value} {base : Heap}
def sp_considered_priors (K : PySem.W.Frag) : Sp := fun vs H Q E =>
  ∃ (a : Addr) (s : Kp416.Setting), vs = [.ref a] ∧ SetR K H a s ∧ SOk s ∧ ∀ D ps H', Same H H' → H' D = some (.lst (ps.map V.ref)) → FrL H' ps (candidatePriors s) → Q (.ref D) H'
theorem ok_considered_priors (T : Tx K mg) : Cal P w K mg base CX0 5 "considered_priors" (sp_considered_priors K) := by
  refine (T.d_considered_priors).ok0 sc_considered_priors bd_considered_priors (fun vs H Q E h => ?_) (fun f cdv A outer s H vs Q E hr h => ?_)
  · obtain ⟨_, _, rfl, _⟩ := h; rfl
  refine ⟨_, (pss_cons (ps_set (i := 1) sc_considered_priors.nd rfl (Or.inl rfl) (pe_lst (pa_cons (pe_tup (pa_cons pe_int (pa_cons pe_int pa_nil))) (pa_cons (pe_tup (pa_cons pe_int (pa_cons pe_int pa_nil))) pa_nil))))
      (pss_cons (ps_for PassesOwn.never rfl (pi_range1 rfl T.n_range (pa_cons (pe_fldC T.c_Setting T.a_Setting_signal_count (pv 0)) pa_nil)) (pg_name (i := 2) sc_considered_priors.nd rfl (Or.inl rfl)) (pss_cons (ps_set (i := 3) sc_considered_priors.nd rfl (Or.inl rfl) (pe_cal (ok_prior_against T) (hr.mono (by decide)) pass0 (pa_cons (pv 0) (pa_cons (pv 2) pa_nil))))
      (pss_one (ps_if (pt_cmpR op_notN (pv 3) pe_non (nomark _)) (pss_one (ps_expr (pe_bm PySem.F.plainAttrs_list PySem.F.slot_list_append PySem.F.type_list_append mt_append (pv 1) (pa_cons (pv 3) pa_nil)))) pss_nil))))
      (pss_one (ps_ret (pv 1))))), ?_⟩
  obtain ⟨a, s, rfl, r, o, k⟩ := h
  obtain ⟨dx, tw, pw, h1, h2, h3⟩ := r.ex
  have n5 := o.n5
  refine ⟨szl, fun u nu => ⟨szl, fun x nx => ⟨szl, fun D nD => ?_⟩⟩⟩
  have su := Same.new (o := .tup [V.int 0, V.int 1]) nu
  have sx := Same.new (o := .tup [V.int 1, V.int 1]) nx
  have sD := Same.new (o := .lst [V.ref u, V.ref x]) nD
  have s3 := (su.trans sx).trans sD
  have fD : H D = none := (su.trans sx).free nD
  have f0 : FrL (upd (upd (upd H u (.tup [V.int 0, V.int 1])) x (.tup [V.int 1, V.int 1])) D (.lst [V.ref u, V.ref x])) [u, x] [0, 1] := by
    refine ⟨rfl, fun j p r a b => ?_⟩
    match j, a, b with
    | 0, a, b => cases a; cases b; exact sD _ _ (sx _ _ upd_same)
    | 1, a, b => cases a; cases b; exact sD _ _ upd_same
    | j + 2, a, b => simp at a
  refine ⟨_, rfl, _, _, _, _, rfl, s3 _ _ h1, rfl, _, rfl, by omega, by omega, for_it (walk_r0 (n := signalCount s.model)) (fun i σ H' => (∃ v1 v2 : Option V, σ = [some (.ref a), some (.ref D), v1, v2]) ∧ Same H H' ∧ ∃ ps : List Addr, H' D = some (.lst (ps.map V.ref)) ∧ ps.length ≤ i + 2 ∧ FrL H' ps (0 :: 1 :: (List.range i).filterMap (deterrentPriorAt s)))
    ⟨⟨none, none, rfl⟩, s3, [u, x], upd_same, (by show 2 ≤ 0 + 2; decide), f0⟩ (fun _ _ _ _ _ => trivial) ?_ ?_⟩
  · rintro i y σ H1 H2 hi ⟨⟨v1, v2, rfl⟩, s1, ps, hD, pl, f⟩ ⟨rfl, rfl⟩
    refine ⟨_, rfl, _, rfl, a, s, i, rfl, r.same s1, o, hi, fun en H3 s4 => ?_, fun z ez p3 H3 s4 e3 => ?_⟩
    · refine ⟨_, rfl, rfl, _, rfl, iteF ⟨⟨_, _, rfl⟩, s1.trans s4, ps, s4 _ _ hD, by omega, ?_⟩⟩
      have e : (List.range (i + 1)).filterMap (deterrentPriorAt s) = (List.range i).filterMap (deterrentPriorAt s) := by
        rw [List.range_succ, List.filterMap_append]
        simp [en]
      rw [e]
      exact f.same s4
    · refine ⟨_, rfl, rfl, _, rfl, iteT ?_⟩
      have hD3 := s4 _ _ hD
      refine ⟨_, rfl, .inl ⟨rfl, _, SqL.of hD3⟩, _, rfl, D, _, _, rfl, rfl, hD3, by rw [List.length_map]; exact small1000 (by omega), ?_⟩
      refine ⟨⟨_, _, rfl⟩, updD (s1.trans s4) fD, ps ++ [p3], by rw [upd_same, List.map_append]; rfl, by rw [List.length_append]; show ps.length + 1 ≤ _; omega, ?_⟩
      have e : (List.range (i + 1)).filterMap (deterrentPriorAt s) = (List.range i).filterMap (deterrentPriorAt s) ++ [z] := by
        rw [List.range_succ, List.filterMap_append]
        simp [ez]
      rw [e]
      exact ((f.same s4).snoc e3).put hD3
  · rintro σ H1 ⟨⟨v1, v2, rfl⟩, s1, ps, hD, pl, f⟩
    exact ⟨_, rfl, k D ps H1 s1 hD f⟩
theorem eqv_fr (x y : Rat) : PyData.eqv (.tuple [.int x.num, .int (x.den : Int)]) (.tuple [.int y.num, .int (y.den : Int)]) = decide (x = y) := by
  show (x.num == y.num && ((x.den : Int) == (y.den : Int) && true)) = decide (x = y)
  rw [Bool.eq_iff_iff]
  simp only [Bool.and_true, Bool.and_eq_true, beq_iff_eq, decide_eq_true_eq]
  exact eq_iff.symm
theorem shp (a b : Int) : SeqAt.shaped (.tuple [.int a, .int b]) = true := by rfl
def sp_is_better (K : PySem.W.Frag) : Sp := fun vs H Q E =>
  ∃ (a b c d : Addr) (x y z t : Rat), vs = [.ref a, .ref b, .ref c, .ref d] ∧ H a = some (frT x) ∧ H b = some (frT y) ∧ H c = some (frT z) ∧ H d = some (frT t) ∧ Bd x 4000 ∧ Bd y 4000 ∧ Bd z 4000 ∧ Bd t 4000 ∧ Q (.bl (decide (x < z ∨ (x = z ∧ y < t)))) H
theorem ok_is_better (T : Tx K mg) : Cal P w K mg base CX0 2 "is_better" (sp_is_better K) := by
  refine (T.d_is_better).ok0 sc_is_better bd_is_better (fun vs H Q E h => ?_) (fun f cdv A outer s H vs Q E hr h => ?_)
  · obtain ⟨_, _, _, _, _, _, _, _, rfl, _⟩ := h; rfl
  refine ⟨_, (pss_cons (ps_if (pt_cmpR (op_eqD hr.units) (pv 0) (pv 2) (nomark _)) (pss_one (ps_ret (pe_not (pe_cal (ok_at_most T) (hr.mono (by decide)) pass0 (pa_cons (pv 3) (pa_cons (pv 1) pa_nil)))))) pss_nil)
      (pss_one (ps_ret (pe_cal (ok_at_most T) (hr.mono (by decide)) pass0 (pa_cons (pv 0) (pa_cons (pv 2) pa_nil)))))), ?_⟩
  obtain ⟨a, b, c, d, x, y, z, t, rfl, ha, hb, hc, hd, bx, b_y, bz, bt, k⟩ := h
  refine ⟨_, rfl, _, rfl, .tuple [.int x.num, .int (x.den : Int)], .tuple [.int z.num, .int (z.den : Int)], .tup (SqT.of ha) (.cons (.int _) (.cons (.int _) .nil)), .tup (SqT.of hc) (.cons (.int _) (.cons (.int _) .nil)), shp _ _, shp _ _, _, rfl, ?_⟩
  rw [eqv_fr]
  refine ite2 (fun he => ?_) (fun he => ?_)
  · have he2 : x = z := of_decide_eq_true he
    refine ⟨_, rfl, _, rfl, d, b, _, _, _, _, rfl, hd, hb, bt.1, b_y.1, bt.2, b_y.2, _, rfl, ?_⟩
    have e : (!decide (t.num * (y.den : Int) ≤ y.num * (t.den : Int))) = decide (x < z ∨ (x = z ∧ y < t)) := by
      rw [nle_dec, decide_eq_decide]
      constructor
      · intro q
        exact .inr ⟨he2, q⟩
      · rintro (q | q)
        · rw [he2] at q
          exact absurd q Rat.lt_irrefl
        · exact q.2
    show Q (V.bl (!decide (t.num * (y.den : Int) ≤ y.num * (t.den : Int)))) H
    rw [e]
    exact k
  · have he2 : ¬ x = z := fun q => he (decide_eq_true q)
    refine ⟨_, rfl, _, rfl, a, c, _, _, _, _, rfl, ha, hc, bx.1, bz.1, bx.2, bz.2, ?_⟩
    have e : decide (x.num * (z.den : Int) ≤ z.num * (x.den : Int)) = decide (x < z ∨ (x = z ∧ y < t)) := by
      rw [decide_eq_decide, ← Rat.le_iff]
      constructor
      · intro q
        exact .inl (Rat.lt_of_le_of_ne q he2)
      · rintro (q | q)
        · exact Rat.le_of_lt q
        · exact absurd q.1 he2
    rw [e]
    exact k
/-- one step of the search -/
def chp (s : Kp416.Setting) (best x : Rat) : Rat := if totalCost (withPrior s x) < totalCost (withPrior s best) ∨ (totalCost (withPrior s x) = totalCost (withPrior s best) ∧ x < best) then x else best
theorem chp_eq (s : Kp416.Setting) : Kp416.cheapestPrior s = (candidatePriors s).foldl (chp s) 0 := rfl
theorem chp_yes {s : Kp416.Setting} {b x : Rat} (c : totalCost (withPrior s x) < totalCost (withPrior s b) ∨ (totalCost (withPrior s x) = totalCost (withPrior s b) ∧ x < b)) : chp s b x = x := if_pos c
theorem chp_no {s : Kp416.Setting} {b x : Rat} (c : ¬ (totalCost (withPrior s x) < totalCost (withPrior s b) ∨ (totalCost (withPrior s x) = totalCost (withPrior s b) ∧ x < b))) : chp s b x = b := if_neg c
theorem chp_self (s : Kp416.Setting) (x : Rat) : chp s x x = x := by
  unfold chp
  split <;> rfl
theorem cand_bd {s : Kp416.Setting} (o : SOk s) {x : Rat} (hx : x ∈ candidatePriors s) : Bd x 67 ∧ 0 ≤ x.num := by
  unfold candidatePriors at hx
  rcases List.mem_cons.mp hx with e | hx
  · rw [e]; exact ⟨bd0.mono (by decide), by decide⟩
  rcases List.mem_cons.mp hx with e | hx
  · rw [e]; exact ⟨bd1.mono (by decide), by decide⟩
  obtain ⟨i, _, e⟩ := List.mem_filterMap.mp hx
  exact det_bd o e
theorem wp_eq (s : Kp416.Setting) (x : Rat) : withPrior s x = wPrior s x.num.toNat x.den := rfl
theorem wp_ok {s : Kp416.Setting} (o : SOk s) {x : Rat} (b : Bd x 67 ∧ 0 ≤ x.num) : SOk (withPrior s x) := by
  rw [wp_eq]
  have l67 : (2 : Nat) ^ 67 ≤ 2 ^ 80 := Nat.pow_le_pow_right (by decide) (by decide)
  exact sok_prior o x.den_nz (by have := b.1.1; omega) (Nat.lt_of_lt_of_le b.1.2 l67)
theorem fold_mem (s : Kp416.Setting) (S : Rat → Prop) : ∀ (l : List Rat) (b : Rat), S b → (∀ x ∈ l, S x) → S (l.foldl (chp s) b)
  | [], _, hb, _ => hb
  | x :: l, b, hb, hl => by
    refine fold_mem s S l _ ?_ fun y hy => hl y (List.mem_cons_of_mem _ hy)
    unfold chp
    split
    · exact hl x (List.mem_cons_self ..)
    · exact hb
def sp_cheapest (K : PySem.W.Frag) : Sp := fun vs H Q E =>
  ∃ (a : Addr) (s : Kp416.Setting), vs = [.ref a] ∧ SetR K H a s ∧ SOk s ∧ ∀ p b l H', Same H H' → H' p = some (.tup [.ref b, .ref l]) → H' b = some (frT (Kp416.cheapestPrior s)) → H' l = some (frT (totalCost (withPrior s (Kp416.cheapestPrior s)))) → Q (.ref p) H'
theorem ok_cheapest (T : Tx K mg) : Cal P w K mg base CX0 9 "cheapest" (sp_cheapest K) := by
  refine (T.d_cheapest).ok0 sc_cheapest bd_cheapest (fun vs H Q E h => ?_) (fun f cdv A outer s H vs Q E hr h => ?_)
  · obtain ⟨_, _, rfl, _⟩ := h; rfl
  refine ⟨_, (pss_cons (ps_set (i := 1) sc_cheapest.nd rfl (Or.inl rfl) pe_non)
      (pss_cons (ps_set (i := 2) sc_cheapest.nd rfl (Or.inl rfl) pe_non)
      (pss_cons (ps_for PassesOwn.never rfl (pi_list (pe_cal (ok_considered_priors T) (hr.mono (by decide)) pass0 (pa_cons (pv 0) pa_nil))) (pg_name (i := 3) sc_cheapest.nd rfl (Or.inl rfl)) (pss_cons (ps_set (i := 4) sc_cheapest.nd rfl (Or.inl rfl) (pe_cal (ok_cost_of T) (hr.mono (by decide)) pass0 (pa_cons (pe_cal (ok_with_prior T) (hr.mono (by decide)) pass0 (pa_cons (pv 0) (pa_cons (pe_ix ixT (pv 3) pe_int (fun _ _ => rfl)) (pa_cons (pe_ix ixT (pv 3) pe_int (fun _ _ => rfl)) pa_nil)))) pa_nil)))
      (pss_one (ps_if (PW.pt (pw_or (pt_cmpR op_isN (pv 1) pe_non (nomark _)) (pw_or1 (pt_val (pe_cal (ok_is_better T) (hr.mono (by decide)) pass0 (pa_cons (pv 4) (pa_cons (pv 3) (pa_cons (pv 2) (pa_cons (pv 1) pa_nil))))))))) (pss_cons (ps_set (i := 1) sc_cheapest.nd rfl (Or.inl rfl) (pv 3))
      (pss_one (ps_set (i := 2) sc_cheapest.nd rfl (Or.inl rfl) (pv 4)))) pss_nil))))
      (pss_one (ps_ret (pe_tup (pa_cons (pv 1) (pa_cons (pv 2) pa_nil)))))))), ?_⟩
  obtain ⟨a, s, rfl, r, o, k⟩ := h
  have n5 := o.n5
  refine ⟨_, rfl, a, s, rfl, r, o, fun D ps H0 s0 hD f => ?_⟩
  have pl : (ps.map V.ref).length = (candidatePriors s).length := by rw [List.length_map, f.1]
  refine ⟨D, rfl, ⟨_, SqL.of hD⟩, for_list (K := K) (a := D) (xs := ps.map V.ref) (fun i σ H' => (∃ (vb vl : V) (v1 v2 : Option V), σ = [some (.ref a), some vb, some vl, v1, v2] ∧ (i = 0 → vb = .non) ∧ (0 < i → ∃ b l, vb = .ref b ∧ vl = .ref l ∧ H' b = some (frT (((candidatePriors s).take i).foldl (chp s) 0)) ∧ H' l = some (frT (totalCost (withPrior s (((candidatePriors s).take i).foldl (chp s) 0)))))) ∧ Same H0 H')
    ⟨⟨.non, .non, none, none, rfl, fun _ => rfl, fun z => absurd z (by decide)⟩, Same.refl _⟩ (fun i σ H' _ ⟨_, st⟩ => SqL.of (st _ _ hD)) ?_ ?_⟩
  · rintro i y σ H1 hi ⟨⟨vb, vl, v1, v2, rfl, c0, c1⟩, st⟩
    have hil : i < (candidatePriors s).length := by
      have := (List.getElem?_eq_some_iff.mp hi).1
      rw [pl] at this
      exact this
    rw [List.getElem?_map] at hi
    obtain ⟨p, hp, rfl⟩ := Option.map_eq_some_iff.mp hi
    have ep := st _ _ (f.at hp hil)
    have hx : (candidatePriors s)[i] ∈ candidatePriors s := List.getElem_mem hil
    have et : ((candidatePriors s).take (i + 1)).foldl (chp s) 0 = chp s (((candidatePriors s).take i).foldl (chp s) 0) (candidatePriors s)[i] := by
      rw [List.take_succ_eq_append_getElem hil, List.foldl_append]
      rfl
    have e00 : i = 0 → (candidatePriors s)[i] = 0 := fun z => by subst z; rfl
    generalize (candidatePriors s)[i] = x at *
    have bx := cand_bd o hx
    have ex : x.num = ((x.num.toNat : Nat) : Int) := by omega
    have s1 := s0.trans st
    have ep2 : H1 p = some (.tup [.int ((x.num.toNat : Nat) : Int), .int (x.den : Int)]) := by rw [← ex]; exact ep
    refine ⟨_, rfl, _, rfl, _, _, 0, _, rfl, rfl, ep2, rfl, _, rfl, _, _, 1, _, rfl, rfl, ep2, rfl, a, s, x.num.toNat, x.den, rfl, r.same s1, n5, fun q H2 s2 nq rq => ?_⟩
    have ok := wp_ok o bx
    refine ⟨q, withPrior s x, rfl, rq, ok, fun c H3 s3 ec => ?_⟩
    have s13 := s2.trans s3
    refine ⟨_, rfl, rfl, _, rfl, ?_⟩
    by_cases hi0 : i = 0
    · have ev := c0 hi0
      subst ev
      refine iteT (iteT ?_)
      refine ⟨_, rfl, _, rfl, ⟨.ref p, .ref c, _, _, rfl, fun z => absurd z (by omega), fun _ => ⟨p, c, rfl, rfl, ?_, ?_⟩⟩, st.trans s13⟩
      · rw [et, hi0, e00 hi0, List.take_zero, List.foldl_nil, chp_self]
        rw [← e00 hi0]
        exact s13 _ _ ep
      · rw [et, hi0, e00 hi0, List.take_zero, List.foldl_nil, chp_self]
        rw [← e00 hi0]
        exact ec
    · obtain ⟨b, l, rfl, rfl, eb, el⟩ := c1 (Nat.pos_of_ne_zero hi0)
      refine iteF ?_
      have bb : Bd (((candidatePriors s).take i).foldl (chp s) 0) 67 ∧ 0 ≤ (((candidatePriors s).take i).foldl (chp s) 0).num := fold_mem s (fun z => Bd z 67 ∧ 0 ≤ z.num) _ _ ⟨bd0.mono (by decide), by decide⟩ fun z hz => cand_bd o (List.mem_of_mem_take hz)
      generalize ((candidatePriors s).take i).foldl (chp s) 0 = best at *
      refine ⟨_, rfl, _, rfl, _, rfl, _, rfl, c, p, l, b, _, _, _, _, rfl, ec, s13 _ _ ep, s13 _ _ el, s13 _ _ eb, (bdCost ok).mono (by decide), bx.1.mono (by decide), (bdCost (wp_ok o bb)).mono (by decide), bb.1.mono (by decide), _, rfl, ?_⟩
      refine ite2 (fun hz => ?_) (fun hz => ?_)
      · have hz2 := of_decide_eq_true hz
        refine ⟨_, rfl, _, rfl, ⟨.ref p, .ref c, _, _, rfl, fun z => absurd z (by omega), fun _ => ⟨p, c, rfl, rfl, ?_, ?_⟩⟩, st.trans s13⟩
        · rw [et, chp_yes hz2]
          exact s13 _ _ ep
        · rw [et, chp_yes hz2]
          exact ec
      · have hz2 : ¬ _ := fun q => hz (decide_eq_true q)
        refine ⟨⟨.ref b, .ref l, _, _, rfl, fun z => absurd z (by omega), fun _ => ⟨b, l, rfl, rfl, ?_, ?_⟩⟩, st.trans s13⟩
        · rw [et, chp_no hz2]
          exact s13 _ _ eb
        · rw [et, chp_no hz2]
          exact s13 _ _ el
  · rintro σ H1 ⟨⟨vb, vl, v1, v2, rfl, c0, c1⟩, st⟩
    have hpos : 0 < (ps.map V.ref).length := by rw [pl]; unfold candidatePriors; rw [List.length_cons]; omega
    obtain ⟨b, l, rfl, rfl, eb, el⟩ := c1 hpos
    rw [pl, List.take_length, ← chp_eq] at eb el
    refine ⟨_, rfl, _, rfl, szl, fun p np => ?_⟩
    have sp := Same.new (o := .tup [V.ref b, V.ref l]) np
    exact k p b l _ ((s0.trans st).trans sp) upd_same (sp _ _ eb) (sp _ _ el)
def sp_require_existing (K : PySem.W.Frag) : Sp := fun vs H Q E =>
  ∃ v : V, vs = [v] ∧ (v = .non → Rs K 33 H E) ∧ (v ≠ .non → Q .non H)
theorem ok_require_existing (T : Tx K mg) : Cal P w K mg base (L2.CX P w) 3 "require_existing" (sp_require_existing K) := by
  refine (T.d_require_existing).okX sc_require_existing bd_require_existing (fun vs H Q E h => ?_) (fun f cdv A outer s H vs Q E hr h => ?_)
  · obtain ⟨_, rfl, _⟩ := h; rfl
  refine ⟨_, (pss_one (ps_if (pt_cmpR op_isN (pv 0) pe_non (nomark _)) (pss_one (ps_raiseR rfl T.ref T.r_NoValue hr (W := fun cls d _ H => E cls d H) (takes_of rfl rfl rfl rfl))) pss_nil)), ?_⟩
  obtain ⟨v, rfl, k1, k2⟩ := h
  refine ⟨_, rfl, rfl, _, rfl, ?_⟩
  refine ite2 (fun hz => ?_) (fun hz => ?_)
  · exact rs_go "NoValue" (k1 (of_decide_eq_true hz)) rf_NoValue
  · exact k2 fun e => hz (decide_eq_true e)
def sp_deterrent_prior_at (K : PySem.W.Frag) : Sp := fun vs H Q E =>
  ∃ (m sa pa : Addr) (h : Monitor) (i : Nat), vs = [.ref m, .int i] ∧ MonR K H m h sa pa ∧ Good h ∧ Ans K H Q E (run h (.deterrentPriorAt i)).2
theorem ok_deterrent_prior_at (T : Tx K mg) : Cal P w K mg base (L2.CX P w) 5 "deterrent_prior_at" (sp_deterrent_prior_at K) := by
  refine (T.d_deterrent_prior_at).okX sc_deterrent_prior_at bd_deterrent_prior_at (fun vs H Q E h => ?_) (fun f cdv A outer s H vs Q E hr h => ?_)
  · obtain ⟨_, _, _, _, _, rfl, _⟩ := h; rfl
  refine ⟨_, (pss_cons (ps_expr (pe_cal (ok_require_signal T) (hr.mono (by decide)) (passes_call (E := E) (W := fun cls d _ H => E cls d H) (takes_of rfl rfl rfl rfl) (fun _ _ _ _ h => h)) (pa_cons (pv 0) (pa_cons (pv 1) pa_nil))))
      (pss_cons (ps_set (i := 2) sc_deterrent_prior_at.nd rfl (Or.inl rfl) (pe_cal (ok_prior_against T) (hr.mono (by decide)) pass0 (pa_cons (pe_fldC T.c_Monitor T.a_Monitor_setting (pv 0)) (pa_cons (pv 1) pa_nil))))
      (pss_cons (ps_expr (pe_cal (ok_require_existing T) (hr.mono (by decide)) (passes_call (E := E) (W := fun cls d _ H => E cls d H) (takes_of rfl rfl rfl rfl) (fun _ _ _ _ h => h)) (pa_cons (pv 2) pa_nil)))
      (pss_one (ps_ret (pe_op op_cat (pe_lst (pa_cons pe_int pa_nil)) (pe_callTy listT (by rfl) T.n_list bt_list (pa_cons (pv 2) pa_nil)))))))), ?_⟩
  obtain ⟨m, sa, pa, h, i, rfl, r, g, k⟩ := h
  have k : Ans K H Q E (cv (if Kp415.isSignal h.setting.model i then Kp416.optionalFraction (deterrentPriorAt h.setting i) else Kp416.single (-2))) := ans_rs (.deterrentPriorAt i) rfl k
  obtain ⟨rs, dm, fs, h1, h2⟩ := r.set
  refine ⟨_, rfl, _, rfl, m, sa, pa, h, i, rfl, r, fun hc => ?_, fun hc => ?_⟩
  · rw [hc, if_neg Bool.false_ne_true] at k
    exact ans_no (n := 2) k
  rw [hc, if_pos rfl] at k
  refine ⟨_, rfl, _, _, _, _, rfl, h1, h2, _, rfl, sa, h.setting, i, rfl, rs, g.s, of_decide_eq_true hc, fun en H1 s1 => ?_, fun x ex p1 H1 s1 e1 => ?_⟩
  · rw [en] at k
    exact ⟨_, rfl, _, rfl, fun _ => (ans_no (n := 33) k).same s1, fun z => absurd rfl z⟩
  · rw [ex] at k
    refine ⟨_, rfl, _, rfl, (fun z => by cases z), fun _ => ?_⟩
    refine ⟨szl, fun u nu => ?_⟩
    have su := Same.new (o := .lst [V.int 0]) nu
    refine ⟨_, rfl, ?_⟩
    exact cat_go (s1.trans su) upd_same (su _ _ e1) (by show 1 ≤ 900; decide) (ans_fr k)
def sp_deterrent_prior (K : PySem.W.Frag) : Sp := fun vs H Q E =>
  ∃ (m sa pa : Addr) (h : Monitor), vs = [.ref m] ∧ MonR K H m h sa pa ∧ Good h ∧ Ans K H Q E (run h .deterrentPrior).2
theorem ok_deterrent_prior (T : Tx K mg) : Cal P w K mg base (L2.CX P w) 6 "deterrent_prior" (sp_deterrent_prior K) := by
  refine (T.d_deterrent_prior).okX sc_deterrent_prior bd_deterrent_prior (fun vs H Q E h => ?_) (fun f cdv A outer s H vs Q E hr h => ?_)
  · obtain ⟨_, _, _, _, rfl, _⟩ := h; rfl
  refine ⟨_, (pss_cons (ps_set (i := 1) sc_deterrent_prior.nd rfl (Or.inl rfl) (pe_cal (ok_prior_against_all T) (hr.mono (by decide)) pass0 (pa_cons (pe_fldC T.c_Monitor T.a_Monitor_setting (pv 0)) pa_nil)))
      (pss_cons (ps_expr (pe_cal (ok_require_existing T) (hr.mono (by decide)) (passes_call (E := E) (W := fun cls d _ H => E cls d H) (takes_of rfl rfl rfl rfl) (fun _ _ _ _ h => h)) (pa_cons (pv 1) pa_nil)))
      (pss_one (ps_ret (pe_op op_cat (pe_lst (pa_cons pe_int pa_nil)) (pe_callTy listT (by rfl) T.n_list bt_list (pa_cons (pv 1) pa_nil))))))), ?_⟩
  obtain ⟨m, sa, pa, h, rfl, r, g, k⟩ := h
  have k : Ans K H Q E (cv (Kp416.optionalFraction (Kp416.deterrentPrior h.setting))) := ans_rs .deterrentPrior rfl k
  obtain ⟨rs, dm, fs, h1, h2⟩ := r.set
  refine ⟨_, rfl, _, _, _, _, rfl, h1, h2, sa, h.setting, rfl, rs, g.s, fun en H1 s1 => ?_, fun x ex p1 H1 s1 e1 => ?_⟩
  · rw [en] at k
    exact ⟨_, rfl, _, rfl, fun _ => (ans_no (n := 33) k).same s1, fun z => absurd rfl z⟩
  · rw [ex] at k
    refine ⟨_, rfl, _, rfl, (fun z => by cases z), fun _ => ?_⟩
    refine ⟨szl, fun u nu => ?_⟩
    have su := Same.new (o := .lst [V.int 0]) nu
    refine ⟨_, rfl, ?_⟩
    exact cat_go (s1.trans su) upd_same (su _ _ e1) (by show 1 ≤ 900; decide) (ans_fr k)
def sp_cheapest_prior (K : PySem.W.Frag) : Sp := fun vs H Q E =>
  ∃ (m sa pa : Addr) (h : Monitor), vs = [.ref m] ∧ MonR K H m h sa pa ∧ Good h ∧ Ans K H Q E (run h .cheapestPrior).2
theorem ok_cheapest_prior (T : Tx K mg) : Cal P w K mg base CX0 10 "cheapest_prior" (sp_cheapest_prior K) := by
  refine (T.d_cheapest_prior).ok0 sc_cheapest_prior bd_cheapest_prior (fun vs H Q E h => ?_) (fun f cdv A outer s H vs Q E hr h => ?_)
  · obtain ⟨_, _, _, _, rfl, _⟩ := h; rfl
  refine ⟨_, (pss_cons (ps_set (i := 1) sc_cheapest_prior.nd rfl (Or.inl rfl) (pe_cal (ok_cheapest T) (hr.mono (by decide)) pass0 (pa_cons (pe_fldC T.c_Monitor T.a_Monitor_setting (pv 0)) pa_nil)))
      (pss_one (ps_ret (pe_op op_cat (pe_op op_cat (pe_lst (pa_cons pe_int pa_nil)) (pe_callTy listT (by rfl) T.n_list bt_list (pa_cons (pe_ix ixT (pv 1) pe_int (fun _ _ => rfl)) pa_nil))) (pe_callTy listT (by rfl) T.n_list bt_list (pa_cons (pe_ix ixT (pv 1) pe_int (fun _ _ => rfl)) pa_nil)))))), ?_⟩
  obtain ⟨m, sa, pa, h, rfl, r, g, k⟩ := h
  have k : Ans K H Q E ⟨0, Kp416.fraction (Kp416.cheapestPrior h.setting) ++ Kp416.fraction (totalCost (withPrior h.setting (Kp416.cheapestPrior h.setting)))⟩ := ans_rs .cheapestPrior rfl k
  obtain ⟨rs, dm, fs, h1, h2⟩ := r.set
  refine ⟨_, rfl, _, _, _, _, rfl, h1, h2, sa, h.setting, rfl, rs, g.s, fun p b l H1 s1 ep eb el => ?_⟩
  refine ⟨szl, fun u nu => ?_⟩
  have su := Same.new (o := .lst [V.int 0]) nu
  refine ⟨_, rfl, _, _, 0, _, rfl, rfl, su _ _ ep, rfl, ?_⟩
  refine cat_go (Same.refl _) upd_same (su _ _ eb) (by show 1 ≤ 900; decide) (fun q H2 s2 nq hq => ?_)
  refine ⟨_, rfl, _, _, 1, _, rfl, rfl, s2 _ _ (su _ _ ep), rfl, ?_⟩
  exact cat_go ((s1.trans su).trans s2) hq (s2 _ _ (su _ _ el)) (by show 3 ≤ 900; decide) (ans_is k (by show (0 : Int) ≤ 0; decide))
end
end PW
set_option Elab.async false
set_option linter.all false
set_option maxRecDepth 100000
set_option maxHeartbeats 4000000
/-! The calls of the log and of the permit: log_calls, permit_calls. -/
namespace PW
open PySem PySem.Spec PyProof.Rows L2
open Kp417 (Monitor Policy EntryKind Permit policyAt run query single listResult boolResult withEntry testEntry nextHarm allowed)
/-- all but m, sa, pa as it was -/
def Fr3 (H H' : Hp) (m sa pa : Addr) : Prop := ∀ b o, H b = some o → b ≠ m → b ≠ sa → b ≠ pa → H' b = some o
theorem sfr3 {H H' : Hp} {m sa pa : Addr} (s : Same H H') : Fr3 H H' m sa pa := fun b o e _ _ _ => s b o e
theorem Fr3.then {H H1 H2 : Hp} {m sa pa : Addr} (a : Fr3 H H1 m sa pa) (s : Same H1 H2) : Fr3 H H2 m sa pa := fun b o e n1 n2 n3 => s _ _ (a b o e n1 n2 n3)
theorem Fr3.m {H H1 : Hp} {m sa pa : Addr} {o : HO} (a : Fr3 H H1 m sa pa) : Fr3 H (upd H1 m o) m sa pa := fun b u e n1 n2 n3 => by rw [upd_ne n1]; exact a b u e n1 n2 n3
theorem Fr3.s {H H1 : Hp} {m sa pa : Addr} {o : HO} (a : Fr3 H H1 m sa pa) : Fr3 H (upd H1 sa o) m sa pa := fun b u e n1 n2 n3 => by rw [upd_ne n2]; exact a b u e n1 n2 n3
theorem Fr3.p {H H1 : Hp} {m sa pa : Addr} {o : HO} (a : Fr3 H H1 m sa pa) : Fr3 H (upd H1 pa o) m sa pa := fun b u e n1 n2 n3 => by rw [upd_ne n3]; exact a b u e n1 n2 n3
/-- a call that may change the monitor -/
def OutM (K : PySem.W.Frag) (H : Hp) (m : Addr) (h : Monitor) (sa pa : Addr) (Q : VK) (E : XK) (o : Kp417.Outcome) : Prop :=
  if o.2.num < 0 then Rs K o.2.num.natAbs H E else ∀ p H', Fr3 H H' m sa pa → MonR K H' m (o.1.getD h) sa pa → H p = none → H' p = some (.lst ((o.2.num :: o.2.nums).map V.int)) → Q (.ref p) H'
section
variable {K : PySem.W.Frag} {H H' : Hp} {m sa pa la : Addr} {h : Monitor} {Q : VK} {E : XK} {pv : V}
theorem out_no {n : Nat} (k : OutM K H m h sa pa Q E (query (single (-(n : Int))))) (hn : 0 < n := by decide) : Rs K n H E := by
  unfold OutM at k
  rw [if_pos (show (query (single (-(n : Int)))).2.num < 0 from show (-(n : Int)) < 0 by omega)] at k
  have e : (query (single (-(n : Int)))).2.num.natAbs = n := by show (-(n : Int)).natAbs = n; omega
  rw [e] at k
  exact k
theorem out_is {o : Kp417.Outcome} (k : OutM K H m h sa pa Q E o) (hn : 0 ≤ o.2.num) : ∀ p H', Fr3 H H' m sa pa → MonR K H' m (o.1.getD h) sa pa → H p = none → H' p = some (.lst ((o.2.num :: o.2.nums).map V.int)) → Q (.ref p) H' := by
  unfold OutM at k
  rw [if_neg (by omega)] at k
  exact k
/-- a call that changes nothing, seen so -/
theorem out_ans {a : Kp417.Ans} (r : MonR K H m h sa pa) (k : OutM K H m h sa pa Q E (query a)) : Ans K H Q E a := by
  unfold OutM at k
  unfold Ans
  by_cases c : a.num < 0
  · rw [if_pos (show (query a).2.num < 0 from c)] at k
    rw [if_pos c]
    exact k
  · rw [if_neg (show ¬ (query a).2.num < 0 from c)] at k
    rw [if_neg c]
    exact fun p H' s n e => k p H' (sfr3 s) (r.same s) n e
/-- all of a monitor but its own instance -/
structure Parts (K : PySem.W.Frag) (H : Hp) (h : Monitor) (sa pa la : Addr) (pv : V) : Prop where
  ex : ∃ (dx tw pw : Addr) (ps es : List Addr),
    H sa = some (.ins (gad K "Setting") dx (setFs (Kp415.signalCount h.setting.model) tw pw h.setting.model.priorNum h.setting.model.priorDen h.setting.gain h.setting.loss h.setting.harmPrice h.setting.testPrice)) ∧
    H tw = some (.lst (natL h.setting.model.testWeights)) ∧ H pw = some (.lst (natL h.setting.model.productionWeights)) ∧
    H pa = some (.lst (ps.map V.ref)) ∧ PolL K H ps h.policies ∧ H la = some (.lst (es.map V.ref)) ∧ EntL H es h.log ∧ PerV H pv h.permit ∧ pa ≠ la ∧ pa ≠ tw ∧ pa ≠ pw
theorem MonR.parts (r : MonR K H m h sa pa) : ∃ dm la pv, H m = some (.ins (gad K "Monitor") dm (monFs (.ref sa) pa la pv)) ∧ Parts K H h sa pa la pv := by
  obtain ⟨dm, la, dx, tw, pw, pv, ps, es, h1, h2, h3, h4, h5, h6, h7, h8, h9, n1, n2, n3⟩ := r.ex
  exact ⟨dm, la, pv, h1, dx, tw, pw, ps, es, h2, h3, h4, h5, h6, h7, h8, h9, n1, n2, n3⟩
theorem MonR.parts_at {dm la : Addr} {pv : V} (r : MonR K H m h sa pa) (e : H m = some (.ins (gad K "Monitor") dm (monFs (.ref sa) pa la pv))) : Parts K H h sa pa la pv := by
  obtain ⟨dm', la', pv', h1, p⟩ := r.parts
  rw [e] at h1
  injection h1 with h1
  injection h1 with _ _ h2
  unfold monFs at h2
  simp only [List.cons.injEq, Prod.mk.injEq, true_and, and_true, V.ref.injEq] at h2
  obtain ⟨a1, a2⟩ := h2
  rw [a1, a2]
  exact p
theorem Parts.mon {dm : Addr} (p : Parts K H h sa pa la pv) (e : H m = some (.ins (gad K "Monitor") dm (monFs (.ref sa) pa la pv))) : MonR K H m h sa pa := by
  obtain ⟨dx, tw, pw, ps, es, h2, h3, h4, h5, h6, h7, h8, h9, n1, n2, n3⟩ := p.ex
  exact ⟨dm, la, dx, tw, pw, pv, ps, es, e, h2, h3, h4, h5, h6, h7, h8, h9, n1, n2, n3⟩
theorem Parts.same (p : Parts K H h sa pa la pv) (s : Same H H') : Parts K H' h sa pa la pv := by
  obtain ⟨dx, tw, pw, ps, es, h2, h3, h4, h5, h6, h7, h8, h9, n1, n2, n3⟩ := p.ex
  exact ⟨dx, tw, pw, ps, es, s _ _ h2, s _ _ h3, s _ _ h4, s _ _ h5, h6.same s, s _ _ h7, h8.same s, h9.same s, n1, n2, n3⟩
theorem ins_ne {H : Hp} {a b C1 C2 d1 d2 : Addr} {f1 f2 : List (Str × V)} (h1 : H a = some (.ins C1 d1 f1)) (h2 : H b = some (.ins C2 d2 f2)) (n : (f1.length == f2.length) = false) : a ≠ b := ne_of h1 h2 fun z => by
  injection z with _ _ z3
  rw [z3] at n
  simp at n
theorem PerV.put {H : Hp} {a : Addr} {o : HO} {C d : Addr} {fs : List (Str × V)} (e : H a = some (.ins C d fs)) : ∀ {x : Option Permit}, PerV H pv x → PerV (upd H a o) pv x
  | none, h => h
  | some p, ⟨b, h1, h2⟩ => ⟨b, h1, by rw [upd_ne (ne_of h2 e (fun z => by cases z))]; exact h2⟩
theorem PerV.putL {H : Hp} {a : Addr} {o : HO} {xs : List V} (e : H a = some (.lst xs)) : ∀ {x : Option Permit}, PerV H pv x → PerV (upd H a o) pv x
  | none, h => h
  | some p, ⟨b, h1, h2⟩ => ⟨b, h1, by rw [upd_ne (ne_of h2 e (fun z => by cases z))]; exact h2⟩
/-- the monitor's own instance is changed -/
theorem Parts.putM {dm : Addr} {o : HO} {sv : V} {x y : Addr} {z : V} (p : Parts K H h sa pa la pv) (e : H m = some (.ins (gad K "Monitor") dm (monFs sv x y z))) : Parts K (upd H m o) h sa pa la pv := by
  obtain ⟨dx, tw, pw, ps, es, h2, h3, h4, h5, h6, h7, h8, h9, n1, n2, n3⟩ := p.ex
  have lm : ∀ {b : Addr} {xs : List V}, H b = some (.lst xs) → upd H m o b = some (.lst xs) := fun {b xs} q => by rw [upd_ne (ne_of q e (fun z => by cases z))]; exact q
  refine ⟨dx, tw, pw, ps, es, ?_, lm h3, lm h4, lm h5, ⟨h6.1, fun i p q a b => ?_⟩, lm h7, ⟨h8.1, fun i p q a b => ?_⟩, h9.put e, n1, n2, n3⟩
  · rw [upd_ne (ins_ne h2 e rfl)]
    exact h2
  · obtain ⟨d, hd⟩ := h6.2 i p q a b
    exact ⟨d, by rw [upd_ne (ins_ne hd e rfl)]; exact hd⟩
  · have hd := h8.2 i p q a b
    rw [upd_ne (ne_of hd e (fun z => by unfold entT at z; cases z))]
    exact hd
theorem Parts.log {l : List Kp417.Entry} {la' : Addr} {es : List Addr} (p : Parts K H h sa pa la pv) (e : H la' = some (.lst (es.map V.ref))) (f : EntL H es l) (n : pa ≠ la') : Parts K H { h with log := l } sa pa la' pv := by
  obtain ⟨dx, tw, pw, ps, es', h2, h3, h4, h5, h6, h7, h8, h9, n1, n2, n3⟩ := p.ex
  exact ⟨dx, tw, pw, ps, es, h2, h3, h4, h5, h6, e, f, h9, n, n2, n3⟩
theorem Parts.per {pv' : V} {x : Option Permit} (p : Parts K H h sa pa la pv) (f : PerV H pv' x) : Parts K H { h with permit := x } sa pa la pv' := by
  obtain ⟨dx, tw, pw, ps, es, h2, h3, h4, h5, h6, h7, h8, h9, n1, n2, n3⟩ := p.ex
  exact ⟨dx, tw, pw, ps, es, h2, h3, h4, h5, h6, h7, h8, f, n1, n2, n3⟩
theorem EntL.snoc {H : Hp} {es : List Addr} {l : List Kp417.Entry} {p : Addr} {e : Kp417.Entry} (f : EntL H es l) (hp : H p = some (entT e)) : EntL H (es ++ [p]) (l ++ [e]) := by
  refine ⟨by rw [List.length_append, List.length_append, f.1]; rfl, fun j q x a b => ?_⟩
  by_cases hj : j < es.length
  · rw [List.getElem?_append_left hj] at a
    rw [List.getElem?_append_left (by rw [← f.1]; exact hj)] at b
    exact f.2 j q x a b
  · rw [List.getElem?_append_right (by omega)] at a
    rw [List.getElem?_append_right (by rw [← f.1]; omega), ← f.1] at b
    have hz : j - es.length = 0 := by
      have := (List.getElem?_eq_some_iff.mp a).1
      simp at this
      omega
    rw [hz] at a b
    cases a
    cases b
    exact hp
end
theorem kind_code {c s : Nat} (h : ¬ 1 < c) : entT (testEntry s c) = .tup [.int (c : Int), .int (s : Int)] := by
  unfold entT testEntry
  have e : c = 0 ∨ c = 1 := by omega
  rcases e with e | e <;> subst e <;> rfl
section
variable {P : Program} {w : World} {K : PySem.W.Frag} {mg : Str → Option Value} {base : Heap}
def sp_require_appearing (K : PySem.W.Frag) : Sp := fun vs H Q E =>
  ∃ (a : Addr) (ws : List Nat) (s : Nat), vs = [.ref a, .int s] ∧ H a = some (.lst (natL ws)) ∧ s < ws.length ∧ (decide (0 < ws.getD s 0) = false → Rs K 22 H E) ∧ (decide (0 < ws.getD s 0) = true → Q .non H)
theorem ok_require_appearing (T : Tx K mg) : Cal P w K mg base (L2.CX P w) 3 "require_appearing" (sp_require_appearing K) := by
  refine (T.d_require_appearing).okX sc_require_appearing bd_require_appearing (fun vs H Q E h => ?_) (fun f cdv A outer s H vs Q E hr h => ?_)
  · obtain ⟨_, _, _, rfl, _⟩ := h; rfl
  refine ⟨_, (pss_one (ps_if (pt_cmpR eqI (pe_ix ixL (pv 0) (pv 1) (fun _ _ => rfl)) pe_int (nomark _)) (pss_one (ps_raiseR rfl T.ref T.r_OutsideLimits hr (W := fun cls d _ H => E cls d H) (takes_of rfl rfl rfl rfl))) pss_nil)), ?_⟩
  obtain ⟨a, ws, s, rfl, ha, hs, k1, k2⟩ := h
  refine ⟨_, rfl, _, rfl, _, _, s, _, rfl, rfl, ha, natL_at hs, _, _, rfl, rfl, _, rfl, ?_⟩
  refine ite2 (fun hz => ?_) (fun hz => ?_)
  · have hz2 := of_decide_eq_true hz
    exact rs_go "OutsideLimits" (k1 (decide_eq_false (by omega))) rf_OutsideLimits
  · have hz2 : ¬ ((ws.getD s 0 : Nat) : Int) = 0 := fun q => hz (decide_eq_true q)
    exact k2 (decide_eq_true (by omega))
def sp_require_room (K : PySem.W.Frag) : Sp := fun vs H Q E =>
  ∃ (m sa pa : Addr) (h : Monitor), vs = [.ref m] ∧ MonR K H m h sa pa ∧ (16 ≤ h.log.length → Rs K 28 H E) ∧ (¬ 16 ≤ h.log.length → Q .non H)
theorem ok_require_room (T : Tx K mg) : Cal P w K mg base (L2.CX P w) 3 "require_room" (sp_require_room K) := by
  refine (T.d_require_room).okX sc_require_room bd_require_room (fun vs H Q E h => ?_) (fun f cdv A outer s H vs Q E hr h => ?_)
  · obtain ⟨_, _, _, _, rfl, _⟩ := h; rfl
  refine ⟨_, (pss_one (ps_if (pt_cmpR op_ge (pe_callB lenL (by rfl) T.n_len bt_len (pa_cons (pe_fldC T.c_Monitor T.a_Monitor_log (pv 0)) pa_nil)) (pe_gint T.i_MOST_ENTRIES) (nomark _)) (pss_one (ps_raiseR rfl T.ref T.r_Full hr (W := fun cls d _ H => E cls d H) (takes_of rfl rfl rfl rfl))) pss_nil)), ?_⟩
  obtain ⟨m, sa, pa, h, rfl, r, k1, k2⟩ := h
  obtain ⟨dm, la, dx, tw, pw, pv, ps, es, h1, h2, h3, h4, h5, h6, h7, h8, h9, n1, n2, n3⟩ := r.ex
  refine ⟨_, rfl, _, _, _, _, rfl, h1, rfl, _, _, rfl, h7, _, _, rfl, rfl, _, rfl, ?_⟩
  rw [List.length_map, h8.1]
  refine ite2 (fun hz => ?_) (fun hz => ?_)
  · have hz2 := of_decide_eq_true hz
    exact rs_go "Full" (k1 (by omega)) rf_Full
  · have hz2 : ¬ (16 : Int) ≤ (h.log.length : Int) := fun q => hz (decide_eq_true q)
    exact k2 (by omega)
def sp_require_possible_test (K : PySem.W.Frag) : Sp := fun vs H Q E =>
  ∃ (m sa pa : Addr) (h : Monitor) (s c : Nat), vs = [.ref m, .int s, .int c] ∧ MonR K H m h sa pa ∧ (Kp415.isSignal h.setting.model s = false → Rs K 2 H E) ∧ (Kp415.isSignal h.setting.model s = true → 1 < c ∨ Kp417.appearsInTests h s = false → Rs K 22 H E) ∧ (Kp415.isSignal h.setting.model s = true → ¬ (1 < c ∨ Kp417.appearsInTests h s = false) → Q .non H)
theorem ok_require_possible_test (T : Tx K mg) : Cal P w K mg base (L2.CX P w) 4 "require_possible_test" (sp_require_possible_test K) := by
  refine (T.d_require_possible_test).okX sc_require_possible_test bd_require_possible_test (fun vs H Q E h => ?_) (fun f cdv A outer s H vs Q E hr h => ?_)
  · obtain ⟨_, _, _, _, _, _, rfl, _⟩ := h; rfl
  refine ⟨_, (pss_cons (ps_expr (pe_cal (ok_require_signal T) (hr.mono (by decide)) (passes_call (E := E) (W := fun cls d _ H => E cls d H) (takes_of rfl rfl rfl rfl) (fun _ _ _ _ h => h)) (pa_cons (pv 0) (pa_cons (pv 1) pa_nil))))
      (pss_cons (ps_expr (pe_cal (ok_require_within T) (hr.mono (by decide)) (passes_call (E := E) (W := fun cls d _ H => E cls d H) (takes_of rfl rfl rfl rfl) (fun _ _ _ _ h => h)) (pa_cons (pv 2) (pa_cons pe_int (pa_cons pe_int pa_nil)))))
      (pss_one (ps_expr (pe_cal (ok_require_appearing T) (hr.mono (by decide)) (passes_call (E := E) (W := fun cls d _ H => E cls d H) (takes_of rfl rfl rfl rfl) (fun _ _ _ _ h => h)) (pa_cons (pe_fldC T.c_Setting T.a_Setting_test_weights (pe_fldC T.c_Monitor T.a_Monitor_setting (pv 0))) (pa_cons (pv 1) pa_nil))))))), ?_⟩
  obtain ⟨m, sa, pa, h, s, c, rfl, r, k1, k2, k3⟩ := h
  obtain ⟨dm, la, dx, tw, pw, pv, ps, es, h1, h2, h3, h4, h5, h6, h7, h8, h9, n1, n2, n3⟩ := r.ex
  refine ⟨_, rfl, _, rfl, m, sa, pa, h, s, rfl, r, k1, fun hs => ?_⟩
  have k2 := k2 hs
  have k3 := k3 hs
  refine ⟨_, rfl, c, 0, 1, rfl, fun hc => k2 (.inl (by omega)), fun _ hc => ?_⟩
  refine ⟨_, rfl, _, _, _, _, rfl, h1, rfl, _, _, _, _, rfl, h2, rfl, _, rfl, tw, _, s, rfl, h3, of_decide_eq_true hs, fun ha => k2 (.inr ha), fun ha => k3 ?_⟩
  rintro (q | q)
  · omega
  · unfold Kp417.appearsInTests at q
    rw [ha] at q
    cases q
def sp_record_test (K : PySem.W.Frag) : Sp := fun vs H Q E =>
  ∃ (m sa pa : Addr) (h : Monitor) (s c : Nat), vs = [.ref m, .int s, .int c] ∧ MonR K H m h sa pa ∧ Good h ∧ OutM K H m h sa pa Q E (run h (.recordTest s c))
theorem ok_record_test (T : Tx K mg) : Cal P w K mg base (L2.CX P w) 5 "record_test" (sp_record_test K) := by
  refine (T.d_record_test).okX sc_record_test bd_record_test (fun vs H Q E h => ?_) (fun f cdv A outer s H vs Q E hr h => ?_)
  · obtain ⟨_, _, _, _, _, _, rfl, _⟩ := h; rfl
  refine ⟨_, (pss_cons (ps_expr (pe_cal (ok_require_possible_test T) (hr.mono (by decide)) (passes_call (E := E) (W := fun cls d _ H => E cls d H) (takes_of rfl rfl rfl rfl) (fun _ _ _ _ h => h)) (pa_cons (pv 0) (pa_cons (pv 1) (pa_cons (pv 2) pa_nil)))))
      (pss_cons (ps_expr (pe_cal (ok_require_room T) (hr.mono (by decide)) (passes_call (E := E) (W := fun cls d _ H => E cls d H) (takes_of rfl rfl rfl rfl) (fun _ _ _ _ h => h)) (pa_cons (pv 0) pa_nil)))
      (pss_cons (ps_set (i := 3) sc_record_test.nd rfl (Or.inl rfl) (pe_op op_cat (pe_fldC T.c_Monitor T.a_Monitor_log (pv 0)) (pe_lst (pa_cons (pe_tup (pa_cons (pv 2) (pa_cons (pv 1) pa_nil))) pa_nil))))
      (pss_cons (ps_set (i := 4) sc_record_test.nd rfl (Or.inl rfl) (pe_cal (ok_candidates_under T) (hr.mono (by decide)) pass0 (pa_cons (pv 0) (pa_cons (pv 3) pa_nil))))
      (pss_cons (ps_if (pt_cmpR eqI (pe_callB lenL (by rfl) T.n_len bt_len (pa_cons (pv 4) pa_nil)) pe_int (nomark _)) (pss_one (ps_raiseR rfl T.ref T.r_NoValue hr (W := fun cls d _ H => E cls d H) (takes_of rfl rfl rfl rfl))) pss_nil)
      (pss_cons (ps_fldC T.c_Monitor T.a_Monitor_log (pv 0) (pv 3))
      (pss_one (ps_ret (pe_lst (pa_cons (pe_callB lenL (by rfl) T.n_len bt_len (pa_cons (pv 4) pa_nil)) pa_nil)))))))))), ?_⟩
  obtain ⟨m, sa, pa, h, s, c, rfl, r, g, k⟩ := h
  have k : OutM K H m h sa pa Q E (if Kp415.isSignal h.setting.model s = false then query (single (-2)) else if 1 < c ∨ Kp417.appearsInTests h s = false then query (single (-22)) else if 16 ≤ h.log.length then query (single (-28)) else
      if (Kp417.candidates (withEntry h (testEntry s c))).isEmpty then query (single (-33)) else (some (withEntry h (testEntry s c)), single ((Kp417.candidates (withEntry h (testEntry s c))).length : Nat))) := k
  refine ⟨_, rfl, _, rfl, _, rfl, m, sa, pa, h, s, c, rfl, r, fun hs => ?_, fun hs hc => ?_, fun hs hc => ?_⟩
  · rw [if_pos hs] at k
    exact out_no (n := 2) k
  · rw [if_neg (by rw [hs]; decide), if_pos hc] at k
    exact out_no (n := 22) k
  rw [if_neg (by rw [hs]; decide), if_neg hc] at k
  refine ⟨_, rfl, m, sa, pa, h, rfl, r, fun hl => ?_, fun hl => ?_⟩
  · rw [if_pos hl] at k
    exact out_no (n := 28) k
  rw [if_neg hl] at k
  obtain ⟨dm, la, dx, tw, pw, pv, ps, es, h1, h2, h3, h4, h5, h6, h7, h8, h9, n1, n2, n3⟩ := r.ex
  have hc1 : ¬ 1 < c := fun z => hc (.inl z)
  refine ⟨_, rfl, _, _, _, _, rfl, h1, rfl, _, rfl, _, rfl, szl, fun t nt => ?_⟩
  have st := Same.new (o := .tup [V.int (c : Int), V.int (s : Int)]) nt
  refine ⟨szl, fun u nu => ?_⟩
  have su := Same.new (o := .lst [V.ref t]) nu
  have s2 := st.trans su
  refine ⟨la, u, _, _, rfl, rfl, s2 _ _ h7, upd_same, Nat.le_trans (show (es.map V.ref).length + 1 ≤ 17 by rw [List.length_map, h8.1]; omega) (by decide), fun lg nl => ?_⟩
  have sl := Same.new (o := .lst (es.map V.ref ++ [V.ref t])) nl
  have s3 := s2.trans sl
  have et : HO.tup [V.int (c : Int), V.int (s : Int)] = entT (testEntry s c) := (kind_code hc1).symm
  have hlg : (es.map V.ref ++ [V.ref t]) = (es ++ [t]).map V.ref := by rw [List.map_append]; rfl
  rw [hlg]
  rw [hlg] at sl s3
  have en := (h8.same s3).snoc (p := t) (e := testEntry s c) (sl _ _ (su _ _ (by rw [← et]; exact upd_same)))
  have nlp : pa ≠ lg := fun z => by rw [← z] at nl; rw [s2 _ _ h5] at nl; cases nl
  refine ⟨_, rfl, _, rfl, m, lg, sa, pa, h, es ++ [t], h.log ++ [testEntry s c], rfl, r.same s3, g, upd_same, en, fun p1 H1 s4 e1 => ?_⟩
  have ew : ({ h with log := h.log ++ [testEntry s c] } : Monitor) = withEntry h (testEntry s c) := rfl
  rw [ew] at e1
  have s5 := s3.trans s4
  refine ⟨_, rfl, _, _, rfl, e1, _, _, rfl, rfl, _, rfl, ?_⟩
  rw [natL_len]
  cases ec : Kp417.candidates (withEntry h (testEntry s c)) with
  | nil =>
    rw [ec] at k
    exact iteT (rs_go "NoValue" ((out_no (n := 33) k).same s5) rf_NoValue)
  | cons x xs =>
    rw [ec] at k e1
    rw [show decide (((x :: xs).length : Int) = 0) = false from decide_eq_false (by rw [List.length_cons]; omega)]
    refine iteF ⟨_, rfl, _, rfl, _, _, _, rfl, s5 _ _ h1, szs, ?_⟩
    have e2 : upd H1 m (.ins (gad K "Monitor") dm (putF "log" (V.ref lg) (monFs (.ref sa) pa la pv))) p1 = some (.lst (natL (x :: xs))) := by
      rw [upd_ne (ne_of e1 (s5 _ _ h1) (fun z => by cases z))]
      exact e1
    refine ⟨_, rfl, _, _, rfl, e2, szl, fun p np => ?_⟩
    have sp := Same.new (o := .lst [V.int ((natL (x :: xs)).length : Int)]) np
    have pt := ((((r.parts_at h1).same s5).log (s4 _ _ upd_same) (en.same s4) nlp).putM (o := .ins (gad K "Monitor") dm (putF "log" (V.ref lg) (monFs (.ref sa) pa la pv))) (s5 _ _ h1)).same sp
    refine out_is k (Int.natCast_nonneg _) p _ (((sfr3 s5).m).then sp) (pt.mon (dm := dm) (sp _ _ (by rw [upd_same]; rfl))) ?_ ?_
    · have np2 : H1 p = none := by
        by_cases hpm : p = m
        · rw [hpm, upd_same] at np; cases np
        · rw [upd_ne hpm] at np; exact np
      exact s5.free np2
    · rw [upd_same, natL_len]
      rfl
end
end PW
set_option Elab.async false
set_option linter.all false
set_option maxRecDepth 100000
set_option maxHeartbeats 4000000
/-! The rest of log_calls, permit_calls. -/
namespace PW
open PySem PySem.Spec PyProof.Rows L2
open Kp417 (Monitor Policy EntryKind Permit policyAt run query single listResult boolResult withEntry testEntry nextHarm allowed)
theorem up_free {H : Hp} {m p : Addr} {o u : HO} (hm : H m = some u) (n : upd H m o p = none) : H p = none := by
  by_cases e : p = m
  · rw [e, upd_same] at n; cases n
  · rw [upd_ne e] at n; exact n
theorem up_lst {H : Hp} {m p C d : Addr} {o : HO} {fs : List (Str × V)} {xs : List V} (hm : H m = some (.ins C d fs)) (e : H p = some (.lst xs)) : upd H m o p = some (.lst xs) := by
  rw [upd_ne (ne_of e hm (fun z => by cases z))]
  exact e
theorem up_tup {H : Hp} {m p C d : Addr} {o : HO} {fs : List (Str × V)} {xs : List V} (hm : H m = some (.ins C d fs)) (e : H p = some (.tup xs)) : upd H m o p = some (.tup xs) := by
  rw [upd_ne (ne_of e hm (fun z => by cases z))]
  exact e
section
variable {P : Program} {w : World} {K : PySem.W.Frag} {mg : Str → Option Value} {base : Heap}
def sp_record_production (K : PySem.W.Frag) : Sp := fun vs H Q E =>
  ∃ (m sa pa : Addr) (h : Monitor) (s : Nat), vs = [.ref m, .int s] ∧ MonR K H m h sa pa ∧ Good h ∧ OutM K H m h sa pa Q E (run h (.recordProduction s))
theorem ok_record_production (T : Tx K mg) : Cal P w K mg base (L2.CX P w) 8 "record_production" (sp_record_production K) := by
  refine (T.d_record_production).okX sc_record_production bd_record_production (fun vs H Q E h => ?_) (fun f cdv A outer s H vs Q E hr h => ?_)
  · obtain ⟨_, _, _, _, _, rfl, _⟩ := h; rfl
  refine ⟨_, (pss_cons (ps_expr (pe_cal (ok_require_signal T) (hr.mono (by decide)) (passes_call (E := E) (W := fun cls d _ H => E cls d H) (takes_of rfl rfl rfl rfl) (fun _ _ _ _ h => h)) (pa_cons (pv 0) (pa_cons (pv 1) pa_nil))))
      (pss_cons (ps_expr (pe_cal (ok_require_appearing T) (hr.mono (by decide)) (passes_call (E := E) (W := fun cls d _ H => E cls d H) (takes_of rfl rfl rfl rfl) (fun _ _ _ _ h => h)) (pa_cons (pe_fldC T.c_Setting T.a_Setting_production_weights (pe_fldC T.c_Monitor T.a_Monitor_setting (pv 0))) (pa_cons (pv 1) pa_nil))))
      (pss_cons (ps_expr (pe_cal (ok_require_room T) (hr.mono (by decide)) (passes_call (E := E) (W := fun cls d _ H => E cls d H) (takes_of rfl rfl rfl rfl) (fun _ _ _ _ h => h)) (pa_cons (pv 0) pa_nil)))
      (pss_cons (ps_expr (pe_cal (ok_require_candidates T) (hr.mono (by decide)) (passes_call (E := E) (W := fun cls d _ H => E cls d H) (takes_of rfl rfl rfl rfl) (fun _ _ _ _ h => h)) (pa_cons (pv 0) pa_nil)))
      (pss_cons (ps_if (pt_not (pt_val (pe_cal (ok_is_allowed T) (hr.mono (by decide)) pass0 (pa_cons (pv 0) pa_nil)))) (pss_one (ps_raiseR rfl T.ref T.r_HarmTooHigh hr (W := fun cls d _ H => E cls d H) (takes_of rfl rfl rfl rfl))) pss_nil)
      (pss_cons (ps_fldC T.c_Monitor T.a_Monitor_log (pv 0) (pe_op op_cat (pe_fldC T.c_Monitor T.a_Monitor_log (pv 0)) (pe_lst (pa_cons (pe_tup (pa_cons (pe_gint T.i_PRODUCTION) (pa_cons (pv 1) pa_nil))) pa_nil))))
      (pss_one (ps_ret (pe_lst (pa_cons (pe_callB lenL (by rfl) T.n_len bt_len (pa_cons (pe_cal (ok_suspects_of T) (hr.mono (by decide)) pass0 (pa_cons (pv 0) (pa_cons (pv 1) pa_nil))) pa_nil)) pa_nil)))))))))), ?_⟩
  obtain ⟨m, sa, pa, h, s, rfl, r, g, k⟩ := h
  have k : OutM K H m h sa pa Q E (if Kp415.isSignal h.setting.model s = false then query (single (-2)) else if Kp417.appearsInProduction h s = false then query (single (-22)) else if 16 ≤ h.log.length then query (single (-28)) else if (Kp417.candidates h).isEmpty then query (single (-33)) else if allowed h = false then query (single (-30)) else
    (some (withEntry h ⟨.production, s⟩), single (((Kp417.candidates h).filter fun i => Kp415.contains (policyAt h i).cheatSet s).length : Nat))) := k
  obtain ⟨dm, la, dx, tw, pw, pv, ps, es, h1, h2, h3, h4, h5, h6, h7, h8, h9, n1, n2, n3⟩ := r.ex
  refine ⟨_, rfl, _, rfl, m, sa, pa, h, s, rfl, r, fun hs => ?_, fun hs => ?_⟩
  · rw [if_pos hs] at k
    exact out_no (n := 2) k
  rw [if_neg (by rw [hs]; decide)] at k
  refine ⟨_, rfl, _, _, _, _, rfl, h1, rfl, _, _, _, _, rfl, h2, rfl, _, rfl, pw, _, s, rfl, h4, by rw [g.s.pw.len]; exact of_decide_eq_true hs, fun ha => ?_, fun ha => ?_⟩
  · rw [if_pos (show Kp417.appearsInProduction h s = false from ha)] at k
    exact out_no (n := 22) k
  rw [if_neg (by unfold Kp417.appearsInProduction; rw [ha]; decide)] at k
  refine ⟨_, rfl, m, sa, pa, h, rfl, r, fun hl => ?_, fun hl => ?_⟩
  · rw [if_pos hl] at k
    exact out_no (n := 28) k
  rw [if_neg hl] at k
  refine ⟨_, rfl, m, sa, pa, h, rfl, r, g, fun hc => ?_, fun hc H0 s0 => ?_⟩
  · rw [if_pos hc] at k
    exact out_no (n := 33) k
  rw [if_neg (by rw [hc]; decide)] at k
  refine ⟨_, rfl, m, sa, pa, h, rfl, r.same s0, g, fun H1 s1 => ?_⟩
  have s01 := s0.trans s1
  refine ⟨_, rfl, ?_⟩
  cases ea : allowed h with
  | false =>
    rw [if_pos ea] at k
    exact iteT (rs_go "HarmTooHigh" ((out_no (n := 30) k).same s01) rf_HarmTooHigh)
  | true =>
    rw [if_neg (by rw [ea]; decide)] at k
    refine iteF ⟨_, rfl, _, _, _, _, rfl, s01 _ _ h1, rfl, _, rfl, szl, fun t nt => ?_⟩
    have st := Same.new (o := .tup [V.int 2, V.int (s : Int)]) nt
    refine ⟨szl, fun u nu => ?_⟩
    have su := Same.new (o := .lst [V.ref t]) nu
    have s2 := (s01.trans st).trans su
    refine ⟨la, u, _, _, rfl, rfl, s2 _ _ h7, upd_same, Nat.le_trans (show (es.map V.ref).length + 1 ≤ 17 by rw [List.length_map, h8.1]; omega) (by decide), fun lg nl => ?_⟩
    have hlg : (es.map V.ref ++ [V.ref t]) = (es ++ [t]).map V.ref := by rw [List.map_append]; rfl
    rw [hlg]
    have sl := Same.new (o := .lst ((es ++ [t]).map V.ref)) nl
    have s3 := s2.trans sl
    have en := (h8.same s3).snoc (p := t) (e := ⟨.production, s⟩) (sl _ _ (su _ _ (by exact upd_same)))
    have nlp : pa ≠ lg := fun z => by rw [← z] at nl; rw [s2 _ _ h5] at nl; cases nl
    refine ⟨_, rfl, _, _, _, rfl, s3 _ _ h1, szs, ?_⟩
    have pt := (((r.parts_at h1).same s3).log (l := h.log ++ [⟨.production, s⟩]) upd_same en nlp).putM (o := .ins (gad K "Monitor") dm (putF "log" (V.ref lg) (monFs (.ref sa) pa la pv))) (s3 _ _ h1)
    generalize hG : upd _ m (HO.ins (gad K "Monitor") dm (putF "log" (V.ref lg) (monFs (.ref sa) pa la pv))) = G at pt ⊢
    have hm : G m = some (.ins (gad K "Monitor") dm (monFs (.ref sa) pa lg pv)) := by rw [← hG, upd_same]; rfl
    have fG : Fr3 H G m sa pa := by rw [← hG]; exact (sfr3 s3).m
    have frG : ∀ {b : Addr}, G b = none → H b = none := fun {b} e => by
      rw [← hG] at e
      exact s3.free (up_free (s3 _ _ h1) e)
    have rG := pt.mon hm
    have gG : Good (withEntry h ⟨.production, s⟩) := ⟨g.s, g.p6, g.pw, by show (h.log ++ [_]).length ≤ 16; rw [List.length_append]; simp; omega, g.pm, g.p99, g.uq⟩
    have ec : (Kp417.candidates (withEntry h ⟨.production, s⟩)) = Kp417.candidates h := by
      unfold Kp417.candidates
      congr 1
      funext i
      show Kp417.consistent (h.log ++ [_]) (policyAt h i) = Kp417.consistent h.log (policyAt h i)
      rw [cons_all, cons_all, List.all_append]
      show (_ && (true && true)) = _
      rw [Bool.and_self, Bool.and_true]
    refine ⟨_, rfl, _, rfl, m, sa, pa, withEntry h ⟨.production, s⟩, s, rfl, rG, gG, fun p1 H4 s4 e1 => ?_⟩
    rw [ec] at e1
    refine ⟨_, _, rfl, e1, szl, fun p np => ?_⟩
    have sp := Same.new (o := .lst [V.int ((natL ((Kp417.candidates h).filter fun i => Kp415.contains (policyAt h i).cheatSet s)).length : Int)]) np
    refine out_is k (Int.natCast_nonneg _) p _ (fG.then (s4.trans sp)) (rG.same (s4.trans sp)) (frG (s4.free np)) ?_
    show upd H4 p (.lst [V.int ((natL ((Kp417.candidates h).filter fun i => Kp415.contains (policyAt h i).cheatSet s)).length : Int)]) p = _
    rw [upd_same, natL_len]
    rfl
theorem cut_last {xs : List V} {v : V} : cutV (xs ++ [v]) none (some (-1)) = xs := by
  unfold cutV
  have e1 : HT.sIx (xs ++ [v]).length 0 none = 0 := rfl
  have e2 : HT.sIx (xs ++ [v]).length (xs ++ [v]).length (some (-1)) = xs.length := by
    show (if (-1 : Int) < 0 then (-1 + ((xs ++ [v]).length : Int)).toNat else min (-1 : Int).toNat (xs ++ [v]).length) = xs.length
    rw [if_pos (by decide), List.length_append]
    simp
    omega
  rw [e1, e2, List.drop_zero, Nat.sub_zero, List.take_left']
  rfl
def sp_undo_record (K : PySem.W.Frag) : Sp := fun vs H Q E =>
  ∃ (m sa pa : Addr) (h : Monitor), vs = [.ref m] ∧ MonR K H m h sa pa ∧ Good h ∧ OutM K H m h sa pa Q E (run h .undoRecord)
theorem ok_undo_record (T : Tx K mg) : Cal P w K mg base (L2.CX P w) 3 "undo_record" (sp_undo_record K) := by
  refine (T.d_undo_record).okX sc_undo_record bd_undo_record (fun vs H Q E h => ?_) (fun f cdv A outer s H vs Q E hr h => ?_)
  · obtain ⟨_, _, _, _, rfl, _⟩ := h; rfl
  refine ⟨_, (pss_cons (ps_if (pt_cmpR eqI (pe_callB lenL (by rfl) T.n_len bt_len (pa_cons (pe_fldC T.c_Monitor T.a_Monitor_log (pv 0)) pa_nil)) pe_int (nomark _)) (pss_one (ps_raiseR rfl T.ref T.r_NothingToUndo hr (W := fun cls d _ H => E cls d H) (takes_of rfl rfl rfl rfl))) pss_nil)
      (pss_cons (ps_set (i := 1) sc_undo_record.nd rfl (Or.inl rfl) (pe_ix ix_list (pe_fldC T.c_Monitor T.a_Monitor_log (pv 0)) (pe_un un_neg pe_int) (fun _ _ => rfl)))
      (pss_cons (ps_fldC T.c_Monitor T.a_Monitor_log (pv 0) (pe_slice sl_list (pe_fldC T.c_Monitor T.a_Monitor_log (pv 0)) po_none (po_some (pe_un un_neg pe_int))))
      (pss_one (ps_ret (pe_lst (pa_cons (pe_ix ixT (pv 1) pe_int (fun _ _ => rfl)) (pa_cons (pe_ix ixT (pv 1) pe_int (fun _ _ => rfl)) pa_nil)))))))), ?_⟩
  obtain ⟨m, sa, pa, h, rfl, r, g, k⟩ := h
  have k : OutM K H m h sa pa Q E (match h.log.getLast? with | none => query (single (-6)) | some e => (some { h with log := h.log.dropLast }, ⟨(e.kind.code : Int), [(e.signal : Int)]⟩)) := k
  obtain ⟨dm, la, dx, tw, pw, pv, ps, es, h1, h2, h3, h4, h5, h6, h7, h8, h9, n1, n2, n3⟩ := r.ex
  refine ⟨_, rfl, _, _, _, _, rfl, h1, rfl, _, _, rfl, h7, _, _, rfl, rfl, _, rfl, ?_⟩
  rw [List.length_map, h8.1]
  rcases List.eq_nil_or_concat h.log with el | ⟨l, e, el⟩
  · rw [el] at k
    rw [el]
    exact iteT (rs_go "NothingToUndo" (out_no (n := 6) k) rf_NothingToUndo)
  rw [List.concat_eq_append] at el
  have hne : decide ((h.log.length : Int) = 0) = false := by
    rw [el, List.length_append]
    exact decide_eq_false (by simp; omega)
  rw [hne]
  refine iteF ?_
  have el1 : h.log.getLast? = some e := by rw [el]; simp
  have el2 : h.log.dropLast = l := by rw [el]; simp
  rw [el1] at k
  have k : OutM K H m h sa pa Q E (some { h with log := h.log.dropLast }, ⟨(e.kind.code : Int), [(e.signal : Int)]⟩) := k
  rw [el2] at k
  -- the addresses
  have hes : es.length = l.length + 1 := by rw [h8.1, el, List.length_append]; rfl
  rcases List.eq_nil_or_concat es with z | ⟨es', t, z⟩
  · rw [z] at hes; cases hes
  rw [List.concat_eq_append] at z
  have hes' : es'.length = l.length := by
    rw [z, List.length_append] at hes
    simpa using hes
  have ht : H t = some (entT e) := h8.2 l.length t e (by rw [z, List.getElem?_append_right (by omega), hes']; simp) (by rw [el, List.getElem?_append_right (Nat.le_refl _)]; simp)
  have hf : EntL H es' l := ⟨hes', fun i p x a b => h8.2 i p x (by rw [z, List.getElem?_append_left (List.getElem?_eq_some_iff.mp a).1]; exact a) (by rw [el, List.getElem?_append_left (List.getElem?_eq_some_iff.mp b).1]; exact b)⟩
  have hm1 : es.map V.ref = es'.map V.ref ++ [V.ref t] := by rw [z, List.map_append]; rfl
  rw [hm1] at h7
  refine ⟨_, rfl, _, _, _, _, rfl, h1, rfl, _, rfl, la, _, _, _, rfl, rfl, SqL.of h7, atI_last _ _, ?_⟩
  refine ⟨_, rfl, _, _, _, _, rfl, h1, rfl, _, rfl, _, rfl, la, _, rfl, SqL.of h7, fun lg nl => ?_⟩
  rw [cut_last]
  have sl := Same.new (o := .lst (es'.map V.ref)) nl
  have nlp : pa ≠ lg := fun q => by rw [← q] at nl; rw [h5] at nl; cases nl
  refine ⟨_, rfl, _, _, _, rfl, sl _ _ h1, szs, ?_⟩
  have pt := (((r.parts_at h1).same sl).log (l := l) upd_same (hf.same sl) nlp).putM (o := .ins (gad K "Monitor") dm (putF "log" (V.ref lg) (monFs (.ref sa) pa la pv))) (sl _ _ h1)
  generalize hG : upd _ m (HO.ins (gad K "Monitor") dm (putF "log" (V.ref lg) (monFs (.ref sa) pa la pv))) = G at pt ⊢
  have hm : G m = some (.ins (gad K "Monitor") dm (monFs (.ref sa) pa lg pv)) := by rw [← hG, upd_same]; rfl
  have tG : G t = some (entT e) := by
    rw [← hG]
    exact up_tup (sl _ _ h1) (sl _ _ ht)
  have fG : Fr3 H G m sa pa := by rw [← hG]; exact (sfr3 sl).m
  have frG : ∀ {b : Addr}, G b = none → H b = none := fun {b} q => by
    rw [← hG] at q
    exact sl.free (up_free (sl _ _ h1) q)
  have rG := pt.mon hm
  refine ⟨_, rfl, _, _, 0, _, rfl, rfl, tG, rfl, _, rfl, _, _, 1, _, rfl, rfl, tG, rfl, szl, fun p np => ?_⟩
  have sp := Same.new (o := .lst [V.int (e.kind.code : Int), V.int (e.signal : Int)]) np
  exact out_is k (Int.natCast_nonneg _) p _ (fG.then sp) (rG.same sp) (frG np) upd_same
theorem flat_succ {l : List Kp417.Entry} {i : Nat} {e : Kp417.Entry} (h : l[i]? = some e) : (l.take (i + 1)).flatMap (fun e => [(e.kind.code : Int), (e.signal : Int)]) = (l.take i).flatMap (fun e => [(e.kind.code : Int), (e.signal : Int)]) ++ [(e.kind.code : Int), (e.signal : Int)] := by
  rw [List.take_succ, h, List.flatMap_append]
  simp
theorem flat_len (l : List Kp417.Entry) : (l.flatMap fun e => [(e.kind.code : Int), (e.signal : Int)]).length = 2 * l.length := by
  induction l with
  | nil => rfl
  | cons a l ih => rw [List.flatMap_cons, List.length_append, ih, List.length_cons]; simp; omega
def sp_get_log (K : PySem.W.Frag) : Sp := fun vs H Q E =>
  ∃ (m sa pa : Addr) (h : Monitor), vs = [.ref m] ∧ MonR K H m h sa pa ∧ Good h ∧ Ans K H Q E (run h .getLog).2
theorem ok_get_log (T : Tx K mg) : Cal P w K mg base CX0 1 "get_log" (sp_get_log K) := by
  refine (T.d_get_log).ok0 sc_get_log bd_get_log (fun vs H Q E h => ?_) (fun f cdv A outer s H vs Q E hr h => ?_)
  · obtain ⟨_, _, _, _, rfl, _⟩ := h; rfl
  refine ⟨_, (pss_cons (ps_set (i := 1) sc_get_log.nd rfl (Or.inl rfl) (pe_lst (pa_cons (pe_callB lenL (by rfl) T.n_len bt_len (pa_cons (pe_fldC T.c_Monitor T.a_Monitor_log (pv 0)) pa_nil)) pa_nil)))
      (pss_cons (ps_for PassesOwn.never rfl (pi_list (pe_fldC T.c_Monitor T.a_Monitor_log (pv 0))) (pg_tup rfl (pgs_cons (pg_name (i := 2) sc_get_log.nd rfl (Or.inl rfl)) (pgs_cons (pg_name (i := 3) sc_get_log.nd rfl (Or.inl rfl)) pgs_nil))) (pss_cons (ps_expr (pe_bm PySem.F.plainAttrs_list PySem.F.slot_list_append PySem.F.type_list_append mt_append (pv 1) (pa_cons (pv 2) pa_nil)))
      (pss_one (ps_expr (pe_bm PySem.F.plainAttrs_list PySem.F.slot_list_append PySem.F.type_list_append mt_append (pv 1) (pa_cons (pv 3) pa_nil))))))
      (pss_one (ps_ret (pv 1))))), ?_⟩
  obtain ⟨m, sa, pa, h, rfl, r, g, k⟩ := h
  have k : Ans K H Q E ⟨(h.log.length : Int), h.log.flatMap fun e => [(e.kind.code : Int), (e.signal : Int)]⟩ := k
  obtain ⟨dm, la, dx, tw, pw, pv, ps, es, h1, h2, h3, h4, h5, h6, h7, h8, h9, n1, n2, n3⟩ := r.ex
  have l16 := g.l16
  refine ⟨_, rfl, _, _, _, _, rfl, h1, rfl, _, _, rfl, h7, szl, fun D nD => ?_⟩
  rw [List.length_map, h8.1]
  have sD := Same.new (o := .lst [V.int (h.log.length : Int)]) nD
  have h7D := sD _ _ h7
  refine ⟨_, rfl, _, _, _, _, rfl, sD _ _ h1, rfl, la, rfl, ⟨_, SqL.of h7D⟩, for_list (K := K) (a := la) (xs := es.map V.ref) (fun i σ H' => (∃ v1 v2 : Option V, σ = [some (.ref m), some (.ref D), v1, v2]) ∧ Same H H' ∧ H' D = some (.lst (((h.log.length : Int) :: (h.log.take i).flatMap fun e => [(e.kind.code : Int), (e.signal : Int)]).map V.int)))
    ⟨⟨none, none, rfl⟩, sD, upd_same⟩ (fun i σ H' _ ⟨_, s, _⟩ => SqL.of (s _ _ h7)) ?_ ?_⟩
  · rintro i y σ H1 hi ⟨⟨v1, v2, rfl⟩, s1, hD⟩
    rw [List.getElem?_map] at hi
    obtain ⟨ep, hep, rfl⟩ := Option.map_eq_some_iff.mp hi
    have hil : i < h.log.length := by rw [← h8.1]; exact (List.getElem?_eq_some_iff.mp hep).1
    have hle : h.log[i]? = some h.log[i] := List.getElem?_eq_getElem hil
    have ht := s1 _ _ (h8.2 i ep _ hep hle)
    have fs := flat_succ hle
    have fl := flat_len (h.log.take i)
    have tl : (h.log.take i).length ≤ 16 := by rw [List.length_take]; omega
    generalize h.log[i] = e at *
    refine ⟨_, _, rfl, SqT.of ht, rfl, _, _, rfl, _, _, rfl, rfl, ?_⟩
    refine ⟨_, rfl, .inl ⟨rfl, _, SqL.of hD⟩, _, rfl, D, _, _, rfl, rfl, hD, ?_, ?_⟩
    · rw [List.length_map, List.length_cons, fl]
      exact small1000 (by omega)
    refine ⟨_, rfl, .inl ⟨rfl, _, SqL.of upd_same⟩, _, rfl, D, _, _, rfl, rfl, upd_same, ?_, ?_⟩
    · rw [List.length_append, List.length_map, List.length_cons, fl]
      exact small1000 (by simp; omega)
    rw [upd_upd]
    refine ⟨⟨_, _, rfl⟩, updD s1 nD, ?_⟩
    rw [upd_same, fs]
    simp
  · rintro σ H1 ⟨⟨v1, v2, rfl⟩, s1, hD⟩
    rw [List.length_map, h8.1, List.take_length] at hD
    exact ⟨_, rfl, ans_is k (Int.natCast_nonneg _) D H1 s1 nD hD⟩
def sp_candidates_after_test (K : PySem.W.Frag) : Sp := fun vs H Q E =>
  ∃ (m sa pa : Addr) (h : Monitor) (s c : Nat), vs = [.ref m, .int s, .int c] ∧ MonR K H m h sa pa ∧ Good h ∧ Ans K H Q E (run h (.candidatesAfterTest s c)).2
theorem ok_candidates_after_test (T : Tx K mg) : Cal P w K mg base (L2.CX P w) 5 "candidates_after_test" (sp_candidates_after_test K) := by
  refine (T.d_candidates_after_test).okX sc_candidates_after_test bd_candidates_after_test (fun vs H Q E h => ?_) (fun f cdv A outer s H vs Q E hr h => ?_)
  · obtain ⟨_, _, _, _, _, _, rfl, _⟩ := h; rfl
  refine ⟨_, (pss_cons (ps_expr (pe_cal (ok_require_possible_test T) (hr.mono (by decide)) (passes_call (E := E) (W := fun cls d _ H => E cls d H) (takes_of rfl rfl rfl rfl) (fun _ _ _ _ h => h)) (pa_cons (pv 0) (pa_cons (pv 1) (pa_cons (pv 2) pa_nil)))))
      (pss_one (ps_ret (pe_cal (ok_counted T) (hr.mono (by decide)) pass0 (pa_cons (pe_cal (ok_candidates_under T) (hr.mono (by decide)) pass0 (pa_cons (pv 0) (pa_cons (pe_op op_cat (pe_fldC T.c_Monitor T.a_Monitor_log (pv 0)) (pe_lst (pa_cons (pe_tup (pa_cons (pv 2) (pa_cons (pv 1) pa_nil))) pa_nil))) pa_nil))) pa_nil))))), ?_⟩
  obtain ⟨m, sa, pa, h, s, c, rfl, r, g, k⟩ := h
  have k : Ans K H Q E (if Kp415.isSignal h.setting.model s = false then single (-2) else if 1 < c ∨ Kp417.appearsInTests h s = false then single (-22) else listResult (Kp417.candidates (withEntry h (testEntry s c)))) := k
  refine ⟨_, rfl, _, rfl, _, rfl, m, sa, pa, h, s, c, rfl, r, fun hs => ?_, fun hs hc => ?_, fun hs hc => ?_⟩
  · rw [if_pos hs] at k
    exact ans_no (n := 2) k
  · rw [if_neg (by rw [hs]; decide), if_pos hc] at k
    exact ans_no (n := 22) k
  rw [if_neg (by rw [hs]; decide), if_neg hc] at k
  obtain ⟨dm, la, dx, tw, pw, pv, ps, es, h1, h2, h3, h4, h5, h6, h7, h8, h9, n1, n2, n3⟩ := r.ex
  have hc1 : ¬ 1 < c := fun z => hc (.inl z)
  have l16 := g.l16
  refine ⟨_, rfl, _, rfl, _, _, _, _, rfl, h1, rfl, _, rfl, _, rfl, szl, fun t nt => ?_⟩
  have st := Same.new (o := .tup [V.int (c : Int), V.int (s : Int)]) nt
  refine ⟨szl, fun u nu => ?_⟩
  have su := Same.new (o := .lst [V.ref t]) nu
  have s2 := st.trans su
  refine ⟨la, u, _, _, rfl, rfl, s2 _ _ h7, upd_same, Nat.le_trans (show (es.map V.ref).length + 1 ≤ 17 by rw [List.length_map, h8.1]; omega) (by decide), fun lg nl => ?_⟩
  have hlg : (es.map V.ref ++ [V.ref t]) = (es ++ [t]).map V.ref := by rw [List.map_append]; rfl
  rw [hlg]
  have sl := Same.new (o := .lst ((es ++ [t]).map V.ref)) nl
  have s3 := s2.trans sl
  have et : HO.tup [V.int (c : Int), V.int (s : Int)] = entT (testEntry s c) := (kind_code hc1).symm
  have en := (h8.same s3).snoc (p := t) (e := testEntry s c) (sl _ _ (su _ _ (by rw [← et]; exact upd_same)))
  refine ⟨m, lg, sa, pa, h, es ++ [t], h.log ++ [testEntry s c], rfl, r.same s3, g, upd_same, en, fun p1 H1 s4 e1 => ?_⟩
  have cl : (Kp417.candidates { h with log := h.log ++ [testEntry s c] }).length ≤ h.policies.length := cand_len { h with log := h.log ++ [testEntry s c] }
  have n6 := g.p6
  exact ⟨p1, _, rfl, e1, by omega, fun p2 H2 s5 n5 e2 => ans_list k p2 H2 ((s3.trans s4).trans s5) ((s3.trans s4).free n5) e2⟩
theorem count_kind (p : Kp417.Entry → Bool) (k : Nat) (hp : ∀ e : Kp417.Entry, p e = (e.kind.code == k)) : ∀ l : List Kp417.Entry, (l.map fun e => (e.kind.code : Int)).count (k : Int) = (l.filter p).length
  | [] => rfl
  | e :: l => by
    have ih := count_kind p k hp l
    rw [List.map_cons, List.count_cons, ih, List.filter_cons, hp e]
    by_cases c : e.kind.code = k
    · simp [c]
    · have c2 : ¬ (e.kind.code : Int) = (k : Int) := fun z => c (Int.ofNat.inj z)
      simp [c, c2]
theorem count_tests : ∀ l : List Kp417.Entry, (l.filter fun e => e.kind != .production).length = (l.filter fun e => e.kind == .testBehaved).length + (l.filter fun e => e.kind == .testCheated).length
  | [] => rfl
  | e :: l => by
    have ih := count_tests l
    rw [List.filter_cons, List.filter_cons, List.filter_cons]
    cases e.kind <;> simp <;> omega
def sp_counts (K : PySem.W.Frag) : Sp := fun vs H Q E =>
  ∃ (m sa pa : Addr) (h : Monitor), vs = [.ref m] ∧ MonR K H m h sa pa ∧ Good h ∧ Ans K H Q E (run h .counts).2
theorem ok_counts (T : Tx K mg) : Cal P w K mg base CX0 1 "counts" (sp_counts K) := by
  refine (T.d_counts).ok0 sc_counts bd_counts (fun vs H Q E h => ?_) (fun f cdv A outer s H vs Q E hr h => ?_)
  · obtain ⟨_, _, _, _, rfl, _⟩ := h; rfl
  refine ⟨_, (pss_cons (ps_setLc (i := 1) (own := [("kind", 4), ("signal", 5)]) (g := (gTup K 2 (gCons (gName 4) (gCons (gName 5) gNil)))) (tt := tYes) rfl sc_counts.nd rfl rfl (sw_true rfl rfl rfl (by decide +kernel)) (pi_list (pe_fldC T.c_Monitor T.a_Monitor_log (pv 0))) (blkOk_by (own := [("kind", 4), ("signal", 5)]) (N := ["monitor", "kinds", "cheated_count", "test_count", "kind", "signal"]) (sc := defScope s_counts) (by decide +kernel)) (fun _ _ _ _ _ => (pg_tup rfl (pgs_cons (pg_name (i := 4) sc_counts.nd rfl (Or.inl rfl)) (pgs_cons (pg_name (i := 5) sc_counts.nd rfl (Or.inl rfl)) pgs_nil)))) (fun _ _ _ _ _ => pts_nil) (fun _ _ _ _ _ => (pv 4)))
      (pss_cons (ps_set (i := 2) sc_counts.nd rfl (Or.inl rfl) (pe_bm PySem.F.plainAttrs_list PySem.F.slot_list_count PySem.F.type_list_count mt_lcount (pv 1) (pa_cons (pe_gint T.i_CHEATED) pa_nil)))
      (pss_cons (ps_set (i := 3) sc_counts.nd rfl (Or.inl rfl) (pe_op op_add (pe_bm PySem.F.plainAttrs_list PySem.F.slot_list_count PySem.F.type_list_count mt_lcount (pv 1) (pa_cons (pe_gint T.i_BEHAVED) pa_nil)) (pv 2)))
      (pss_one (ps_ret (pe_lst (pa_cons (pe_callB lenL (by rfl) T.n_len bt_len (pa_cons (pe_fldC T.c_Monitor T.a_Monitor_policies (pv 0)) pa_nil)) (pa_cons (pv 3) (pa_cons (pv 2) (pa_cons (pe_bm PySem.F.plainAttrs_list PySem.F.slot_list_count PySem.F.type_list_count mt_lcount (pv 1) (pa_cons (pe_gint T.i_PRODUCTION) pa_nil)) pa_nil)))))))))), ?_⟩
  obtain ⟨m, sa, pa, h, rfl, r, g, k⟩ := h
  have k : Ans K H Q E ⟨(h.policies.length : Int), [((h.log.filter fun e => e.kind != .production).length : Int), ((h.log.filter fun e => e.kind == .testCheated).length : Int), ((h.log.filter fun e => e.kind == .production).length : Int)]⟩ := k
  obtain ⟨dm, la, dx, tw, pw, pv, ps, es, h1, h2, h3, h4, h5, h6, h7, h8, h9, n1, n2, n3⟩ := r.ex
  have l16 := g.l16
  refine ⟨_, rfl, _, _, _, _, rfl, h1, rfl, la, rfl, ⟨_, SqL.of h7⟩, fun D nD => ?_⟩
  refine lc_val (walk_list (xs := es.map V.ref)) (fun j => (h.log[j]?).map fun e => V.int (e.kind.code : Int)) (by rw [List.length_map, h8.1]; omega) nD (fun H' st => SqL.of (st _ _ h7)) ?_ ?_
  · rintro i x H2 H3 Kt Kf hi st ⟨rfl, hx⟩ kT kF
    rw [List.length_map, h8.1] at hi
    rw [List.getElem?_map] at hx
    obtain ⟨ep, hep, rfl⟩ := Option.map_eq_some_iff.mp hx
    have hle : h.log[i]? = some h.log[i] := List.getElem?_eq_getElem hi
    have ht := st _ _ (h8.2 i ep _ hep hle)
    refine ⟨_, _, rfl, SqT.of ht, rfl, _, _, rfl, _, _, rfl, rfl, rfl, iteT (B := Kf H3) ⟨_, rfl, kT _ _ (Same.refl _) (by rw [hle]; rfl)⟩⟩
  · intro H1 s1 hD
    have ek : (List.range (es.map V.ref).length).filterMap (fun j => (h.log[j]?).map fun e => V.int (e.kind.code : Int)) = (h.log.map fun e => (e.kind.code : Int)).map V.int := by
      rw [List.length_map, h8.1, List.map_map]
      generalize h.log = l
      have z : ∀ n, n ≤ l.length → (List.range n).filterMap (fun j => (l[j]?).map fun e => V.int (e.kind.code : Int)) = (l.take n).map (V.int ∘ fun e => (e.kind.code : Int)) := by
        intro n
        induction n with
        | zero => intro _; rfl
        | succ n ih =>
          intro hn
          have hg : l[n]? = some l[n] := List.getElem?_eq_getElem (by omega)
          rw [List.range_succ, List.filterMap_append, ih (by omega), List.take_succ, hg, List.map_append]
          simp [hg]
      rw [z l.length (Nat.le_refl _), List.take_length]
    rw [ek] at hD
    have e1 := count_kind (fun e => e.kind == .testCheated) 1 (fun e => by cases e.kind <;> rfl) h.log
    have e0 := count_kind (fun e => e.kind == .testBehaved) 0 (fun e => by cases e.kind <;> rfl) h.log
    have e2 := count_kind (fun e => e.kind == .production) 2 (fun e => by cases e.kind <;> rfl) h.log
    have et := count_tests h.log
    refine ⟨_, rfl, .inl ⟨rfl, _, SqL.of hD⟩, D, _, 1, rfl, rfl, SqL.of hD, ?_⟩
    refine ⟨_, rfl, .inl ⟨rfl, _, SqL.of hD⟩, D, _, 0, rfl, rfl, SqL.of hD, _, rfl, _, _, rfl, rfl, ?_⟩
    refine ⟨_, rfl, _, _, _, _, rfl, s1 _ _ h1, rfl, _, _, rfl, s1 _ _ h5, _, rfl, _, rfl, _, rfl, .inl ⟨rfl, _, SqL.of hD⟩, D, _, 2, rfl, rfl, SqL.of hD, szl, fun p np => ?_⟩
    refine ans_is k (Int.natCast_nonneg _) p _ (s1.trans (Same.new np)) (s1.free np) ?_
    rw [upd_same, et, ← e0, ← e1, ← e2, List.length_map, h6.1]
    rfl
end
end PW
set_option Elab.async false
set_option linter.all false
set_option maxRecDepth 100000
set_option maxHeartbeats 4000000
/-! permit_calls, policy_calls. -/
namespace PW
open PySem PySem.Spec PyProof.Rows L2
open Kp417 (Monitor Policy EntryKind Permit policyAt run query single listResult boolResult withEntry testEntry nextHarm allowed permitPair isPolicy)
section
variable {P : Program} {w : World} {K : PySem.W.Frag} {mg : Str → Option Value} {base : Heap}
def sp_shown (K : PySem.W.Frag) : Sp := fun vs H Q E =>
  ∃ (v : V) (x : Option Permit), vs = [v] ∧ PerV H v x ∧ ∀ p H', Same H H' → H p = none → H' p = some (.lst ((permitPair x).map V.int)) → Q (.ref p) H'
theorem ok_shown (T : Tx K mg) : Cal P w K mg base CX0 1 "shown" (sp_shown K) := by
  refine (T.d_shown).ok0 sc_shown bd_shown (fun vs H Q E h => ?_) (fun f cdv A outer s H vs Q E hr h => ?_)
  · obtain ⟨_, _, rfl, _⟩ := h; rfl
  refine ⟨_, (pss_cons (ps_if (pt_cmpR op_isN (pv 0) pe_non (nomark _)) (pss_one (ps_ret (pe_lst (pa_cons pe_int (pa_cons pe_int pa_nil))))) pss_nil)
      (pss_one (ps_ret (pe_callTy listT (by rfl) T.n_list bt_list (pa_cons (pv 0) pa_nil))))), ?_⟩
  obtain ⟨v, x, rfl, hv, k⟩ := h
  refine ⟨_, rfl, rfl, _, rfl, ?_⟩
  cases x with
  | none =>
    have e : v = .non := hv
    subst e
    exact iteT ⟨szl, fun p np => k p _ (Same.new np) np upd_same⟩
  | some q =>
    obtain ⟨a, rfl, ha⟩ := hv
    exact iteF ⟨_, rfl, a, _, rfl, ha, fun p np => k p _ (Same.new np) np upd_same⟩
/-- xs + ys of two lists -/
theorem cat_ls {H H1 : Hp} {u q : Addr} {xs ys : List V} {Q : VK} (s : Same H H1) (hu : H1 u = some (.lst xs)) (hq : H1 q = some (.lst ys)) (hx : xs.length + ys.length ≤ 900) (k : ∀ p H', Same H H' → H p = none → H' p = some (.lst (xs ++ ys)) → Q (.ref p) H') : rCat (.ref u) (.ref q) H1 Q :=
  ⟨u, q, xs, ys, rfl, rfl, hu, hq, Nat.le_trans hx (by decide), fun p np => k p _ (s.trans (Same.new np)) (s.free np) upd_same⟩
theorem pp_len (x : Option Permit) : ((permitPair x).map V.int).length = 2 := by cases x <;> rfl
def sp_permit (K : PySem.W.Frag) : Sp := fun vs H Q E =>
  ∃ (m sa pa : Addr) (h : Monitor) (a b : Nat), vs = [.ref m, .int a, .int b] ∧ MonR K H m h sa pa ∧ Good h ∧ OutM K H m h sa pa Q E (run h (.permit a b))
theorem ok_permit (T : Tx K mg) : Cal P w K mg base (L2.CX P w) 7 "permit" (sp_permit K) := by
  refine (T.d_permit).okX sc_permit bd_permit (fun vs H Q E h => ?_) (fun f cdv A outer s H vs Q E hr h => ?_)
  · obtain ⟨_, _, _, _, _, _, rfl, _⟩ := h; rfl
  refine ⟨_, (pss_cons (ps_expr (pe_cal (ok_require_fraction T) (hr.mono (by decide)) (passes_call (E := E) (W := fun cls d _ H => E cls d H) (takes_of rfl rfl rfl rfl) (fun _ _ _ _ h => h)) (pa_cons (pv 1) (pa_cons (pv 2) pa_nil))))
      (pss_cons (ps_expr (pe_cal (ok_require_candidates T) (hr.mono (by decide)) (passes_call (E := E) (W := fun cls d _ H => E cls d H) (takes_of rfl rfl rfl rfl) (fun _ _ _ _ h => h)) (pa_cons (pv 0) pa_nil)))
      (pss_cons (ps_if (pt_not (pt_val (pe_cal (ok_at_most T) (hr.mono (by decide)) pass0 (pa_cons (pe_cal (ok_next_harm T) (hr.mono (by decide)) pass0 (pa_cons (pv 0) pa_nil)) (pa_cons (pe_tup (pa_cons (pv 1) (pa_cons (pv 2) pa_nil))) pa_nil))))) (pss_one (ps_raiseR rfl T.ref T.r_HarmTooHigh hr (W := fun cls d _ H => E cls d H) (takes_of rfl rfl rfl rfl))) pss_nil)
      (pss_cons (ps_set (i := 3) sc_permit.nd rfl (Or.inl rfl) (pe_fldC T.c_Monitor T.a_Monitor_permit (pv 0)))
      (pss_cons (ps_fldC T.c_Monitor T.a_Monitor_permit (pv 0) (pe_tup (pa_cons (pv 1) (pa_cons (pv 2) pa_nil))))
      (pss_one (ps_ret (pe_op op_cat (pe_lst (pa_cons pe_int pa_nil)) (pe_cal (ok_shown T) (hr.mono (by decide)) pass0 (pa_cons (pv 3) pa_nil)))))))))), ?_⟩
  obtain ⟨m, sa, pa, h, a, b, rfl, r, g, k⟩ := h
  have k : OutM K H m h sa pa Q E (if Kp415.validFraction a b = false then query (single (-22)) else if (Kp417.candidates h).isEmpty then query (single (-33)) else if Kp415.toRat a b < nextHarm h then query (single (-30)) else (some { h with permit := some ⟨a, b⟩ }, ⟨0, permitPair h.permit⟩)) := k
  refine ⟨_, rfl, _, rfl, a, b, rfl, fun hc => ?_, fun hc => ?_⟩
  · rw [if_pos hc] at k
    exact out_no (n := 22) k
  rw [if_neg (by rw [hc]; decide)] at k
  obtain ⟨v1, v2, v3⟩ := vf_of hc
  refine ⟨_, rfl, m, sa, pa, h, rfl, r, g, fun hd => ?_, fun hd H0 s0 => ?_⟩
  · rw [if_pos hd] at k
    exact out_no (n := 33) k
  rw [if_neg (by rw [hd]; decide)] at k
  refine ⟨_, rfl, m, sa, pa, h, rfl, r.same s0, g, fun p1 H1 s1 e1 => ?_⟩
  refine ⟨_, rfl, _, rfl, szl, fun t nt => ?_⟩
  have st := Same.new (o := .tup [V.int (a : Int), V.int (b : Int)]) nt
  have s2 := (s0.trans s1).trans st
  have b1 := (bdNext g).mono (show 200 ≤ 4000 by decide)
  have la : a < 2 ^ 4000 := Nat.lt_of_lt_of_le (show a < 2 ^ 7 by omega) (Nat.pow_le_pow_right (by decide) (by decide))
  have lb : b < 2 ^ 4000 := Nat.lt_of_lt_of_le (show b < 2 ^ 7 by omega) (Nat.pow_le_pow_right (by decide) (by decide))
  refine ⟨p1, t, _, (a : Int), _, b, rfl, st _ _ e1, upd_same, b1.1, by rw [Int.natAbs_natCast]; exact la, b1.2, lb, _, rfl, ?_⟩
  have eq1 : (!decide ((nextHarm h).num * (b : Int) ≤ (a : Int) * ((nextHarm h).den : Int))) = decide (Kp415.toRat a b < nextHarm h) := by
    rw [Bool.eq_iff_iff]
    simp only [Bool.not_eq_true', decide_eq_false_iff_not, decide_eq_true_eq]
    rw [← le_mk (by omega)]
    unfold Kp415.toRat
    rw [nat_div, Rat.not_le]
  show if (!decide ((nextHarm h).num * (b : Int) ≤ (a : Int) * ((nextHarm h).den : Int))) = true then _ else _
  rw [eq1]
  refine ite2 (fun hz => ?_) (fun hz => ?_)
  · rw [if_pos (of_decide_eq_true hz)] at k
    exact rs_go "HarmTooHigh" ((out_no (n := 30) k).same s2) rf_HarmTooHigh
  rw [if_neg (by simpa using hz)] at k
  obtain ⟨dm, la', dx, tw, pw, pv, ps, es, h1, h2, h3, h4, h5, h6, h7, h8, h9, n1, n2, n3⟩ := r.ex
  refine ⟨_, rfl, _, _, _, _, rfl, s2 _ _ h1, rfl, _, rfl, _, rfl, szl, fun t2 nt2 => ?_⟩
  have st2 := Same.new (o := .tup [V.int (a : Int), V.int (b : Int)]) nt2
  have s3 := s2.trans st2
  refine ⟨_, rfl, _, _, _, rfl, s3 _ _ h1, szs, ?_⟩
  have pt := (((r.parts_at h1).same s3).per (x := some ⟨a, b⟩) (pv' := .ref t2) ⟨t2, rfl, upd_same⟩).putM (o := .ins (gad K "Monitor") dm (putF "permit" (V.ref t2) (monFs (.ref sa) pa la' pv))) (s3 _ _ h1)
  have hold := (h9.same s3).put (o := .ins (gad K "Monitor") dm (putF "permit" (V.ref t2) (monFs (.ref sa) pa la' pv))) (s3 _ _ h1)
  generalize hG : upd _ m (HO.ins (gad K "Monitor") dm (putF "permit" (V.ref t2) (monFs (.ref sa) pa la' pv))) = G at pt hold ⊢
  have hm : G m = some (.ins (gad K "Monitor") dm (monFs (.ref sa) pa la' (.ref t2))) := by rw [← hG, upd_same]; rfl
  have fG : Fr3 H G m sa pa := by rw [← hG]; exact (sfr3 s3).m
  have frG : ∀ {b : Addr}, G b = none → H b = none := fun {b} q => by
    rw [← hG] at q
    exact s3.free (up_free (s3 _ _ h1) q)
  have rG := pt.mon hm
  refine ⟨szl, fun u nu => ?_⟩
  have su := Same.new (o := .lst [V.int 0]) nu
  refine ⟨_, rfl, _, h.permit, rfl, hold.same su, fun q H5 s5 nq eq => ?_⟩
  refine cat_ls (su.trans s5) (s5 _ _ upd_same) eq (by rw [pp_len]; show 1 + 2 ≤ 900; decide) (fun p H6 s6 np ep => ?_)
  exact out_is k (by show (0 : Int) ≤ 0; decide) p H6 (fG.then s6) (rG.same s6) (frG np) ep
def sp_revoke_permit (K : PySem.W.Frag) : Sp := fun vs H Q E =>
  ∃ (m sa pa : Addr) (h : Monitor), vs = [.ref m] ∧ MonR K H m h sa pa ∧ Good h ∧ OutM K H m h sa pa Q E (run h .revokePermit)
theorem ok_revoke_permit (T : Tx K mg) : Cal P w K mg base (L2.CX P w) 3 "revoke_permit" (sp_revoke_permit K) := by
  refine (T.d_revoke_permit).okX sc_revoke_permit bd_revoke_permit (fun vs H Q E h => ?_) (fun f cdv A outer s H vs Q E hr h => ?_)
  · obtain ⟨_, _, _, _, rfl, _⟩ := h; rfl
  refine ⟨_, (pss_cons (ps_if (pt_cmpR op_isN (pe_fldC T.c_Monitor T.a_Monitor_permit (pv 0)) pe_non (nomark _)) (pss_one (ps_raiseR rfl T.ref T.r_NothingToUndo hr (W := fun cls d _ H => E cls d H) (takes_of rfl rfl rfl rfl))) pss_nil)
      (pss_cons (ps_set (i := 1) sc_revoke_permit.nd rfl (Or.inl rfl) (pe_fldC T.c_Monitor T.a_Monitor_permit (pv 0)))
      (pss_cons (ps_fldC T.c_Monitor T.a_Monitor_permit (pv 0) pe_non)
      (pss_one (ps_ret (pe_op op_cat (pe_lst (pa_cons pe_int pa_nil)) (pe_cal (ok_shown T) (hr.mono (by decide)) pass0 (pa_cons (pv 1) pa_nil)))))))), ?_⟩
  obtain ⟨m, sa, pa, h, rfl, r, g, k⟩ := h
  have k : OutM K H m h sa pa Q E (match h.permit with | none => query (single (-6)) | some _ => (some { h with permit := none }, ⟨0, permitPair h.permit⟩)) := k
  obtain ⟨dm, la', dx, tw, pw, pv, ps, es, h1, h2, h3, h4, h5, h6, h7, h8, h9, n1, n2, n3⟩ := r.ex
  refine ⟨_, rfl, _, _, _, _, rfl, h1, rfl, rfl, _, rfl, ?_⟩
  cases hp : h.permit with
  | none =>
    rw [hp] at h9 k
    have e : pv = .non := h9
    subst e
    exact iteT (rs_go "NothingToUndo" (out_no (n := 6) k) rf_NothingToUndo)
  | some pe =>
    have h9' := h9
    rw [hp] at h9' k
    obtain ⟨t, rfl, ht⟩ := h9'
    refine iteF ⟨_, rfl, _, _, _, _, rfl, h1, rfl, _, rfl, _, _, _, rfl, h1, szs, ?_⟩
    have pt := ((r.parts_at h1).per (x := none) (pv' := .non) rfl).putM (o := .ins (gad K "Monitor") dm (putF "permit" V.non (monFs (.ref sa) pa la' (.ref t)))) h1
    have hold := h9.put (o := .ins (gad K "Monitor") dm (putF "permit" V.non (monFs (.ref sa) pa la' (.ref t)))) h1
    rw [hp] at hold
    generalize hG : upd _ m (HO.ins (gad K "Monitor") dm (putF "permit" V.non (monFs (.ref sa) pa la' (.ref t)))) = G at pt hold ⊢
    have hm : G m = some (.ins (gad K "Monitor") dm (monFs (.ref sa) pa la' .non)) := by rw [← hG, upd_same]; rfl
    have fG : Fr3 H G m sa pa := by rw [← hG]; exact (sfr3 (Same.refl H)).m
    have frG : ∀ {b : Addr}, G b = none → H b = none := fun {b} q => by
      rw [← hG] at q
      exact up_free h1 q
    have rG := pt.mon hm
    refine ⟨szl, fun u nu => ?_⟩
    have su := Same.new (o := .lst [V.int 0]) nu
    refine ⟨_, rfl, _, some pe, rfl, hold.same su, fun q H5 s5 nq eq => ?_⟩
    refine cat_ls (su.trans s5) (s5 _ _ upd_same) eq (by rw [pp_len]; show 1 + 2 ≤ 900; decide) (fun p H6 s6 np ep => ?_)
    exact out_is k (by show (0 : Int) ≤ 0; decide) p H6 (fG.then s6) (rG.same s6) (frG np) ep
def sp_permit_status (K : PySem.W.Frag) : Sp := fun vs H Q E =>
  ∃ (m sa pa : Addr) (h : Monitor), vs = [.ref m] ∧ MonR K H m h sa pa ∧ Good h ∧ Ans K H Q E (run h .permitStatus).2
theorem ok_permit_status (T : Tx K mg) : Cal P w K mg base CX0 8 "permit_status" (sp_permit_status K) := by
  refine (T.d_permit_status).ok0 sc_permit_status bd_permit_status (fun vs H Q E h => ?_) (fun f cdv A outer s H vs Q E hr h => ?_)
  · obtain ⟨_, _, _, _, rfl, _⟩ := h; rfl
  refine ⟨_, (pss_cons (ps_if (pt_val (pe_cal (ok_is_allowed T) (hr.mono (by decide)) pass0 (pa_cons (pv 0) pa_nil))) (pss_one (ps_ret (pe_op op_cat (pe_lst (pa_cons pe_int pa_nil)) (pe_cal (ok_shown T) (hr.mono (by decide)) pass0 (pa_cons (pe_fldC T.c_Monitor T.a_Monitor_permit (pv 0)) pa_nil))))) pss_nil)
      (pss_one (ps_ret (pe_op op_cat (pe_lst (pa_cons pe_int pa_nil)) (pe_cal (ok_shown T) (hr.mono (by decide)) pass0 (pa_cons (pe_fldC T.c_Monitor T.a_Monitor_permit (pv 0)) pa_nil)))))), ?_⟩
  obtain ⟨m, sa, pa, h, rfl, r, g, k⟩ := h
  have k : Ans K H Q E ⟨if allowed h then 1 else 0, permitPair h.permit⟩ := k
  obtain ⟨dm, la', dx, tw, pw, pv, ps, es, h1, h2, h3, h4, h5, h6, h7, h8, h9, n1, n2, n3⟩ := r.ex
  refine ⟨_, rfl, m, sa, pa, h, rfl, r, g, fun H1 s1 => ⟨_, rfl, ?_⟩⟩
  cases ha : allowed h with
  | true =>
    rw [ha] at k
    refine iteT ⟨szl, fun u nu => ?_⟩
    have su := Same.new (o := .lst [V.int 1]) nu
    have s2 := s1.trans su
    refine ⟨_, rfl, _, _, _, _, rfl, s2 _ _ h1, rfl, _, h.permit, rfl, h9.same s2, fun q H5 s5 nq eq => ?_⟩
    exact cat_ls (s2.trans s5) (s5 _ _ upd_same) eq (by rw [pp_len]; show 1 + 2 ≤ 900; decide) (ans_is k (by show (0 : Int) ≤ 1; decide))
  | false =>
    rw [ha] at k
    refine iteF ⟨szl, fun u nu => ?_⟩
    have su := Same.new (o := .lst [V.int 0]) nu
    have s2 := s1.trans su
    refine ⟨_, rfl, _, _, _, _, rfl, s2 _ _ h1, rfl, _, h.permit, rfl, h9.same s2, fun q H5 s5 nq eq => ?_⟩
    exact cat_ls (s2.trans s5) (s5 _ _ upd_same) eq (by rw [pp_len]; show 1 + 2 ≤ 900; decide) (ans_is k (by show (0 : Int) ≤ 0; decide))
theorem MonR.putP {H : Hp} {m sa pa : Addr} {h : Monitor} {ps' : List Addr} {l' : List Policy} (r : MonR K H m h sa pa) (f : PolL K H ps' l') : MonR K (upd H pa (.lst (ps'.map V.ref))) m { h with policies := l' } sa pa := by
  obtain ⟨dm, la, dx, tw, pw, pv, ps, es, h1, h2, h3, h4, h5, h6, h7, h8, h9, n1, n2, n3⟩ := r.ex
  refine ⟨dm, la, dx, tw, pw, pv, ps', es, ?_, ?_, ?_, ?_, upd_same, ⟨f.1, fun i p q a b => ?_⟩, ?_, ⟨h8.1, fun i p q a b => ?_⟩, h9.putL h5, n1, n2, n3⟩
  · rw [upd_ne (ne_of h1 h5 (fun z => by cases z))]; exact h1
  · rw [upd_ne (ne_of h2 h5 (fun z => by cases z))]; exact h2
  · rw [upd_ne (Ne.symm n2)]; exact h3
  · rw [upd_ne (Ne.symm n3)]; exact h4
  · obtain ⟨d, hd⟩ := f.2 i p q a b
    exact ⟨d, by rw [upd_ne (ne_of hd h5 (fun z => by cases z))]; exact hd⟩
  · rw [upd_ne (Ne.symm n1)]; exact h7
  · have hd := h8.2 i p q a b
    rw [upd_ne (ne_of hd h5 (fun z => by unfold entT at z; cases z))]
    exact hd
theorem PolL.snoc {H : Hp} {ps : List Addr} {l : List Policy} {p d : Addr} {q : Policy} (f : PolL K H ps l) (hp : H p = some (.ins (gad K "Policy") d (polFs q))) : PolL K H (ps ++ [p]) (l ++ [q]) := by
  refine ⟨by rw [List.length_append, List.length_append, f.1]; rfl, fun j x y a b => ?_⟩
  by_cases hj : j < ps.length
  · rw [List.getElem?_append_left hj] at a
    rw [List.getElem?_append_left (by rw [← f.1]; exact hj)] at b
    exact f.2 j x y a b
  · rw [List.getElem?_append_right (by omega)] at a
    rw [List.getElem?_append_right (by rw [← f.1]; omega), ← f.1] at b
    have hz : j - ps.length = 0 := by
      have := (List.getElem?_eq_some_iff.mp a).1
      simp at this
      omega
    rw [hz] at a b
    cases a
    cases b
    exact ⟨d, hp⟩
theorem PolL.erase {H : Hp} {ps : List Addr} {l : List Policy} (f : PolL K H ps l) (i : Nat) : PolL K H (ps.eraseIdx i) (l.eraseIdx i) := by
  refine ⟨by rw [List.length_eraseIdx, List.length_eraseIdx, f.1], fun j x y a b => ?_⟩
  rw [List.getElem?_eraseIdx] at a b
  by_cases hj : j < i
  · rw [if_pos hj] at a b
    exact f.2 j x y a b
  · rw [if_neg hj] at a b
    exact f.2 _ x y a b
theorem erase_map (i : Nat) : ∀ ps : List Addr, (ps.map V.ref).eraseIdx i = (ps.eraseIdx i).map V.ref := fun ps => by
  induction ps generalizing i with
  | nil => rfl
  | cons p ps ih =>
    cases i with
    | zero => rfl
    | succ i => rw [List.map_cons, List.eraseIdx_cons_succ, List.eraseIdx_cons_succ, List.map_cons, ih]
theorem pol_map (f : Policy → Nat) (h : Monitor) : ∀ n, n ≤ h.policies.length → (List.range n).filterMap (fun j => some (V.int ((f (policyAt h j) : Nat) : Int))) = natL ((h.policies.take n).map f)
  | 0, _ => rfl
  | n + 1, hn => by
    have hg : h.policies[n]? = some h.policies[n] := List.getElem?_eq_getElem (by omega)
    have hp : policyAt h n = h.policies[n] := by unfold policyAt; rw [List.getD_eq_getElem?_getD, hg]; rfl
    rw [List.range_succ, List.filterMap_append, pol_map f h n (by omega), List.take_succ, hg, List.map_append]
    unfold natL
    rw [List.map_append]
    simp [hp]
def sp_append_policy (K : PySem.W.Frag) : Sp := fun vs H Q E =>
  ∃ (m sa pa : Addr) (h : Monitor) (c wt : Nat), vs = [.ref m, .int c, .int wt] ∧ MonR K H m h sa pa ∧ Good h ∧ OutM K H m h sa pa Q E (Kp417.addPolicy h ⟨c, wt⟩)
theorem ok_append_policy (T : Tx K mg) : Cal P w K mg base (L2.CX P w) 4 "append_policy" (sp_append_policy K) := by
  refine (T.d_append_policy).okX sc_append_policy bd_append_policy (fun vs H Q E h => ?_) (fun f cdv A outer s H vs Q E hr h => ?_)
  · obtain ⟨_, _, _, _, _, _, rfl, _⟩ := h; rfl
  refine ⟨_, (pss_cons (ps_expr (pe_cal (ok_require_empty_log T) (hr.mono (by decide)) (passes_call (E := E) (W := fun cls d _ H => E cls d H) (takes_of rfl rfl rfl rfl) (fun _ _ _ _ h => h)) (pa_cons (pv 0) pa_nil)))
      (pss_cons (ps_if (pt_cmpR op_in_seq (pv 1) (pe_lc (own := [("policy", 3)]) (g := (gName 3)) (tt := tYes) rfl sc_append_policy.nd (pi_list (pe_fldC T.c_Monitor T.a_Monitor_policies (pv 0))) (blkOk_by (own := [("policy", 3)]) (N := ["monitor", "cheat_set", "weight", "policy"]) (sc := defScope s_append_policy) (by decide +kernel)) (fun _ _ _ _ _ => (pg_name (i := 3) sc_append_policy.nd rfl (Or.inl rfl))) (fun _ _ _ _ _ => pts_nil) (fun _ _ _ _ _ => (pe_fldC T.c_Policy T.a_Policy_cheat_set (pv 3)))) rfl) (pss_one (ps_raiseR rfl T.ref T.r_SameCheatSet hr (W := fun cls d _ H => E cls d H) (takes_of rfl rfl rfl rfl))) pss_nil)
      (pss_cons (ps_if (pt_cmpR op_ge (pe_callB lenL (by rfl) T.n_len bt_len (pa_cons (pe_fldC T.c_Monitor T.a_Monitor_policies (pv 0)) pa_nil)) (pe_gint T.i_MOST_POLICIES) (nomark _)) (pss_one (ps_raiseR rfl T.ref T.r_Full hr (W := fun cls d _ H => E cls d H) (takes_of rfl rfl rfl rfl))) pss_nil)
      (pss_cons (ps_expr (pe_bm PySem.F.plainAttrs_list PySem.F.slot_list_append PySem.F.type_list_append mt_append (pe_fldC T.c_Monitor T.a_Monitor_policies (pv 0)) (pa_cons (pe_mk (mk_Policy T) (hr.mono (by decide)) (pa_cons (pv 1) (pa_cons (pv 2) pa_nil))) pa_nil)))
      (pss_one (ps_ret (pe_lst (pa_cons (pe_op op_sub (pe_callB lenL (by rfl) T.n_len bt_len (pa_cons (pe_fldC T.c_Monitor T.a_Monitor_policies (pv 0)) pa_nil)) pe_int) pa_nil)))))))), ?_⟩
  obtain ⟨m, sa, pa, h, c, wt, rfl, r, g, k⟩ := h
  have k : OutM K H m h sa pa Q E (if h.log ≠ [] then query (single (-16)) else if h.policies.any (fun q => q.cheatSet == c) then query (single (-17)) else if 6 ≤ h.policies.length then query (single (-28)) else (some { h with policies := h.policies ++ [⟨c, wt⟩] }, single (h.policies.length : Nat))) := k
  refine ⟨_, rfl, m, sa, pa, h, rfl, r, fun hl => ?_, fun hl => ?_⟩
  · rw [if_pos hl] at k
    exact out_no (n := 16) k
  rw [if_neg (fun z => z hl)] at k
  obtain ⟨dm, la, dx, tw, pw, pv, ps, es, h1, h2, h3, h4, h5, h6, h7, h8, h9, n1, n2, n3⟩ := r.ex
  have n6 := g.p6
  refine ⟨_, rfl, _, rfl, _, _, _, _, rfl, h1, rfl, pa, rfl, ⟨_, SqL.of h5⟩, fun D nD => ?_⟩
  refine lc_val (walk_list (xs := ps.map V.ref)) (fun j => some (V.int (((policyAt h j).cheatSet : Nat) : Int))) (by rw [List.length_map, h6.1]; omega) nD (fun H' st => SqL.of (st _ _ h5)) ?_ ?_
  · rintro i x H2 H3 Kt Kf hi st ⟨rfl, hx⟩ kT kF
    rw [List.length_map, h6.1] at hi
    obtain ⟨p, dp, e1, e2⟩ := pol_at h6 hi
    rw [e1] at hx
    cases hx
    exact ⟨rfl, iteT (B := Kf H3) ⟨_, rfl, _, _, _, _, rfl, st _ _ e2, rfl, kT _ _ (Same.refl _) rfl⟩⟩
  intro H1 s1 hD
  rw [List.length_map, h6.1, pol_map (fun q => q.cheatSet) h _ (Nat.le_refl _), List.take_length] at hD
  refine ⟨D, _, rfl, .inl (SqL.of hD), rfl, natL_flat _, _, rfl, ?_⟩
  rw [if_neg Bool.false_ne_true, inV_nat]
  have ea : (h.policies.map fun q => q.cheatSet).contains c = h.policies.any fun q => q.cheatSet == c := by
    generalize h.policies = l
    induction l with
    | nil => rfl
    | cons a l ih =>
      rw [List.map_cons, List.contains_cons, ih, List.any_cons]
      congr 1
      rw [Bool.eq_iff_iff, beq_iff_eq, beq_iff_eq]
      exact eq_comm
  rw [ea]
  refine ite2 (fun hz => ?_) (fun hz => ?_)
  · rw [if_pos hz] at k
    exact rs_go "SameCheatSet" ((out_no (n := 17) k).same s1) rf_SameCheatSet
  rw [if_neg hz] at k
  refine ⟨_, rfl, _, _, _, _, rfl, s1 _ _ h1, rfl, _, _, rfl, s1 _ _ h5, _, _, rfl, rfl, _, rfl, ?_⟩
  rw [List.length_map, h6.1]
  refine ite2 (fun hy => ?_) (fun hy => ?_)
  · have hy2 := of_decide_eq_true hy
    rw [if_pos (by omega)] at k
    exact rs_go "Full" ((out_no (n := 28) k).same s1) rf_Full
  have hy2 : ¬ (6 : Int) ≤ (h.policies.length : Int) := fun z => hy (decide_eq_true z)
  rw [if_neg (by omega)] at k
  refine ⟨_, rfl, _, _, _, _, rfl, s1 _ _ h1, rfl, .inl ⟨rfl, _, SqL.of (s1 _ _ h5)⟩, _, rfl, _, rfl, fun x dx' nx nd ne => ⟨x, dx', c, wt, rfl, upd_same, fun H2 kp e2 => ⟨rfl, ?_⟩⟩⟩
  have s2 := made_same nx nd kp
  have s12 := s1.trans s2
  have h52 := s12 _ _ h5
  refine ⟨pa, _, _, rfl, rfl, h52, by rw [List.length_map, h6.1]; exact small1000 (by omega), ?_⟩
  have hps : ps.map V.ref ++ [V.ref x] = (ps ++ [x]).map V.ref := by rw [List.map_append]; rfl
  rw [hps]
  have rG := (r.same s12).putP ((h6.same s12).snoc e2)
  have fG : Fr3 H (upd H2 pa (.lst ((ps ++ [x]).map V.ref))) m sa pa := (sfr3 s12).p
  generalize hG : upd H2 pa (.lst ((ps ++ [x]).map V.ref)) = G at rG fG ⊢
  have pG : G pa = some (.lst ((ps ++ [x]).map V.ref)) := by rw [← hG]; exact upd_same
  have mG : G m = some (.ins (gad K "Monitor") dm (monFs (.ref sa) pa la pv)) := by
    rw [← hG, upd_ne (ne_of (s12 _ _ h1) h52 (fun z => by cases z))]
    exact s12 _ _ h1
  refine ⟨_, rfl, _, _, _, _, rfl, mG, rfl, _, _, rfl, pG, _, _, rfl, rfl, szl, fun p np => ?_⟩
  have sp := Same.new (o := .lst [V.int (((ps ++ [x]).map V.ref).length - 1 : Int)]) np
  refine out_is k (Int.natCast_nonneg _) p _ (fG.then sp) (rG.same sp) ?_ ?_
  · rw [← hG] at np
    exact s12.free (up_free h52 np)
  · rw [upd_same, List.length_map, List.length_append, h6.1]
    show some (HO.lst [V.int (((h.policies.length + 1 : Nat) : Int) - 1)]) = some (HO.lst [V.int ((h.policies.length : Nat) : Int)])
    rw [show (((h.policies.length + 1 : Nat) : Int) - 1) = ((h.policies.length : Nat) : Int) by omega]
theorem vw_dec {wt : Nat} : Kp417.validWeight wt = decide (1 ≤ wt ∧ wt ≤ 99) := by
  unfold Kp417.validWeight
  rw [Bool.eq_iff_iff]
  simp
def sp_add_policy (K : PySem.W.Frag) : Sp := fun vs H Q E =>
  ∃ (m sa pa : Addr) (h : Monitor) (c wt : Nat), vs = [.ref m, .int c, .int wt] ∧ MonR K H m h sa pa ∧ Good h ∧ OutM K H m h sa pa Q E (run h (.addPolicy c wt))
theorem ok_add_policy (T : Tx K mg) : Cal P w K mg base (L2.CX P w) 5 "add_policy" (sp_add_policy K) := by
  refine (T.d_add_policy).okX sc_add_policy bd_add_policy (fun vs H Q E h => ?_) (fun f cdv A outer s H vs Q E hr h => ?_)
  · obtain ⟨_, _, _, _, _, _, rfl, _⟩ := h; rfl
  refine ⟨_, (pss_cons (ps_expr (pe_cal (ok_require_within T) (hr.mono (by decide)) (passes_call (E := E) (W := fun cls d _ H => E cls d H) (takes_of rfl rfl rfl rfl) (fun _ _ _ _ h => h)) (pa_cons (pv 1) (pa_cons pe_int (pa_cons (pe_op op_sub (pe_op op_oneShl pe_int (pe_fldC T.c_Setting T.a_Setting_signal_count (pe_fldC T.c_Monitor T.a_Monitor_setting (pv 0)))) pe_int) pa_nil)))))
      (pss_cons (ps_expr (pe_cal (ok_require_within T) (hr.mono (by decide)) (passes_call (E := E) (W := fun cls d _ H => E cls d H) (takes_of rfl rfl rfl rfl) (fun _ _ _ _ h => h)) (pa_cons (pv 2) (pa_cons pe_int (pa_cons (pe_gint T.i_MOST_WEIGHT_policy_calls) pa_nil)))))
      (pss_one (ps_ret (pe_cal (ok_append_policy T) (hr.mono (by decide)) (passes_call (E := E) (W := fun cls d _ H => E cls d H) (takes_of rfl rfl rfl rfl) (fun _ _ _ _ h => h)) (pa_cons (pv 0) (pa_cons (pv 1) (pa_cons (pv 2) pa_nil)))))))), ?_⟩
  obtain ⟨m, sa, pa, h, c, wt, rfl, r, g, k⟩ := h
  have k : OutM K H m h sa pa Q E (if 2 ^ Kp415.signalCount h.setting.model ≤ c ∨ Kp417.validWeight wt = false then query (single (-22)) else Kp417.addPolicy h ⟨c, wt⟩) := k
  rw [vw_dec] at k
  obtain ⟨dm, la, dx, tw, pw, pv, ps, es, h1, h2, h3, h4, h5, h6, h7, h8, h9, n1, n2, n3⟩ := r.ex
  have n5 := g.s.n5
  have e2 : ((2 : Int) ^ (Kp415.signalCount h.setting.model)) = (((2 : Nat) ^ (Kp415.signalCount h.setting.model) : Nat) : Int) := by rw [Int.natCast_pow]; rfl
  refine ⟨_, rfl, _, rfl, _, _, _, _, rfl, h1, rfl, _, _, _, _, rfl, h2, rfl, Kp415.signalCount h.setting.model, rfl, rfl, by omega, _, _, rfl, rfl, c, 0, _, rfl, fun hc => ?_, fun _ hc => ?_⟩
  · rw [if_pos (by left; rw [e2] at hc; omega)] at k
    exact out_no (n := 22) k
  have hc2 : ¬ 2 ^ Kp415.signalCount h.setting.model ≤ c := by rw [e2] at hc; omega
  refine ⟨_, rfl, wt, 1, 99, rfl, fun hw => ?_, fun w1 w2 => ?_⟩
  · rw [if_pos (by right; exact decide_eq_false (by omega))] at k
    exact out_no (n := 22) k
  rw [if_neg (by
    rintro (q | q)
    · exact hc2 q
    · have := of_decide_eq_false q
      omega)] at k
  exact ⟨_, rfl, _, rfl, _, rfl, m, sa, pa, h, c, wt, rfl, r, g, k⟩
def sp_add_rational_policy (K : PySem.W.Frag) : Sp := fun vs H Q E =>
  ∃ (m sa pa : Addr) (h : Monitor) (wt : Nat), vs = [.ref m, .int wt] ∧ MonR K H m h sa pa ∧ Good h ∧ OutM K H m h sa pa Q E (run h (.addRationalPolicy wt))
theorem ok_add_rational_policy (T : Tx K mg) : Cal P w K mg base (L2.CX P w) 8 "add_rational_policy" (sp_add_rational_policy K) := by
  refine (T.d_add_rational_policy).okX sc_add_rational_policy bd_add_rational_policy (fun vs H Q E h => ?_) (fun f cdv A outer s H vs Q E hr h => ?_)
  · obtain ⟨_, _, _, _, _, rfl, _⟩ := h; rfl
  refine ⟨_, (pss_cons (ps_expr (pe_cal (ok_require_within T) (hr.mono (by decide)) (passes_call (E := E) (W := fun cls d _ H => E cls d H) (takes_of rfl rfl rfl rfl) (fun _ _ _ _ h => h)) (pa_cons (pv 1) (pa_cons pe_int (pa_cons (pe_gint T.i_MOST_WEIGHT_policy_calls) pa_nil)))))
      (pss_one (ps_ret (pe_cal (ok_append_policy T) (hr.mono (by decide)) (passes_call (E := E) (W := fun cls d _ H => E cls d H) (takes_of rfl rfl rfl rfl) (fun _ _ _ _ h => h)) (pa_cons (pv 0) (pa_cons (pe_cal (ok_rational_cheat_set T) (hr.mono (by decide)) pass0 (pa_cons (pe_fldC T.c_Monitor T.a_Monitor_setting (pv 0)) pa_nil)) (pa_cons (pv 1) pa_nil))))))), ?_⟩
  obtain ⟨m, sa, pa, h, wt, rfl, r, g, k⟩ := h
  have k : OutM K H m h sa pa Q E (if Kp417.validWeight wt = false then query (single (-22)) else Kp417.addPolicy h ⟨Kp417.maskOf (Kp416.cheatingSignals h.setting), wt⟩) := k
  rw [vw_dec] at k
  obtain ⟨rs, dm, fs, h1, h2⟩ := r.set
  refine ⟨_, rfl, wt, 1, 99, rfl, fun hw => ?_, fun w1 w2 => ?_⟩
  · rw [if_pos (decide_eq_false (by omega))] at k
    exact out_no (n := 22) k
  rw [if_neg (fun q => by have := of_decide_eq_false q; omega)] at k
  refine ⟨_, rfl, _, rfl, _, _, _, _, rfl, h1, h2, sa, h.setting, rfl, rs, g.s, fun H1 s1 => ?_⟩
  refine ⟨_, rfl, m, sa, pa, h, _, wt, rfl, r.same s1, g, ?_⟩
  unfold OutM at k ⊢
  by_cases c : (Kp417.addPolicy h ⟨Kp417.maskOf (Kp416.cheatingSignals h.setting), wt⟩).2.num < 0
  · rw [if_pos c] at k ⊢
    exact k.same s1
  · rw [if_neg c] at k ⊢
    exact fun p H' f r' n e => k p H' (fun b o q m1 m2 m3 => f b o (s1 b o q) m1 m2 m3) r' (s1.free n) e
def sp_remove_policy (K : PySem.W.Frag) : Sp := fun vs H Q E =>
  ∃ (m sa pa : Addr) (h : Monitor) (i : Nat), vs = [.ref m, .int i] ∧ MonR K H m h sa pa ∧ Good h ∧ OutM K H m h sa pa Q E (run h (.removePolicy i))
theorem ok_remove_policy (T : Tx K mg) : Cal P w K mg base (L2.CX P w) 4 "remove_policy" (sp_remove_policy K) := by
  refine (T.d_remove_policy).okX sc_remove_policy bd_remove_policy (fun vs H Q E h => ?_) (fun f cdv A outer s H vs Q E hr h => ?_)
  · obtain ⟨_, _, _, _, _, rfl, _⟩ := h; rfl
  refine ⟨_, (pss_cons (ps_expr (pe_cal (ok_require_policy T) (hr.mono (by decide)) (passes_call (E := E) (W := fun cls d _ H => E cls d H) (takes_of rfl rfl rfl rfl) (fun _ _ _ _ h => h)) (pa_cons (pv 0) (pa_cons (pv 1) pa_nil))))
      (pss_cons (ps_expr (pe_cal (ok_require_empty_log T) (hr.mono (by decide)) (passes_call (E := E) (W := fun cls d _ H => E cls d H) (takes_of rfl rfl rfl rfl) (fun _ _ _ _ h => h)) (pa_cons (pv 0) pa_nil)))
      (pss_cons (ps_expr (pe_bm PySem.F.plainAttrs_list PySem.F.slot_list_pop PySem.F.type_list_pop mt_popAt (pe_fldC T.c_Monitor T.a_Monitor_policies (pv 0)) (pa_cons (pv 1) pa_nil)))
      (pss_one (ps_ret (pe_lst (pa_cons (pe_callB lenL (by rfl) T.n_len bt_len (pa_cons (pe_fldC T.c_Monitor T.a_Monitor_policies (pv 0)) pa_nil)) pa_nil))))))), ?_⟩
  obtain ⟨m, sa, pa, h, i, rfl, r, g, k⟩ := h
  have k : OutM K H m h sa pa Q E (if isPolicy h i = false then query (single (-2)) else if h.log ≠ [] then query (single (-16)) else (some { h with policies := h.policies.eraseIdx i }, single (h.policies.length - 1 : Nat))) := k
  refine ⟨_, rfl, _, rfl, m, sa, pa, h, i, rfl, r, fun hc => ?_, fun hc => ?_⟩
  · rw [if_pos hc] at k
    exact out_no (n := 2) k
  rw [if_neg (by rw [hc]; decide)] at k
  have hi := pol_lt hc
  refine ⟨_, rfl, m, sa, pa, h, rfl, r, fun hl => ?_, fun hl => ?_⟩
  · rw [if_pos hl] at k
    exact out_no (n := 16) k
  rw [if_neg (fun z => z hl)] at k
  obtain ⟨dm, la, dx, tw, pw, pv, ps, es, h1, h2, h3, h4, h5, h6, h7, h8, h9, n1, n2, n3⟩ := r.ex
  have n6 := g.p6
  have hl2 : (ps.map V.ref).length = h.policies.length := by rw [List.length_map, h6.1]
  obtain ⟨p0, dp, e1, e2⟩ := pol_at h6 hi
  have hsq : seqIndex? (i : Int) (ps.map V.ref).length = some i := by
    have := (ixN_seq (n := (ps.map V.ref).length) (i := (i : Int)) (j := i) (by unfold ixN; rw [if_pos (Int.natCast_nonneg _), if_pos (by rw [hl2]; omega), Int.toNat_natCast])).1
    exact this
  refine ⟨_, rfl, _, _, _, _, rfl, h1, rfl, .inl ⟨rfl, _, SqL.of h5⟩, _, rfl, pa, _, i, i, _, rfl, rfl, h5, by omega, by omega, hsq, e1, ?_⟩
  rw [erase_map]
  have rG := r.putP (h6.erase i)
  have fG : Fr3 H (upd H pa (.lst ((ps.eraseIdx i).map V.ref))) m sa pa := (sfr3 (Same.refl H)).p
  generalize hG : upd H pa (.lst ((ps.eraseIdx i).map V.ref)) = G at rG fG ⊢
  have pG : G pa = some (.lst ((ps.eraseIdx i).map V.ref)) := by rw [← hG]; exact upd_same
  have mG : G m = some (.ins (gad K "Monitor") dm (monFs (.ref sa) pa la pv)) := by
    rw [← hG, upd_ne (ne_of h1 h5 (fun z => by cases z))]
    exact h1
  refine ⟨_, rfl, _, _, _, _, rfl, mG, rfl, _, _, rfl, pG, szl, fun p np => ?_⟩
  have sp := Same.new (o := .lst [V.int (((ps.eraseIdx i).map V.ref).length : Int)]) np
  refine out_is k (Int.natCast_nonneg _) p _ (fG.then sp) (rG.same sp) ?_ ?_
  · rw [← hG] at np
    exact up_free h5 np
  · rw [upd_same, List.length_map, List.length_eraseIdx, if_pos (by rw [h6.1]; exact hi), h6.1]
    rfl
def sp_get_policy (K : PySem.W.Frag) : Sp := fun vs H Q E =>
  ∃ (m sa pa : Addr) (h : Monitor) (i : Nat), vs = [.ref m, .int i] ∧ MonR K H m h sa pa ∧ Good h ∧ Ans K H Q E (run h (.getPolicy i)).2
theorem ok_get_policy (T : Tx K mg) : Cal P w K mg base (L2.CX P w) 4 "get_policy" (sp_get_policy K) := by
  refine (T.d_get_policy).okX sc_get_policy bd_get_policy (fun vs H Q E h => ?_) (fun f cdv A outer s H vs Q E hr h => ?_)
  · obtain ⟨_, _, _, _, _, rfl, _⟩ := h; rfl
  refine ⟨_, (pss_cons (ps_expr (pe_cal (ok_require_policy T) (hr.mono (by decide)) (passes_call (E := E) (W := fun cls d _ H => E cls d H) (takes_of rfl rfl rfl rfl) (fun _ _ _ _ h => h)) (pa_cons (pv 0) (pa_cons (pv 1) pa_nil))))
      (pss_cons (ps_set (i := 2) sc_get_policy.nd rfl (Or.inl rfl) (pe_ix ixL (pe_fldC T.c_Monitor T.a_Monitor_policies (pv 0)) (pv 1) (fun _ _ => rfl)))
      (pss_one (ps_ret (pe_lst (pa_cons (pe_fldC T.c_Policy T.a_Policy_cheat_set (pv 2)) (pa_cons (pe_fldC T.c_Policy T.a_Policy_weight (pv 2)) pa_nil))))))), ?_⟩
  obtain ⟨m, sa, pa, h, i, rfl, r, g, k⟩ := h
  have k : Ans K H Q E (if isPolicy h i then ⟨((policyAt h i).cheatSet : Int), [((policyAt h i).weight : Int)]⟩ else single (-2)) := k
  refine ⟨_, rfl, _, rfl, m, sa, pa, h, i, rfl, r, fun hc => ?_, fun hc => ?_⟩
  · rw [hc, if_neg Bool.false_ne_true] at k
    exact ans_no (n := 2) k
  rw [hc, if_pos rfl] at k
  obtain ⟨dm, la, dx, tw, pw, pv, ps, es, h1, h2, h3, h4, h5, h6, h7, h8, h9, n1, n2, n3⟩ := r.ex
  obtain ⟨p, dp, e2, e3⟩ := pol_at h6 (pol_lt hc)
  exact ⟨_, rfl, _, _, _, _, rfl, h1, rfl, _, rfl, _, _, _, _, rfl, rfl, h5, e2, _, rfl, _, _, _, _, rfl, e3, rfl, _, rfl, _, _, _, _, rfl, e3, rfl, szl, fun p np => ans_is k (Int.natCast_nonneg _) p _ (Same.new np) np upd_same⟩
end
end PW
set_option Elab.async false
set_option linter.all false
set_option maxRecDepth 100000
set_option maxHeartbeats 4000000
/-! setting_calls. -/
namespace PW
open PySem PySem.Spec PyProof.Rows L2
open Kp417 (Monitor run query single)
/-- a monitor without a setting -/
structure MonN (K : PySem.W.Frag) (H : Hp) (m pa : Addr) : Prop where
  ex : ∃ dm la, H m = some (.ins (gad K "Monitor") dm (monFs .non pa la .non)) ∧ H pa = some (.lst []) ∧ H la = some (.lst []) ∧ pa ≠ la
theorem MonN.same {K : PySem.W.Frag} {H H' : Hp} {m pa : Addr} (r : MonN K H m pa) (s : Same H H') : MonN K H' m pa := by
  obtain ⟨dm, la, h1, h2, h3, n⟩ := r.ex
  exact ⟨dm, la, s _ _ h1, s _ _ h2, s _ _ h3, n⟩
/-- the setting as it is created -/
def newS (n : Nat) : Kp416.Setting := ⟨⟨List.replicate n 1, List.replicate n 1, 1, 2⟩, 1, 1, 1, 1⟩
theorem newS_n (n : Nat) : Kp415.signalCount (newS n).model = n := List.length_replicate
section
variable {P : Program} {w : World} {K : PySem.W.Frag} {mg : Str → Option Value} {base : Heap}
/-- create_setting of a monitor without one -/
def CreA (K : PySem.W.Frag) (H : Hp) (m pa : Addr) (n : Nat) (Q : VK) (E : XK) : Prop :=
  (n < 1 ∨ 5 < n → Rs K 22 H E) ∧ (1 ≤ n → n ≤ 5 → ∀ p H' sa, (∀ b o, H b = some o → b ≠ m → H' b = some o) → H sa = none → MonR K H' m ⟨newS n, [], [], none⟩ sa pa → H p = none → H' p = some (.lst [.int 0]) → Q (.ref p) H')
def sp_create_setting (K : PySem.W.Frag) : Sp := fun vs H Q E =>
  ∃ (m pa : Addr) (n : Nat), vs = [.ref m, .int n] ∧ ((∃ sa h, MonR K H m h sa pa ∧ Rs K 13 H E) ∨ (MonN K H m pa ∧ CreA K H m pa n Q E))
theorem ok_create_setting (T : Tx K mg) : Cal P w K mg base (L2.CX P w) 4 "create_setting" (sp_create_setting K) := by
  refine (T.d_create_setting).okX sc_create_setting bd_create_setting (fun vs H Q E h => ?_) (fun f cdv A outer s H vs Q E hr h => ?_)
  · obtain ⟨_, _, _, rfl, _⟩ := h; rfl
  refine ⟨_, (pss_cons (ps_if (pt_cmpR op_notN (pe_fldC T.c_Monitor T.a_Monitor_setting (pv 0)) pe_non (nomark _)) (pss_one (ps_raiseR rfl T.ref T.r_SettingExists hr (W := fun cls d _ H => E cls d H) (takes_of rfl rfl rfl rfl))) pss_nil)
      (pss_cons (ps_expr (pe_cal (ok_require_within T) (hr.mono (by decide)) (passes_call (E := E) (W := fun cls d _ H => E cls d H) (takes_of rfl rfl rfl rfl) (fun _ _ _ _ h => h)) (pa_cons (pv 1) (pa_cons pe_int (pa_cons (pe_gint T.i_MOST_SIGNALS) pa_nil)))))
      (pss_cons (ps_fldC T.c_Monitor T.a_Monitor_setting (pv 0) (pe_mk (mk_Setting T) (hr.mono (by decide)) (pa_cons (pv 1) pa_nil)))
      (pss_one (ps_ret (pe_lst (pa_cons pe_int pa_nil))))))), ?_⟩
  obtain ⟨m, pa, n, rfl, c⟩ := h
  rcases c with ⟨sa, h, r, k⟩ | ⟨r, k1, k2⟩
  · obtain ⟨dm, la, pv, h1, pt⟩ := r.parts
    refine ⟨_, rfl, _, _, _, _, rfl, h1, rfl, rfl, _, rfl, iteT ?_⟩
    exact rs_go "SettingExists" k rf_SettingExists
  · obtain ⟨dm, la, h1, h2, h3, n1⟩ := r.ex
    refine ⟨_, rfl, _, _, _, _, rfl, h1, rfl, rfl, _, rfl, iteF ?_⟩
    refine ⟨_, rfl, n, 1, 5, rfl, fun hc => k1 (by omega), fun c1 c2 => ?_⟩
    have k2 := k2 (by omega) (by omega)
    refine ⟨_, rfl, fun x dx nx nd ne => ⟨x, dx, n, rfl, upd_same, by omega, fun H1 tw pw kp ft fp e1 e2 e3 => ⟨rfl, ?_⟩⟩⟩
    have s1 := made_same nx nd kp
    have ftw : H tw = none := by
      cases q : H tw with
      | none => rfl
      | some o =>
        have hx : tw ≠ x := ne_of_none q nx
        rw [upd_ne hx, upd_ne (ne_of_none q nd)] at ft
        rw [q] at ft; cases ft
    have fpw : H pw = none := by
      cases q : H pw with
      | none => rfl
      | some o =>
        have hx : pw ≠ x := ne_of_none q nx
        rw [upd_ne hx, upd_ne (ne_of_none q nd)] at fp
        rw [q] at fp; cases fp
    refine ⟨_, rfl, _, _, _, rfl, s1 _ _ h1, szs, szl, fun p np => ?_⟩
    have sp := Same.new (o := .lst [V.int 0]) np
    have hm1 := s1 _ _ h1
    have e1' : H1 x = some (.ins (gad K "Setting") dx (setFs (Kp415.signalCount (newS n).model) tw pw 1 2 1 1 1 1)) := by rw [newS_n]; exact e1
    have pt : Parts K H1 ⟨newS n, [], [], none⟩ x pa la .non := ⟨dx, tw, pw, [], [], e1', e2, e3, s1 _ _ h2, ⟨rfl, fun i p q a => by simp at a⟩, s1 _ _ h3, ⟨rfl, fun i p q a => by simp at a⟩, rfl, n1, fun z => (ne_of_none h2 ftw) z, fun z => (ne_of_none h2 fpw) z⟩
    have pt2 := (pt.putM (o := .ins (gad K "Monitor") dm (putF "setting" (V.ref x) (monFs .non pa la .non))) hm1).same sp
    refine k2 p _ x (fun b o q nb => sp b o (by rw [upd_ne nb]; exact s1 b o q)) nx (pt2.mon (dm := dm) (sp _ _ (by rw [upd_same]; rfl))) (s1.free (up_free hm1 np)) upd_same
theorem MonR.putS {H : Hp} {m sa pa : Addr} {h : Monitor} {s : Kp416.Setting} (r : MonR K H m h sa pa) (e1 : s.model.testWeights = h.setting.model.testWeights) (e2 : s.model.productionWeights = h.setting.model.productionWeights) :
    ∃ dm la dx tw pw pv, H m = some (.ins (gad K "Monitor") dm (monFs (.ref sa) pa la pv)) ∧ H sa = some (.ins (gad K "Setting") dx (setFs (Kp415.signalCount h.setting.model) tw pw h.setting.model.priorNum h.setting.model.priorDen h.setting.gain h.setting.loss h.setting.harmPrice h.setting.testPrice)) ∧ sa ≠ m ∧
      MonR K (upd H sa (.ins (gad K "Setting") dx (setFs (Kp415.signalCount h.setting.model) tw pw s.model.priorNum s.model.priorDen s.gain s.loss s.harmPrice s.testPrice))) m { h with setting := s } sa pa := by
  obtain ⟨dm, la, dx, tw, pw, pv, ps, es, h1, h2, h3, h4, h5, h6, h7, h8, h9, n1, n2, n3⟩ := r.ex
  have en : Kp415.signalCount s.model = Kp415.signalCount h.setting.model := by unfold Kp415.signalCount; rw [e1]
  have sm : sa ≠ m := ins_ne h2 h1 rfl
  refine ⟨dm, la, dx, tw, pw, pv, h1, h2, sm, dm, la, dx, tw, pw, pv, ps, es, ?_, ?_, ?_, ?_, ?_, ⟨h6.1, fun i p q a b => ?_⟩, ?_, ⟨h8.1, fun i p q a b => ?_⟩, h9.put h2, n1, n2, n3⟩
  · rw [upd_ne (Ne.symm sm)]; exact h1
  · rw [upd_same, en]
  · rw [upd_ne (ne_of h3 h2 (fun z => by cases z)), e1]; exact h3
  · rw [upd_ne (ne_of h4 h2 (fun z => by cases z)), e2]; exact h4
  · rw [upd_ne (ne_of h5 h2 (fun z => by cases z))]; exact h5
  · obtain ⟨d, hd⟩ := h6.2 i p q a b
    exact ⟨d, by rw [upd_ne (ins_ne hd h2 rfl)]; exact hd⟩
  · rw [upd_ne (ne_of h7 h2 (fun z => by cases z))]; exact h7
  · have hd := h8.2 i p q a b
    rw [upd_ne (ne_of hd h2 (fun z => by unfold entT at z; cases z))]
    exact hd
def wPrices (s : Kp416.Setting) (a b : Nat) : Kp416.Setting := { s with harmPrice := a, testPrice := b }
def sp_set_prior (K : PySem.W.Frag) : Sp := fun vs H Q E =>
  ∃ (m sa pa : Addr) (h : Monitor) (a b : Nat), vs = [.ref m, .int a, .int b] ∧ MonR K H m h sa pa ∧ Good h ∧ OutM K H m h sa pa Q E (run h (.setPrior a b))
theorem ok_set_prior (T : Tx K mg) : Cal P w K mg base (L2.CX P w) 5 "set_prior" (sp_set_prior K) := by
  refine (T.d_set_prior).okX sc_set_prior bd_set_prior (fun vs H Q E h => ?_) (fun f cdv A outer s H vs Q E hr h => ?_)
  · obtain ⟨_, _, _, _, _, _, rfl, _⟩ := h; rfl
  refine ⟨_, (pss_cons (ps_expr (pe_cal (ok_require_fraction T) (hr.mono (by decide)) (passes_call (E := E) (W := fun cls d _ H => E cls d H) (takes_of rfl rfl rfl rfl) (fun _ _ _ _ h => h)) (pa_cons (pv 1) (pa_cons (pv 2) pa_nil))))
      (pss_cons (ps_set (i := 3) sc_set_prior.nd rfl (Or.inl rfl) (pe_fldC T.c_Monitor T.a_Monitor_setting (pv 0)))
      (pss_cons (ps_set (i := 4) sc_set_prior.nd rfl (Or.inl rfl) (pe_lst (pa_cons (pe_fldC T.c_Setting T.a_Setting_prior_num (pv 3)) (pa_cons (pe_fldC T.c_Setting T.a_Setting_prior_den (pv 3)) pa_nil))))
      (pss_cons (ps_fldC T.c_Setting T.a_Setting_prior_num (pv 3) (pv 1))
      (pss_cons (ps_fldC T.c_Setting T.a_Setting_prior_den (pv 3) (pv 2))
      (pss_one (ps_ret (pe_op op_cat (pe_lst (pa_cons pe_int pa_nil)) (pv 4))))))))), ?_⟩
  obtain ⟨m, sa, pa, h, a, b, rfl, r, g, k⟩ := h
  have e : run h (.setPrior a b) = if Kp415.validFraction a b then (some { h with setting := wPrior h.setting a b }, ⟨0, [(h.setting.model.priorNum : Int), (h.setting.model.priorDen : Int)]⟩) else query (single (-22)) := by
    show Kp417.runSetting h (.setPrior a b) = _
    unfold Kp417.runSetting Kp416.step
    dsimp only
    cases Kp415.validFraction a b <;> rfl
  rw [e] at k
  obtain ⟨dm, la, dx, tw, pw, pv, h1, h2, sm, rG⟩ := r.putS (s := wPrior h.setting a b) rfl rfl
  refine ⟨_, rfl, _, rfl, a, b, rfl, fun hc => ?_, fun hc => ?_⟩
  · rw [hc, if_neg Bool.false_ne_true] at k
    exact out_no (n := 22) k
  rw [hc, if_pos rfl] at k
  refine ⟨_, rfl, _, _, _, _, rfl, h1, rfl, _, rfl, _, _, _, _, rfl, h2, rfl, _, rfl, _, _, _, _, rfl, h2, rfl, szl, fun u nu => ?_⟩
  have su := Same.new (o := .lst [V.int (h.setting.model.priorNum : Int), V.int (h.setting.model.priorDen : Int)]) nu
  have su2 := Same.new (o := .lst [V.int (h.setting.model.priorNum : Int), V.int (h.setting.model.priorDen : Int)]) nu
  refine ⟨_, rfl, _, rfl, _, _, _, rfl, su _ _ h2, szs, _, rfl, _, rfl, _, _, _, rfl, upd_same, szs, ?_⟩
  rw [upd_upd]
  have us : u ≠ sa := fun z => by rw [z, h2] at nu; cases nu
  have rU := (r.same su).putS (s := wPrior h.setting a b) rfl rfl
  obtain ⟨dm', la', dx', tw', pw', pv', h1', h2', sm', rU⟩ := rU
  rw [su _ _ h2] at h2'
  have h2'' := Option.some.inj h2'
  injection h2'' with _ edx efs
  unfold setFs at efs
  simp only [List.cons.injEq, Prod.mk.injEq, true_and, and_true, V.ref.injEq] at efs
  obtain ⟨et, ep⟩ := efs
  rw [← edx, ← et, ← ep] at rU
  refine ⟨szl, fun z nz => ?_⟩
  have sz := Same.new (o := .lst [V.int 0]) nz
  refine ⟨_, rfl, ?_⟩
  have uG : upd (upd H u (.lst [V.int (h.setting.model.priorNum : Int), V.int (h.setting.model.priorDen : Int)])) sa (.ins (gad K "Setting") dx (setFs (Kp415.signalCount h.setting.model) tw pw a b h.setting.gain h.setting.loss h.setting.harmPrice h.setting.testPrice)) u = some (.lst [V.int (h.setting.model.priorNum : Int), V.int (h.setting.model.priorDen : Int)]) := by
    rw [upd_ne us]
    exact upd_same
  refine cat_ls (H := upd (upd H u (.lst [V.int (h.setting.model.priorNum : Int), V.int (h.setting.model.priorDen : Int)])) sa (.ins (gad K "Setting") dx (setFs (Kp415.signalCount h.setting.model) tw pw a b h.setting.gain h.setting.loss h.setting.harmPrice h.setting.testPrice))) sz upd_same (sz _ _ uG) (by show 1 + 2 ≤ 900; decide) (fun p H6 s6 np ep => ?_)
  refine out_is k (by show (0 : Int) ≤ 0; decide) p H6 (((sfr3 su).s).then s6) (rU.same s6) ?_ ep
  exact su.free (up_free (su _ _ h2) np)
def sp_set_stakes (K : PySem.W.Frag) : Sp := fun vs H Q E =>
  ∃ (m sa pa : Addr) (h : Monitor) (a b : Nat), vs = [.ref m, .int a, .int b] ∧ MonR K H m h sa pa ∧ Good h ∧ OutM K H m h sa pa Q E (run h (.setStakes a b))
theorem ok_set_stakes (T : Tx K mg) : Cal P w K mg base (L2.CX P w) 5 "set_stakes" (sp_set_stakes K) := by
  refine (T.d_set_stakes).okX sc_set_stakes bd_set_stakes (fun vs H Q E h => ?_) (fun f cdv A outer s H vs Q E hr h => ?_)
  · obtain ⟨_, _, _, _, _, _, rfl, _⟩ := h; rfl
  refine ⟨_, (pss_cons (ps_expr (pe_cal (ok_require_stakes T) (hr.mono (by decide)) (passes_call (E := E) (W := fun cls d _ H => E cls d H) (takes_of rfl rfl rfl rfl) (fun _ _ _ _ h => h)) (pa_cons (pv 1) (pa_cons (pv 2) pa_nil))))
      (pss_cons (ps_set (i := 3) sc_set_stakes.nd rfl (Or.inl rfl) (pe_fldC T.c_Monitor T.a_Monitor_setting (pv 0)))
      (pss_cons (ps_set (i := 4) sc_set_stakes.nd rfl (Or.inl rfl) (pe_lst (pa_cons (pe_fldC T.c_Setting T.a_Setting_gain (pv 3)) (pa_cons (pe_fldC T.c_Setting T.a_Setting_loss (pv 3)) pa_nil))))
      (pss_cons (ps_fldC T.c_Setting T.a_Setting_gain (pv 3) (pv 1))
      (pss_cons (ps_fldC T.c_Setting T.a_Setting_loss (pv 3) (pv 2))
      (pss_one (ps_ret (pe_op op_cat (pe_lst (pa_cons pe_int pa_nil)) (pv 4))))))))), ?_⟩
  obtain ⟨m, sa, pa, h, a, b, rfl, r, g, k⟩ := h
  have e : run h (.setStakes a b) = if (Kp416.validAmount a && Kp416.validAmount b) then (some { h with setting := wStakes h.setting a b }, ⟨0, [(h.setting.gain : Int), (h.setting.loss : Int)]⟩) else query (single (-22)) := by
    show Kp417.runSetting h (.setStakes a b) = _
    unfold Kp417.runSetting Kp416.step
    dsimp only
    cases (Kp416.validAmount a && Kp416.validAmount b) <;> rfl
  rw [e] at k
  obtain ⟨dm, la, dx, tw, pw, pv, h1, h2, sm, rG⟩ := r.putS (s := wStakes h.setting a b) rfl rfl
  refine ⟨_, rfl, _, rfl, a, b, rfl, fun hc => ?_, fun hc => ?_⟩
  · rw [hc, if_neg Bool.false_ne_true] at k
    exact out_no (n := 22) k
  rw [hc, if_pos rfl] at k
  refine ⟨_, rfl, _, _, _, _, rfl, h1, rfl, _, rfl, _, _, _, _, rfl, h2, rfl, _, rfl, _, _, _, _, rfl, h2, rfl, szl, fun u nu => ?_⟩
  have su := Same.new (o := .lst [V.int (h.setting.gain : Int), V.int (h.setting.loss : Int)]) nu
  have su2 := Same.new (o := .lst [V.int (h.setting.gain : Int), V.int (h.setting.loss : Int)]) nu
  refine ⟨_, rfl, _, rfl, _, _, _, rfl, su _ _ h2, szs, _, rfl, _, rfl, _, _, _, rfl, upd_same, szs, ?_⟩
  rw [upd_upd]
  have us : u ≠ sa := fun z => by rw [z, h2] at nu; cases nu
  have rU := (r.same su).putS (s := wStakes h.setting a b) rfl rfl
  obtain ⟨dm', la', dx', tw', pw', pv', h1', h2', sm', rU⟩ := rU
  rw [su _ _ h2] at h2'
  have h2'' := Option.some.inj h2'
  injection h2'' with _ edx efs
  unfold setFs at efs
  simp only [List.cons.injEq, Prod.mk.injEq, true_and, and_true, V.ref.injEq] at efs
  obtain ⟨et, ep⟩ := efs
  rw [← edx, ← et, ← ep] at rU
  refine ⟨szl, fun z nz => ?_⟩
  have sz := Same.new (o := .lst [V.int 0]) nz
  refine ⟨_, rfl, ?_⟩
  have uG : upd (upd H u (.lst [V.int (h.setting.gain : Int), V.int (h.setting.loss : Int)])) sa (.ins (gad K "Setting") dx (setFs (Kp415.signalCount h.setting.model) tw pw h.setting.model.priorNum h.setting.model.priorDen a b h.setting.harmPrice h.setting.testPrice)) u = some (.lst [V.int (h.setting.gain : Int), V.int (h.setting.loss : Int)]) := by
    rw [upd_ne us]
    exact upd_same
  refine cat_ls (H := upd (upd H u (.lst [V.int (h.setting.gain : Int), V.int (h.setting.loss : Int)])) sa (.ins (gad K "Setting") dx (setFs (Kp415.signalCount h.setting.model) tw pw h.setting.model.priorNum h.setting.model.priorDen a b h.setting.harmPrice h.setting.testPrice))) sz upd_same (sz _ _ uG) (by show 1 + 2 ≤ 900; decide) (fun p H6 s6 np ep => ?_)
  refine out_is k (by show (0 : Int) ≤ 0; decide) p H6 (((sfr3 su).s).then s6) (rU.same s6) ?_ ep
  exact su.free (up_free (su _ _ h2) np)
def sp_set_prices (K : PySem.W.Frag) : Sp := fun vs H Q E =>
  ∃ (m sa pa : Addr) (h : Monitor) (a b : Nat), vs = [.ref m, .int a, .int b] ∧ MonR K H m h sa pa ∧ Good h ∧ OutM K H m h sa pa Q E (run h (.setPrices a b))
theorem ok_set_prices (T : Tx K mg) : Cal P w K mg base (L2.CX P w) 5 "set_prices" (sp_set_prices K) := by
  refine (T.d_set_prices).okX sc_set_prices bd_set_prices (fun vs H Q E h => ?_) (fun f cdv A outer s H vs Q E hr h => ?_)
  · obtain ⟨_, _, _, _, _, _, rfl, _⟩ := h; rfl
  refine ⟨_, (pss_cons (ps_expr (pe_cal (ok_require_stakes T) (hr.mono (by decide)) (passes_call (E := E) (W := fun cls d _ H => E cls d H) (takes_of rfl rfl rfl rfl) (fun _ _ _ _ h => h)) (pa_cons (pv 1) (pa_cons (pv 2) pa_nil))))
      (pss_cons (ps_set (i := 3) sc_set_prices.nd rfl (Or.inl rfl) (pe_fldC T.c_Monitor T.a_Monitor_setting (pv 0)))
      (pss_cons (ps_set (i := 4) sc_set_prices.nd rfl (Or.inl rfl) (pe_lst (pa_cons (pe_fldC T.c_Setting T.a_Setting_harm_price (pv 3)) (pa_cons (pe_fldC T.c_Setting T.a_Setting_test_price (pv 3)) pa_nil))))
      (pss_cons (ps_fldC T.c_Setting T.a_Setting_harm_price (pv 3) (pv 1))
      (pss_cons (ps_fldC T.c_Setting T.a_Setting_test_price (pv 3) (pv 2))
      (pss_one (ps_ret (pe_op op_cat (pe_lst (pa_cons pe_int pa_nil)) (pv 4))))))))), ?_⟩
  obtain ⟨m, sa, pa, h, a, b, rfl, r, g, k⟩ := h
  have e : run h (.setPrices a b) = if (Kp416.validAmount a && Kp416.validAmount b) then (some { h with setting := wPrices h.setting a b }, ⟨0, [(h.setting.harmPrice : Int), (h.setting.testPrice : Int)]⟩) else query (single (-22)) := by
    show Kp417.runSetting h (.setPrices a b) = _
    unfold Kp417.runSetting Kp416.step
    dsimp only
    cases (Kp416.validAmount a && Kp416.validAmount b) <;> rfl
  rw [e] at k
  obtain ⟨dm, la, dx, tw, pw, pv, h1, h2, sm, rG⟩ := r.putS (s := wPrices h.setting a b) rfl rfl
  refine ⟨_, rfl, _, rfl, a, b, rfl, fun hc => ?_, fun hc => ?_⟩
  · rw [hc, if_neg Bool.false_ne_true] at k
    exact out_no (n := 22) k
  rw [hc, if_pos rfl] at k
  refine ⟨_, rfl, _, _, _, _, rfl, h1, rfl, _, rfl, _, _, _, _, rfl, h2, rfl, _, rfl, _, _, _, _, rfl, h2, rfl, szl, fun u nu => ?_⟩
  have su := Same.new (o := .lst [V.int (h.setting.harmPrice : Int), V.int (h.setting.testPrice : Int)]) nu
  have su2 := Same.new (o := .lst [V.int (h.setting.harmPrice : Int), V.int (h.setting.testPrice : Int)]) nu
  refine ⟨_, rfl, _, rfl, _, _, _, rfl, su _ _ h2, szs, _, rfl, _, rfl, _, _, _, rfl, upd_same, szs, ?_⟩
  rw [upd_upd]
  have us : u ≠ sa := fun z => by rw [z, h2] at nu; cases nu
  have rU := (r.same su).putS (s := wPrices h.setting a b) rfl rfl
  obtain ⟨dm', la', dx', tw', pw', pv', h1', h2', sm', rU⟩ := rU
  rw [su _ _ h2] at h2'
  have h2'' := Option.some.inj h2'
  injection h2'' with _ edx efs
  unfold setFs at efs
  simp only [List.cons.injEq, Prod.mk.injEq, true_and, and_true, V.ref.injEq] at efs
  obtain ⟨et, ep⟩ := efs
  rw [← edx, ← et, ← ep] at rU
  refine ⟨szl, fun z nz => ?_⟩
  have sz := Same.new (o := .lst [V.int 0]) nz
  refine ⟨_, rfl, ?_⟩
  have uG : upd (upd H u (.lst [V.int (h.setting.harmPrice : Int), V.int (h.setting.testPrice : Int)])) sa (.ins (gad K "Setting") dx (setFs (Kp415.signalCount h.setting.model) tw pw h.setting.model.priorNum h.setting.model.priorDen h.setting.gain h.setting.loss a b)) u = some (.lst [V.int (h.setting.harmPrice : Int), V.int (h.setting.testPrice : Int)]) := by
    rw [upd_ne us]
    exact upd_same
  refine cat_ls (H := upd (upd H u (.lst [V.int (h.setting.harmPrice : Int), V.int (h.setting.testPrice : Int)])) sa (.ins (gad K "Setting") dx (setFs (Kp415.signalCount h.setting.model) tw pw h.setting.model.priorNum h.setting.model.priorDen h.setting.gain h.setting.loss a b))) sz upd_same (sz _ _ uG) (by show 1 + 2 ≤ 900; decide) (fun p H6 s6 np ep => ?_)
  refine out_is k (by show (0 : Int) ≤ 0; decide) p H6 (((sfr3 su).s).then s6) (rU.same s6) ?_ ep
  exact su.free (up_free (su _ _ h2) np)
def sp_get_settings (K : PySem.W.Frag) : Sp := fun vs H Q E =>
  ∃ (m sa pa : Addr) (h : Monitor), vs = [.ref m] ∧ MonR K H m h sa pa ∧ Good h ∧ Ans K H Q E (run h .getSettings).2
theorem ok_get_settings (T : Tx K mg) : Cal P w K mg base CX0 1 "get_settings" (sp_get_settings K) := by
  refine (T.d_get_settings).ok0 sc_get_settings bd_get_settings (fun vs H Q E h => ?_) (fun f cdv A outer s H vs Q E hr h => ?_)
  · obtain ⟨_, _, _, _, rfl, _⟩ := h; rfl
  refine ⟨_, (pss_cons (ps_set (i := 1) sc_get_settings.nd rfl (Or.inl rfl) (pe_fldC T.c_Monitor T.a_Monitor_setting (pv 0)))
      (pss_cons (ps_set (i := 2) sc_get_settings.nd rfl (Or.inl rfl) (pe_lst (pa_cons (pe_fldC T.c_Setting T.a_Setting_prior_num (pv 1)) (pa_cons (pe_fldC T.c_Setting T.a_Setting_prior_den (pv 1)) pa_nil))))
      (pss_cons (ps_set (i := 3) sc_get_settings.nd rfl (Or.inl rfl) (pe_lst (pa_cons (pe_fldC T.c_Setting T.a_Setting_gain (pv 1)) (pa_cons (pe_fldC T.c_Setting T.a_Setting_loss (pv 1)) pa_nil))))
      (pss_cons (ps_set (i := 4) sc_get_settings.nd rfl (Or.inl rfl) (pe_lst (pa_cons (pe_fldC T.c_Setting T.a_Setting_harm_price (pv 1)) (pa_cons (pe_fldC T.c_Setting T.a_Setting_test_price (pv 1)) pa_nil))))
      (pss_one (ps_ret (pe_op op_cat (pe_op op_cat (pe_op op_cat (pe_op op_cat (pe_op op_cat (pe_lst (pa_cons (pe_fldC T.c_Setting T.a_Setting_signal_count (pv 1)) pa_nil)) (pv 2)) (pv 3)) (pv 4)) (pe_fldC T.c_Setting T.a_Setting_test_weights (pv 1))) (pe_fldC T.c_Setting T.a_Setting_production_weights (pv 1))))))))), ?_⟩
  obtain ⟨m, sa, pa, h, rfl, r, g, k⟩ := h
  have k : Ans K H Q E ⟨(Kp415.signalCount h.setting.model : Int), [(h.setting.model.priorNum : Int), (h.setting.model.priorDen : Int), (h.setting.gain : Int), (h.setting.loss : Int), (h.setting.harmPrice : Int), (h.setting.testPrice : Int)] ++ (h.setting.model.testWeights ++ h.setting.model.productionWeights).map fun (x : Nat) => (x : Int)⟩ := ans_rs .getSettings rfl k
  obtain ⟨dm, la, dx, tw, pw, pv, ps, es, h1, h2, h3, h4, h5, h6, h7, h8, h9, n1, n2, n3⟩ := r.ex
  have n5 := g.s.n5
  have lt : (natL h.setting.model.testWeights).length ≤ 5 := by rw [natL_len]; exact n5
  have lp : (natL h.setting.model.productionWeights).length ≤ 5 := by rw [natL_len, g.s.pw.len]; exact n5
  refine ⟨_, rfl, _, _, _, _, rfl, h1, rfl, _, rfl, _, _, _, _, rfl, h2, rfl, _, rfl, _, _, _, _, rfl, h2, rfl, szl, fun a na => ?_⟩
  have sa1 := Same.new (o := .lst [V.int (h.setting.model.priorNum : Int), V.int (h.setting.model.priorDen : Int)]) na
  refine ⟨_, rfl, _, _, _, _, rfl, sa1 _ _ h2, rfl, _, rfl, _, _, _, _, rfl, sa1 _ _ h2, rfl, szl, fun b nb => ?_⟩
  have sb1 := sa1.trans (Same.new (o := .lst [V.int (h.setting.gain : Int), V.int (h.setting.loss : Int)]) nb)
  have ab := Same.new (o := .lst [V.int (h.setting.gain : Int), V.int (h.setting.loss : Int)]) nb
  refine ⟨_, rfl, _, _, _, _, rfl, sb1 _ _ h2, rfl, _, rfl, _, _, _, _, rfl, sb1 _ _ h2, rfl, szl, fun c nc => ?_⟩
  have bc := Same.new (o := .lst [V.int (h.setting.harmPrice : Int), V.int (h.setting.testPrice : Int)]) nc
  have sc1 := sb1.trans bc
  refine ⟨_, rfl, _, _, _, _, rfl, sc1 _ _ h2, rfl, szl, fun z nz => ?_⟩
  have cz := Same.new (o := .lst [V.int (Kp415.signalCount h.setting.model : Int)]) nz
  have s0 := sc1.trans cz
  have ea := cz _ _ (bc _ _ (ab _ _ upd_same))
  have eb := cz _ _ (bc _ _ upd_same)
  have ec := cz _ _ upd_same
  refine ⟨_, rfl, cat_ls (Same.refl _) upd_same ea (by show 1 + 2 ≤ 900; decide) (fun q1 H1 s1 _ e1 => ?_)⟩
  refine ⟨_, rfl, cat_ls (Same.refl _) e1 (s1 _ _ eb) (by show 3 + 2 ≤ 900; decide) (fun q2 H2 s2 _ e2 => ?_)⟩
  have s12 := s1.trans s2
  refine ⟨_, rfl, cat_ls (Same.refl _) e2 (s12 _ _ ec) (by show 5 + 2 ≤ 900; decide) (fun q3 H3 s3 _ e3 => ?_)⟩
  have s13 := (s0.trans s12).trans s3
  refine ⟨_, rfl, _, _, _, _, rfl, s13 _ _ h2, rfl, cat_ls (Same.refl _) e3 (s13 _ _ h3) (by show 7 + (natL h.setting.model.testWeights).length ≤ 900; omega) (fun q4 H4 s4 _ e4 => ?_)⟩
  have s14 := s13.trans s4
  refine ⟨_, rfl, _, _, _, _, rfl, s14 _ _ h2, rfl, cat_ls s14 e4 (s14 _ _ h4) ?_ (fun p H5 s5 np e5 => ?_)⟩
  · rw [List.length_append]
    show 7 + (natL h.setting.model.testWeights).length + _ ≤ 900
    omega
  · refine ans_is k (Int.natCast_nonneg _) p H5 s5 np ?_
    rw [e5, natL_ints, natL_ints]
    simp
end
end PW
set_option Elab.async false
set_option linter.all false
set_option maxRecDepth 100000
set_option maxHeartbeats 4000000
/-! What is kept from call to call; each call's handler under one promise. -/
namespace PW
open PySem PySem.Spec PyProof.Rows L2
open Kp417 (Monitor Policy Permit run query single policyAt)
theorem Good.uniq {h : Monitor} (g : Good h) : ∀ i j, i < h.policies.length → j < h.policies.length → (policyAt h i).cheatSet = (policyAt h j).cheatSet → i = j := fun i j hi hj e => by
  have a : ∀ {k}, (hk : k < h.policies.length) → policyAt h k = h.policies[k] := fun {k} hk => by unfold policyAt; rw [List.getD_eq_getElem?_getD, List.getElem?_eq_getElem hk]; rfl
  rw [a hi, a hj] at e
  have li : i < (h.policies.map fun q => q.cheatSet).length := by rw [List.length_map]; exact hi
  have lj : j < (h.policies.map fun q => q.cheatSet).length := by rw [List.length_map]; exact hj
  exact (List.getElem_inj g.uq (h₀ := li) (h₁ := lj)).mp (by rw [List.getElem_map, List.getElem_map]; exact e)
/-- the calls that carry no list -/
def plainC : Kp417.Call → Bool
  | .setTestWeights _ | .setProductionWeights _ | .previewMerge _ | .mergeSignals _ => false
  | _ => true
theorem run_set (h : Monitor) (c : Kp416.Call) (hc : (Kp416.step (some h.setting) c).1 = some h.setting) : ((Kp417.runSetting h c).1.getD h) = h := by
  unfold Kp417.runSetting
  dsimp only
  rw [hc]
  repeat' split
  all_goals rfl
theorem good_set {h : Monitor} (g : Good h) {s : Kp416.Setting} (o : SOk s) (p : s.model.priorDen ≤ 99) : Good { h with setting := s } := ⟨o, g.p6, g.pw, g.l16, g.pm, p, g.uq⟩
theorem good_pol {h : Monitor} (g : Good h) {q : Policy} (h1 : ¬ (h.policies.any fun p => p.cheatSet == q.cheatSet) = true) (h2 : ¬ 6 ≤ h.policies.length) (h3 : 1 ≤ q.weight ∧ q.weight ≤ 99) : Good { h with policies := h.policies ++ [q] } := by
  refine ⟨g.s, ?_, ?_, g.l16, g.pm, g.p99, ?_⟩
  · show (h.policies ++ [q]).length ≤ 6
    rw [List.length_append]
    simp
    omega
  · intro x hx
    rcases List.mem_append.mp hx with e | e
    · exact g.pw x e
    · rw [List.mem_singleton.mp e]
      exact h3
  · show ((h.policies ++ [q]).map fun q => q.cheatSet).Nodup
    rw [List.map_append, List.nodup_append]
    refine ⟨g.uq, by simp, ?_⟩
    intro a ha b hb e
    have hb2 : b = q.cheatSet := by simpa using hb
    obtain ⟨p, hp, rfl⟩ := List.mem_map.mp ha
    exact h1 (List.any_eq_true.mpr ⟨p, hp, by rw [e, hb2]; simp⟩)
theorem good_add {h : Monitor} (g : Good h) {q : Policy} (h3 : 1 ≤ q.weight ∧ q.weight ≤ 99) : Good ((Kp417.addPolicy h q).1.getD h) := by
  unfold Kp417.addPolicy
  split
  · exact g
  split
  · exact g
  split
  · exact g
  rename_i a b c
  exact good_pol g b (by simpa [Kp417.maxPolicies] using c) h3
theorem good_log {h : Monitor} (g : Good h) {l : List Kp417.Entry} (hl : l.length ≤ 16) : Good { h with log := l } := ⟨g.s, g.p6, g.pw, hl, g.pm, g.p99, g.uq⟩
theorem good_run {h : Monitor} (g : Good h) (c : Kp417.Call) (hc : plainC c = true) : Good ((run h c).1.getD h) := by
  cases c with
  | addPolicy a b =>
    show Good ((if 2 ^ Kp415.signalCount h.setting.model ≤ a ∨ Kp417.validWeight b = false then query (single (-22)) else Kp417.addPolicy h ⟨a, b⟩).1.getD h)
    split
    · exact g
    · rename_i c
      refine good_add g ?_
      have c2 : ¬ Kp417.validWeight b = false := fun z => c (.inr z)
      rw [vw_dec] at c2
      simpa using c2
  | addRationalPolicy b =>
    show Good ((if Kp417.validWeight b = false then query (single (-22)) else Kp417.addPolicy h ⟨Kp417.maskOf (Kp416.cheatingSignals h.setting), b⟩).1.getD h)
    split
    · exact g
    · rename_i c
      refine good_add g ?_
      rw [vw_dec] at c
      simpa using c
  | removePolicy i =>
    show Good ((if Kp417.isPolicy h i = false then query (single (-2)) else if h.log ≠ [] then query (single (-16)) else (some { h with policies := h.policies.eraseIdx i }, single (h.policies.length - 1 : Nat))).1.getD h)
    split
    · exact g
    split
    · exact g
    refine ⟨g.s, Nat.le_trans (List.length_eraseIdx_le _ _) g.p6, fun q hq => g.pw q (List.mem_of_mem_eraseIdx hq), g.l16, g.pm, g.p99, ?_⟩
    exact List.Nodup.sublist ((List.eraseIdx_sublist _ _).map _) g.uq
  | recordTest s c =>
    show Good ((if Kp415.isSignal h.setting.model s = false then query (single (-2)) else if 1 < c ∨ Kp417.appearsInTests h s = false then query (single (-22)) else if 16 ≤ h.log.length then query (single (-28)) else
      if (Kp417.candidates (Kp417.withEntry h (Kp417.testEntry s c))).isEmpty then query (single (-33)) else (some (Kp417.withEntry h (Kp417.testEntry s c)), single ((Kp417.candidates (Kp417.withEntry h (Kp417.testEntry s c))).length : Nat))).1.getD h)
    split
    · exact g
    split
    · exact g
    split
    · exact g
    split
    · exact g
    rename_i a b c d
    refine good_log g ?_
    rw [List.length_append]
    simp
    omega
  | recordProduction s =>
    show Good ((if Kp415.isSignal h.setting.model s = false then query (single (-2)) else if Kp417.appearsInProduction h s = false then query (single (-22)) else if 16 ≤ h.log.length then query (single (-28)) else if (Kp417.candidates h).isEmpty then query (single (-33)) else if Kp417.allowed h = false then query (single (-30)) else
      (some (Kp417.withEntry h ⟨.production, s⟩), single (((Kp417.candidates h).filter fun i => Kp415.contains (policyAt h i).cheatSet s).length : Nat))).1.getD h)
    split
    · exact g
    split
    · exact g
    split
    · exact g
    split
    · exact g
    split
    · exact g
    rename_i a b c d e
    refine good_log g ?_
    rw [List.length_append]
    simp
    omega
  | undoRecord =>
    show Good ((match h.log.getLast? with | none => query (single (-6)) | some e => (some { h with log := h.log.dropLast }, ⟨(e.kind.code : Int), [(e.signal : Int)]⟩)).1.getD h)
    cases h.log.getLast? with
    | none => exact g
    | some e =>
      refine good_log g ?_
      have := g.l16
      rw [List.length_dropLast]
      omega
  | permit a b =>
    show Good ((if Kp415.validFraction a b = false then query (single (-22)) else if (Kp417.candidates h).isEmpty then query (single (-33)) else if Kp415.toRat a b < Kp417.nextHarm h then query (single (-30)) else (some { h with permit := some ⟨a, b⟩ }, ⟨0, Kp417.permitPair h.permit⟩)).1.getD h)
    split
    · exact g
    split
    · exact g
    split
    · exact g
    rename_i c _ _
    have v := vf_of (a := a) (b := b) (by simpa using c)
    refine ⟨g.s, g.p6, g.pw, g.l16, fun p hp => ?_, g.p99, g.uq⟩
    have hp2 : (⟨a, b⟩ : Permit) = p := Option.some.inj hp
    subst hp2
    exact ⟨by show b ≠ 0; omega, v.2.2, v.1⟩
  | revokePermit =>
    show Good ((match h.permit with | none => query (single (-6)) | some _ => (some { h with permit := none }, ⟨0, Kp417.permitPair h.permit⟩)).1.getD h)
    cases h.permit with
    | none => exact g
    | some _ => exact ⟨g.s, g.p6, g.pw, g.l16, (fun p hp => by cases hp), g.p99, g.uq⟩
  | setPrior a b =>
    have e : run h (.setPrior a b) = if Kp415.validFraction a b then (some { h with setting := wPrior h.setting a b }, ⟨0, [(h.setting.model.priorNum : Int), (h.setting.model.priorDen : Int)]⟩) else query (single (-22)) := by
      show Kp417.runSetting h (.setPrior a b) = _
      unfold Kp417.runSetting Kp416.step
      dsimp only
      cases Kp415.validFraction a b <;> rfl
    rw [e]
    split
    · rename_i c
      have v := vf_of c
      exact good_set g (sok_prior g.s (by omega) (lt80 (by omega)) (lt80 v.2.2)) v.2.2
    · exact g
  | setStakes a b =>
    have e : run h (.setStakes a b) = if (Kp416.validAmount a && Kp416.validAmount b) then (some { h with setting := wStakes h.setting a b }, ⟨0, [(h.setting.gain : Int), (h.setting.loss : Int)]⟩) else query (single (-22)) := by
      show Kp417.runSetting h (.setStakes a b) = _
      unfold Kp417.runSetting Kp416.step
      dsimp only
      cases (Kp416.validAmount a && Kp416.validAmount b) <;> rfl
    rw [e]
    split
    · rename_i c
      have v : a ≤ 999 ∧ b ≤ 999 := by
        unfold Kp416.validAmount at c
        simpa using c
      exact good_set g (sok_stakes g.s v.1 v.2) g.p99
    · exact g
  | setPrices a b =>
    have e : run h (.setPrices a b) = if (Kp416.validAmount a && Kp416.validAmount b) then (some { h with setting := wPrices h.setting a b }, ⟨0, [(h.setting.harmPrice : Int), (h.setting.testPrice : Int)]⟩) else query (single (-22)) := by
      show Kp417.runSetting h (.setPrices a b) = _
      unfold Kp417.runSetting Kp416.step
      dsimp only
      cases (Kp416.validAmount a && Kp416.validAmount b) <;> rfl
    rw [e]
    split
    · rename_i c
      have v : a ≤ 999 ∧ b ≤ 999 := by
        unfold Kp416.validAmount at c
        simpa using c
      exact good_set g ⟨g.s.n1, g.s.n5, g.s.tw, g.s.pw, g.s.pd, g.s.pl, g.s.pb, g.s.g, g.s.l, v.1, v.2⟩ g.p99
    · exact g
  | setTestWeights a => cases hc
  | setProductionWeights a => cases hc
  | previewMerge a => cases hc
  | mergeSignals a => cases hc
  | cheatingValue a => rw [show (run h (.cheatingValue a)).1.getD h = h from run_set h _ rfl]; exact g
  | cheatingSignals => rw [show (run h .cheatingSignals).1.getD h = h from run_set h _ rfl]; exact g
  | expectedProfit => rw [show (run h .expectedProfit).1.getD h = h from run_set h _ rfl]; exact g
  | detectionProbability => rw [show (run h .detectionProbability).1.getD h = h from run_set h _ rfl]; exact g
  | harmProbability => rw [show (run h .harmProbability).1.getD h = h from run_set h _ rfl]; exact g
  | totalCost => rw [show (run h .totalCost).1.getD h = h from run_set h _ rfl]; exact g
  | deterrentPriorAt a => rw [show (run h (.deterrentPriorAt a)).1.getD h = h from run_set h _ rfl]; exact g
  | deterrentPrior => rw [show (run h .deterrentPrior).1.getD h = h from run_set h _ rfl]; exact g
  | cheapestPrior => rw [show (run h .cheapestPrior).1.getD h = h from run_set h _ rfl]; exact g
  | cheatingSignalsForPrior a b => rw [show (run h (.cheatingSignalsForPrior a b)).1.getD h = h from run_set h _ rfl]; exact g
  | cheatingSignalsForStakes a b => rw [show (run h (.cheatingSignalsForStakes a b)).1.getD h = h from run_set h _ rfl]; exact g
  | getSettings => rw [show (run h .getSettings).1.getD h = h from run_set h _ rfl]; exact g
  | _ => exact g
end PW
set_option Elab.async false
set_option linter.all false
set_option maxRecDepth 100000
set_option maxHeartbeats 4000000
/-! Each call's handler under one promise. -/
namespace PW
open PySem PySem.Spec PyProof.Rows L2
open Kp417 (Monitor Policy Permit run query single policyAt)
/-- a state of the document in the heap; fp: the objects that later calls may change -/
def StR (K : PySem.W.Frag) (H : Hp) (v : V) (st : Kp417.State) (fp : List Addr) : Prop := match st with
  | none => v = .non ∧ fp = []
  | some none => ∃ m pa, v = .ref m ∧ MonN K H m pa ∧ fp = [m, pa]
  | some (some h) => ∃ m sa pa, v = .ref m ∧ MonR K H m h sa pa ∧ Good h ∧ fp = [m, sa, pa]
def Frm (H H' : Hp) (fp fp' : List Addr) : Prop := (∀ b o, H b = some o → b ∉ fp → H' b = some o) ∧ ∀ b ∈ fp', b ∈ fp ∨ H b = none
/-- what a call is answered by, and what it leaves -/
def PostS (K : PySem.W.Frag) (H : Hp) (v : V) (st : Kp417.State) (fp : List Addr) (c : Kp417.Call) (Q : VK) (E : XK) : Prop :=
  if (Kp417.step st c).2.num < 0 then Rs K (Kp417.step st c).2.num.natAbs H E else
    ∀ p H' fp', Frm H H' fp fp' → StR K H' v (Kp417.step st c).1 fp' → H p = none → H' p = some (.lst (((Kp417.step st c).2.num :: (Kp417.step st c).2.nums).map V.int)) → Q (.ref p) H'
def Rdy (st : Kp417.State) (c : Kp417.Call) : Prop := (∃ h, st = some (some h)) ∨ (st = some none ∧ ∃ n, c = .createSetting n)
def spAny (K : PySem.W.Frag) (args : List Nat) (c : Kp417.Call) : Sp := fun vs H Q E => ∃ m st fp, vs = .ref m :: natL args ∧ StR K H (.ref m) st fp ∧ Rdy st c ∧ PostS K H (.ref m) st fp c Q E
theorem step_run (h : Monitor) (c : Kp417.Call) (hr : c ≠ .reset) : Kp417.step (some (some h)) c = (some (some ((run h c).1.getD h)), (run h c).2) := by
  unfold Kp417.step
  cases c <;> first | exact absurd rfl hr | (dsimp only; generalize run h _ = o; obtain ⟨a, b⟩ := o; cases a <;> rfl)
theorem post_out {K : PySem.W.Frag} {H : Hp} {m sa pa : Addr} {h : Monitor} {c : Kp417.Call} {Q : VK} {E : XK} (g : Good h) (hc : plainC c = true) (hr : c ≠ .reset) (k : PostS K H (.ref m) (some (some h)) [m, sa, pa] c Q E) : OutM K H m h sa pa Q E (run h c) := by
  unfold PostS at k
  rw [step_run h c hr] at k
  unfold OutM
  by_cases z : (run h c).2.num < 0
  · rw [if_pos (show (some (some ((run h c).1.getD h)), (run h c).2).2.num < 0 from z)] at k
    rw [if_pos z]
    exact k
  · rw [if_neg (show ¬ (some (some ((run h c).1.getD h)), (run h c).2).2.num < 0 from z)] at k
    rw [if_neg z]
    intro p H' f r n e
    refine k p H' [m, sa, pa] ⟨fun b o hb hn => ?_, fun b hb => .inl hb⟩ ⟨m, sa, pa, rfl, r, good_run g c hc, rfl⟩ n e
    simp only [List.mem_cons, List.not_mem_nil, or_false, not_or] at hn
    exact f b o hb hn.1 hn.2.1 hn.2.2
theorem any_go {K : PySem.W.Frag} {H : Hp} {args : List Nat} {c : Kp417.Call} {vs : List V} {Q : VK} {E : XK} (hc : plainC c = true) (hr : c ≠ .reset) (hn : ∀ n, c ≠ .createSetting n) (s : spAny K args c vs H Q E) :
    ∃ m sa pa h, vs = .ref m :: natL args ∧ MonR K H m h sa pa ∧ Good h ∧ OutM K H m h sa pa Q E (run h c) := by
  obtain ⟨m, st, fp, ev, rs, rd, k⟩ := s
  rcases rd with ⟨h, e⟩ | ⟨_, n, e⟩
  · subst e
    obtain ⟨m', sa, pa, e1, r, g, rfl⟩ := rs
    cases e1
    exact ⟨m, sa, pa, h, ev, r, g, post_out g hc hr k⟩
  · exact absurd e (hn n)
theorem out_ans2 {K : PySem.W.Frag} {H : Hp} {m sa pa : Addr} {h : Monitor} {Q : VK} {E : XK} {o : Kp417.Outcome} (r : MonR K H m h sa pa) (e : o.1.getD h = h) (k : OutM K H m h sa pa Q E o) : Ans K H Q E o.2 := by
  unfold OutM at k
  unfold Ans
  by_cases c : o.2.num < 0
  · rw [if_pos c] at k ⊢
    exact k
  · rw [if_neg c] at k ⊢
    exact fun p H' s n q => k p H' (sfr3 s) (by rw [e]; exact r.same s) n q
section
variable {P : Program} {w : World} {K : PySem.W.Frag} {mg : Str → Option Value} {base : Heap}
theorem fn_lift {j k : Nat} {f : Addr} {fd : FuncData} {ps : List Str} {sp : Sp} (F : FnOk P w K mg base CX0 j f fd ps sp) (hk : j ≤ k) : FnOk P w K mg base (L2.CX P w) k f fd ps sp :=
  ⟨F.len, fun A outer s H args us vs Q E hr he hb hv hs => codeAny_mono (F.run A outer s H args us vs Q E (hr.mono hk) he hb hv hs) fun r s' z => by
    cases r with
    | error e => exact z.elim
    | ok fl => cases fl <;> exact z⟩
theorem Cal.lift {j k : Nat} {x : Str} {sp sp' : Sp} (C : Cal P w K mg base CX0 j x sp) (hk : j ≤ k) (h : ∀ vs H Q E, sp' vs H Q E → sp vs H Q E) : Cal P w K mg base (L2.CX P w) k x sp' := by
  obtain ⟨f, fd, ps, F, g, kp, b⟩ := C.ex
  exact ⟨f, fd, ps, (fn_lift F hk).imp h, g, kp, b⟩
theorem Cal.up {j k : Nat} {x : Str} {sp sp' : Sp} (C : Cal P w K mg base (L2.CX P w) j x sp) (hk : j ≤ k) (h : ∀ vs H Q E, sp' vs H Q E → sp vs H Q E) : Cal P w K mg base (L2.CX P w) k x sp' := by
  obtain ⟨f, fd, ps, F, g, kp, b⟩ := C.ex
  exact ⟨f, fd, ps, (F.mono hk).imp h, g, kp, b⟩
theorem hd_1 (T : Tx K mg) (a b : Nat) : Cal P w K mg base (L2.CX P w) 20 "add_policy" (spAny K [a, b] (.addPolicy a b)) := (ok_add_policy T).up (by decide) fun vs H Q E s => by
  obtain ⟨m, sa, pa, h, rfl, r, g, k⟩ := any_go (c := (.addPolicy a b)) rfl (fun z => by cases z) (fun n z => by cases z) s
  exact ⟨m, sa, pa, h, a, b, rfl, r, g, k⟩
theorem hd_2 (T : Tx K mg) (a : Nat) : Cal P w K mg base (L2.CX P w) 20 "add_rational_policy" (spAny K [a] (.addRationalPolicy a)) := (ok_add_rational_policy T).up (by decide) fun vs H Q E s => by
  obtain ⟨m, sa, pa, h, rfl, r, g, k⟩ := any_go (c := (.addRationalPolicy a)) rfl (fun z => by cases z) (fun n z => by cases z) s
  exact ⟨m, sa, pa, h, a, rfl, r, g, k⟩
theorem hd_3 (T : Tx K mg) (a : Nat) : Cal P w K mg base (L2.CX P w) 20 "remove_policy" (spAny K [a] (.removePolicy a)) := (ok_remove_policy T).up (by decide) fun vs H Q E s => by
  obtain ⟨m, sa, pa, h, rfl, r, g, k⟩ := any_go (c := (.removePolicy a)) rfl (fun z => by cases z) (fun n z => by cases z) s
  exact ⟨m, sa, pa, h, a, rfl, r, g, k⟩
theorem hd_4 (T : Tx K mg) (a : Nat) : Cal P w K mg base (L2.CX P w) 20 "get_policy" (spAny K [a] (.getPolicy a)) := (ok_get_policy T).up (by decide) fun vs H Q E s => by
  obtain ⟨m, sa, pa, h, rfl, r, g, k⟩ := any_go (c := (.getPolicy a)) rfl (fun z => by cases z) (fun n z => by cases z) s
  exact ⟨m, sa, pa, h, a, rfl, r, g, out_ans2 r rfl k⟩
theorem hd_5 (T : Tx K mg) (a b : Nat) : Cal P w K mg base (L2.CX P w) 20 "record_test" (spAny K [a, b] (.recordTest a b)) := (ok_record_test T).up (by decide) fun vs H Q E s => by
  obtain ⟨m, sa, pa, h, rfl, r, g, k⟩ := any_go (c := (.recordTest a b)) rfl (fun z => by cases z) (fun n z => by cases z) s
  exact ⟨m, sa, pa, h, a, b, rfl, r, g, k⟩
theorem hd_6 (T : Tx K mg) (a : Nat) : Cal P w K mg base (L2.CX P w) 20 "record_production" (spAny K [a] (.recordProduction a)) := (ok_record_production T).up (by decide) fun vs H Q E s => by
  obtain ⟨m, sa, pa, h, rfl, r, g, k⟩ := any_go (c := (.recordProduction a)) rfl (fun z => by cases z) (fun n z => by cases z) s
  exact ⟨m, sa, pa, h, a, rfl, r, g, k⟩
theorem hd_7 (T : Tx K mg) : Cal P w K mg base (L2.CX P w) 20 "undo_record" (spAny K [] (.undoRecord)) := (ok_undo_record T).up (by decide) fun vs H Q E s => by
  obtain ⟨m, sa, pa, h, rfl, r, g, k⟩ := any_go (c := (.undoRecord)) rfl (fun z => by cases z) (fun n z => by cases z) s
  exact ⟨m, sa, pa, h, rfl, r, g, k⟩
theorem hd_8 (T : Tx K mg) : Cal P w K mg base (L2.CX P w) 20 "get_log" (spAny K [] (.getLog)) := (ok_get_log T).lift (by decide) fun vs H Q E s => by
  obtain ⟨m, sa, pa, h, rfl, r, g, k⟩ := any_go (c := (.getLog)) rfl (fun z => by cases z) (fun n z => by cases z) s
  exact ⟨m, sa, pa, h, rfl, r, g, out_ans2 r rfl k⟩
theorem hd_9 (T : Tx K mg) : Cal P w K mg base (L2.CX P w) 20 "candidates" (spAny K [] (.candidates)) := (ok_candidates T).lift (by decide) fun vs H Q E s => by
  obtain ⟨m, sa, pa, h, rfl, r, g, k⟩ := any_go (c := (.candidates)) rfl (fun z => by cases z) (fun n z => by cases z) s
  exact ⟨m, sa, pa, h, rfl, r, g, out_ans2 r rfl k⟩
theorem hd_10 (T : Tx K mg) (a : Nat) : Cal P w K mg base (L2.CX P w) 20 "belief" (spAny K [a] (.belief a)) := (ok_belief T).up (by decide) fun vs H Q E s => by
  obtain ⟨m, sa, pa, h, rfl, r, g, k⟩ := any_go (c := (.belief a)) rfl (fun z => by cases z) (fun n z => by cases z) s
  exact ⟨m, sa, pa, h, a, rfl, r, g, out_ans2 r rfl k⟩
theorem hd_11 (T : Tx K mg) : Cal P w K mg base (L2.CX P w) 20 "honest_belief" (spAny K [] (.honestBelief)) := (ok_honest_belief T).up (by decide) fun vs H Q E s => by
  obtain ⟨m, sa, pa, h, rfl, r, g, k⟩ := any_go (c := (.honestBelief)) rfl (fun z => by cases z) (fun n z => by cases z) s
  exact ⟨m, sa, pa, h, rfl, r, g, g.uniq, out_ans2 r rfl k⟩
theorem hd_12 (T : Tx K mg) (a : Nat) : Cal P w K mg base (L2.CX P w) 20 "suspects" (spAny K [a] (.suspects a)) := (ok_suspects T).up (by decide) fun vs H Q E s => by
  obtain ⟨m, sa, pa, h, rfl, r, g, k⟩ := any_go (c := (.suspects a)) rfl (fun z => by cases z) (fun n z => by cases z) s
  exact ⟨m, sa, pa, h, a, rfl, r, g, out_ans2 r rfl k⟩
theorem hd_13 (T : Tx K mg) : Cal P w K mg base (L2.CX P w) 20 "next_harm_probability" (spAny K [] (.nextHarmProbability)) := (ok_next_harm_probability T).up (by decide) fun vs H Q E s => by
  obtain ⟨m, sa, pa, h, rfl, r, g, k⟩ := any_go (c := (.nextHarmProbability)) rfl (fun z => by cases z) (fun n z => by cases z) s
  exact ⟨m, sa, pa, h, rfl, r, g, out_ans2 r rfl k⟩
theorem hd_14 (T : Tx K mg) : Cal P w K mg base (L2.CX P w) 20 "worst_candidate" (spAny K [] (.worstCandidate)) := (ok_worst_candidate T).up (by decide) fun vs H Q E s => by
  obtain ⟨m, sa, pa, h, rfl, r, g, k⟩ := any_go (c := (.worstCandidate)) rfl (fun z => by cases z) (fun n z => by cases z) s
  exact ⟨m, sa, pa, h, rfl, r, g, out_ans2 r rfl k⟩
theorem hd_15 (T : Tx K mg) (a : Nat) : Cal P w K mg base (L2.CX P w) 20 "is_detectable" (spAny K [a] (.isDetectable a)) := (ok_is_detectable T).up (by decide) fun vs H Q E s => by
  obtain ⟨m, sa, pa, h, rfl, r, g, k⟩ := any_go (c := (.isDetectable a)) rfl (fun z => by cases z) (fun n z => by cases z) s
  exact ⟨m, sa, pa, h, a, rfl, r, g, out_ans2 r rfl k⟩
theorem hd_16 (T : Tx K mg) (a b : Nat) : Cal P w K mg base (L2.CX P w) 20 "policy_detection_probability" (spAny K [a, b] (.policyDetectionProbability a b)) := (ok_policy_detection_probability T).up (by decide) fun vs H Q E s => by
  obtain ⟨m, sa, pa, h, rfl, r, g, k⟩ := any_go (c := (.policyDetectionProbability a b)) rfl (fun z => by cases z) (fun n z => by cases z) s
  exact ⟨m, sa, pa, h, a, b, rfl, r, g, out_ans2 r rfl k⟩
theorem hd_17 (T : Tx K mg) (a b : Nat) : Cal P w K mg base (L2.CX P w) 20 "tests_needed" (spAny K [a, b] (.testsNeeded a b)) := (ok_tests_needed T).up (by decide) fun vs H Q E s => by
  obtain ⟨m, sa, pa, h, rfl, r, g, k⟩ := any_go (c := (.testsNeeded a b)) rfl (fun z => by cases z) (fun n z => by cases z) s
  exact ⟨m, sa, pa, h, a, b, rfl, r, g, out_ans2 r rfl k⟩
theorem hd_18 (T : Tx K mg) (a b : Nat) : Cal P w K mg base (L2.CX P w) 20 "are_distinguishable" (spAny K [a, b] (.areDistinguishable a b)) := (ok_are_distinguishable T).up (by decide) fun vs H Q E s => by
  obtain ⟨m, sa, pa, h, rfl, r, g, k⟩ := any_go (c := (.areDistinguishable a b)) rfl (fun z => by cases z) (fun n z => by cases z) s
  exact ⟨m, sa, pa, h, a, b, rfl, r, g, out_ans2 r rfl k⟩
theorem hd_19 (T : Tx K mg) (a b : Nat) : Cal P w K mg base (L2.CX P w) 20 "permit" (spAny K [a, b] (.permit a b)) := (ok_permit T).up (by decide) fun vs H Q E s => by
  obtain ⟨m, sa, pa, h, rfl, r, g, k⟩ := any_go (c := (.permit a b)) rfl (fun z => by cases z) (fun n z => by cases z) s
  exact ⟨m, sa, pa, h, a, b, rfl, r, g, k⟩
theorem hd_20 (T : Tx K mg) : Cal P w K mg base (L2.CX P w) 20 "revoke_permit" (spAny K [] (.revokePermit)) := (ok_revoke_permit T).up (by decide) fun vs H Q E s => by
  obtain ⟨m, sa, pa, h, rfl, r, g, k⟩ := any_go (c := (.revokePermit)) rfl (fun z => by cases z) (fun n z => by cases z) s
  exact ⟨m, sa, pa, h, rfl, r, g, k⟩
theorem hd_21 (T : Tx K mg) : Cal P w K mg base (L2.CX P w) 20 "permit_status" (spAny K [] (.permitStatus)) := (ok_permit_status T).lift (by decide) fun vs H Q E s => by
  obtain ⟨m, sa, pa, h, rfl, r, g, k⟩ := any_go (c := (.permitStatus)) rfl (fun z => by cases z) (fun n z => by cases z) s
  exact ⟨m, sa, pa, h, rfl, r, g, out_ans2 r rfl k⟩
theorem hd_22 (T : Tx K mg) (a b : Nat) : Cal P w K mg base (L2.CX P w) 20 "candidates_after_test" (spAny K [a, b] (.candidatesAfterTest a b)) := (ok_candidates_after_test T).up (by decide) fun vs H Q E s => by
  obtain ⟨m, sa, pa, h, rfl, r, g, k⟩ := any_go (c := (.candidatesAfterTest a b)) rfl (fun z => by cases z) (fun n z => by cases z) s
  exact ⟨m, sa, pa, h, a, b, rfl, r, g, out_ans2 r rfl k⟩
theorem hd_23 (T : Tx K mg) : Cal P w K mg base (L2.CX P w) 20 "counts" (spAny K [] (.counts)) := (ok_counts T).lift (by decide) fun vs H Q E s => by
  obtain ⟨m, sa, pa, h, rfl, r, g, k⟩ := any_go (c := (.counts)) rfl (fun z => by cases z) (fun n z => by cases z) s
  exact ⟨m, sa, pa, h, rfl, r, g, out_ans2 r rfl k⟩
theorem hd_27 (T : Tx K mg) (a b : Nat) : Cal P w K mg base (L2.CX P w) 20 "set_prior" (spAny K [a, b] (.setPrior a b)) := (ok_set_prior T).up (by decide) fun vs H Q E s => by
  obtain ⟨m, sa, pa, h, rfl, r, g, k⟩ := any_go (c := (.setPrior a b)) rfl (fun z => by cases z) (fun n z => by cases z) s
  exact ⟨m, sa, pa, h, a, b, rfl, r, g, k⟩
theorem hd_28 (T : Tx K mg) (a b : Nat) : Cal P w K mg base (L2.CX P w) 20 "set_stakes" (spAny K [a, b] (.setStakes a b)) := (ok_set_stakes T).up (by decide) fun vs H Q E s => by
  obtain ⟨m, sa, pa, h, rfl, r, g, k⟩ := any_go (c := (.setStakes a b)) rfl (fun z => by cases z) (fun n z => by cases z) s
  exact ⟨m, sa, pa, h, a, b, rfl, r, g, k⟩
theorem hd_29 (T : Tx K mg) (a b : Nat) : Cal P w K mg base (L2.CX P w) 20 "set_prices" (spAny K [a, b] (.setPrices a b)) := (ok_set_prices T).up (by decide) fun vs H Q E s => by
  obtain ⟨m, sa, pa, h, rfl, r, g, k⟩ := any_go (c := (.setPrices a b)) rfl (fun z => by cases z) (fun n z => by cases z) s
  exact ⟨m, sa, pa, h, a, b, rfl, r, g, k⟩
theorem hd_30 (T : Tx K mg) (a : Nat) : Cal P w K mg base (L2.CX P w) 20 "cheating_value" (spAny K [a] (.cheatingValue a)) := (ok_cheating_value T).up (by decide) fun vs H Q E s => by
  obtain ⟨m, sa, pa, h, rfl, r, g, k⟩ := any_go (c := (.cheatingValue a)) rfl (fun z => by cases z) (fun n z => by cases z) s
  exact ⟨m, sa, pa, h, a, rfl, r, g, out_ans2 r (run_set h _ rfl) k⟩
theorem hd_31 (T : Tx K mg) : Cal P w K mg base (L2.CX P w) 20 "cheating_signals" (spAny K [] (.cheatingSignals)) := (ok_cheating_signals T).lift (by decide) fun vs H Q E s => by
  obtain ⟨m, sa, pa, h, rfl, r, g, k⟩ := any_go (c := (.cheatingSignals)) rfl (fun z => by cases z) (fun n z => by cases z) s
  exact ⟨m, sa, pa, h, rfl, r, g, out_ans2 r (run_set h _ rfl) k⟩
theorem hd_32 (T : Tx K mg) : Cal P w K mg base (L2.CX P w) 20 "expected_profit" (spAny K [] (.expectedProfit)) := (ok_expected_profit T).lift (by decide) fun vs H Q E s => by
  obtain ⟨m, sa, pa, h, rfl, r, g, k⟩ := any_go (c := (.expectedProfit)) rfl (fun z => by cases z) (fun n z => by cases z) s
  exact ⟨m, sa, pa, h, rfl, r, g, out_ans2 r (run_set h _ rfl) k⟩
theorem hd_33 (T : Tx K mg) : Cal P w K mg base (L2.CX P w) 20 "detection_probability" (spAny K [] (.detectionProbability)) := (ok_detection_probability T).lift (by decide) fun vs H Q E s => by
  obtain ⟨m, sa, pa, h, rfl, r, g, k⟩ := any_go (c := (.detectionProbability)) rfl (fun z => by cases z) (fun n z => by cases z) s
  exact ⟨m, sa, pa, h, rfl, r, g, out_ans2 r (run_set h _ rfl) k⟩
theorem hd_34 (T : Tx K mg) : Cal P w K mg base (L2.CX P w) 20 "harm_probability" (spAny K [] (.harmProbability)) := (ok_harm_probability T).lift (by decide) fun vs H Q E s => by
  obtain ⟨m, sa, pa, h, rfl, r, g, k⟩ := any_go (c := (.harmProbability)) rfl (fun z => by cases z) (fun n z => by cases z) s
  exact ⟨m, sa, pa, h, rfl, r, g, out_ans2 r (run_set h _ rfl) k⟩
theorem hd_35 (T : Tx K mg) : Cal P w K mg base (L2.CX P w) 20 "total_cost" (spAny K [] (.totalCost)) := (ok_total_cost T).lift (by decide) fun vs H Q E s => by
  obtain ⟨m, sa, pa, h, rfl, r, g, k⟩ := any_go (c := (.totalCost)) rfl (fun z => by cases z) (fun n z => by cases z) s
  exact ⟨m, sa, pa, h, rfl, r, g, out_ans2 r (run_set h _ rfl) k⟩
theorem hd_36 (T : Tx K mg) (a : Nat) : Cal P w K mg base (L2.CX P w) 20 "deterrent_prior_at" (spAny K [a] (.deterrentPriorAt a)) := (ok_deterrent_prior_at T).up (by decide) fun vs H Q E s => by
  obtain ⟨m, sa, pa, h, rfl, r, g, k⟩ := any_go (c := (.deterrentPriorAt a)) rfl (fun z => by cases z) (fun n z => by cases z) s
  exact ⟨m, sa, pa, h, a, rfl, r, g, out_ans2 r (run_set h _ rfl) k⟩
theorem hd_37 (T : Tx K mg) : Cal P w K mg base (L2.CX P w) 20 "deterrent_prior" (spAny K [] (.deterrentPrior)) := (ok_deterrent_prior T).up (by decide) fun vs H Q E s => by
  obtain ⟨m, sa, pa, h, rfl, r, g, k⟩ := any_go (c := (.deterrentPrior)) rfl (fun z => by cases z) (fun n z => by cases z) s
  exact ⟨m, sa, pa, h, rfl, r, g, out_ans2 r (run_set h _ rfl) k⟩
theorem hd_40 (T : Tx K mg) : Cal P w K mg base (L2.CX P w) 20 "cheapest_prior" (spAny K [] (.cheapestPrior)) := (ok_cheapest_prior T).lift (by decide) fun vs H Q E s => by
  obtain ⟨m, sa, pa, h, rfl, r, g, k⟩ := any_go (c := (.cheapestPrior)) rfl (fun z => by cases z) (fun n z => by cases z) s
  exact ⟨m, sa, pa, h, rfl, r, g, out_ans2 r (run_set h _ rfl) k⟩
theorem hd_41 (T : Tx K mg) (a b : Nat) : Cal P w K mg base (L2.CX P w) 20 "cheating_signals_for_prior" (spAny K [a, b] (.cheatingSignalsForPrior a b)) := (ok_cheating_signals_for_prior T).up (by decide) fun vs H Q E s => by
  obtain ⟨m, sa, pa, h, rfl, r, g, k⟩ := any_go (c := (.cheatingSignalsForPrior a b)) rfl (fun z => by cases z) (fun n z => by cases z) s
  exact ⟨m, sa, pa, h, a, b, rfl, r, g, out_ans2 r (run_set h _ rfl) k⟩
theorem hd_42 (T : Tx K mg) (a b : Nat) : Cal P w K mg base (L2.CX P w) 20 "cheating_signals_for_stakes" (spAny K [a, b] (.cheatingSignalsForStakes a b)) := (ok_cheating_signals_for_stakes T).up (by decide) fun vs H Q E s => by
  obtain ⟨m, sa, pa, h, rfl, r, g, k⟩ := any_go (c := (.cheatingSignalsForStakes a b)) rfl (fun z => by cases z) (fun n z => by cases z) s
  exact ⟨m, sa, pa, h, a, b, rfl, r, g, out_ans2 r (run_set h _ rfl) k⟩
theorem hd_43 (T : Tx K mg) : Cal P w K mg base (L2.CX P w) 20 "get_settings" (spAny K [] (.getSettings)) := (ok_get_settings T).lift (by decide) fun vs H Q E s => by
  obtain ⟨m, sa, pa, h, rfl, r, g, k⟩ := any_go (c := (.getSettings)) rfl (fun z => by cases z) (fun n z => by cases z) s
  exact ⟨m, sa, pa, h, rfl, r, g, out_ans2 r (run_set h _ rfl) k⟩
theorem cre_none (n : Nat) : Kp417.step (some none) (.createSetting n) = if n < 1 ∨ 5 < n then (some none, single (-22)) else (some (some ⟨newS n, [], [], none⟩), single 0) := by
  unfold Kp417.step Kp416.step
  dsimp only
  by_cases c : n < 1 ∨ 5 < n
  · rw [if_pos c, if_pos (show n < 1 ∨ Kp415.maxSignals < n from c)]
  · rw [if_neg c, if_neg (show ¬ (n < 1 ∨ Kp415.maxSignals < n) from c)]
    rfl
theorem sum_ones : ∀ n : Nat, (List.replicate n 1).sum = n
  | 0 => rfl
  | n + 1 => by rw [List.replicate_succ, List.sum_cons, sum_ones n]; omega
theorem sok_new {n : Nat} (h1 : 1 ≤ n) (h5 : n ≤ 5) : SOk (newS n) := by
  have en := newS_n n
  have wk : WOk n (List.replicate n 1) := ⟨List.length_replicate, by rw [sum_ones]; omega, by rw [sum_ones]; omega⟩
  exact { n1 := by rw [en]; exact h1, n5 := by rw [en]; exact h5, tw := by rw [en]; exact wk, pw := by rw [en]; exact wk, pd := (by decide : (2 : Nat) ≠ 0), pl := (by decide : (1 : Nat) < 2 ^ 80), pb := (by decide : (2 : Nat) < 2 ^ 80),
          g := (by decide : (1 : Nat) ≤ 999), l := (by decide : (1 : Nat) ≤ 999), hp := (by decide : (1 : Nat) ≤ 999), tp := (by decide : (1 : Nat) ≤ 999) }
theorem good_new {n : Nat} (h1 : 1 ≤ n) (h5 : n ≤ 5) : Good ⟨newS n, [], [], none⟩ :=
  { s := sok_new h1 h5, p6 := Nat.zero_le _, pw := fun q hq => absurd hq (by simp), l16 := Nat.zero_le _, pm := (fun p hp => by cases hp), p99 := (by decide : (2 : Nat) ≤ 99), uq := List.nodup_nil }
theorem hd_24 (T : Tx K mg) (a : Nat) : Cal P w K mg base (L2.CX P w) 20 "create_setting" (spAny K [a] (.createSetting a)) := (ok_create_setting T).up (by decide) fun vs H Q E s => by
  obtain ⟨m, st, fp, ev, rs, rd, k⟩ := s
  subst ev
  rcases rd with ⟨h, e⟩ | ⟨e, _⟩
  · subst e
    obtain ⟨m', sa, pa, e1, r, g, rfl⟩ := rs
    cases e1
    have k2 : OutM K H m h sa pa Q E (query (single (-13))) := post_out (c := .createSetting a) g rfl (fun z => by cases z) k
    exact ⟨m, pa, a, rfl, .inl ⟨sa, h, r, out_no (n := 13) k2⟩⟩
  · subst e
    obtain ⟨m', pa, e1, r, rfl⟩ := rs
    cases e1
    unfold PostS at k
    rw [cre_none] at k
    refine ⟨m, pa, a, rfl, .inr ⟨r, fun c => ?_, fun c1 c2 p H' sa f fs r' n e => ?_⟩⟩
    · rw [if_pos c, if_pos (show ((some none : Kp417.State), single (-22)).2.num < 0 from by show (-22 : Int) < 0; decide)] at k
      exact k
    · have c : ¬ (a < 1 ∨ 5 < a) := by omega
      rw [if_neg c, if_neg (show ¬ ((some (some ⟨newS a, [], [], none⟩) : Kp417.State), single 0).2.num < 0 from by show ¬ (0 : Int) < 0; decide)] at k
      refine k p H' [m, sa, pa] ⟨fun b o hb hn => ?_, fun b hb => ?_⟩ ⟨m, sa, pa, rfl, r', good_new c1 c2, rfl⟩ n e
      · simp only [List.mem_cons, List.not_mem_nil, or_false, not_or] at hn
        exact f b o hb hn.1
      · simp only [List.mem_cons, List.not_mem_nil, or_false] at hb
        rcases hb with hb | hb | hb
        · exact .inl (by rw [hb]; exact List.mem_cons_self ..)
        · exact .inr (by rw [hb]; exact fs)
        · exact .inl (by rw [hb]; exact List.mem_cons_of_mem _ (List.mem_cons_self ..))
def TWO : List Nat := [1, 5, 16, 17, 18, 19, 22, 27, 28, 29, 41, 42]
def ONE : List Nat := [2, 3, 4, 6, 10, 12, 15, 24, 30, 36]
def LST : List Nat := [25, 26, 38, 39]
def takes (n : Nat) : Nat := if TWO.contains n then 2 else if ONE.contains n then 1 else 0
def hLook (n : Nat) : Option Str := match tb_POLICY_CALLS.lookup n with | some x => some x | none => match tb_LOG_CALLS.lookup n with | some x => some x | none => match tb_BELIEF_CALLS.lookup n with | some x => some x | none => match tb_DETECTION_CALLS.lookup n with | some x => some x | none => match tb_PERMIT_CALLS.lookup n with | some x => some x | none => match tb_RATIONAL_CALLS.lookup n with | some x => some x | none => match tb_DETERRENCE_CALLS.lookup n with | some x => some x | none => tb_SETTING_CALLS.lookup n
/-- all that is known of a call without a list -/
structure Lk (P : Program) (w : World) (K : PySem.W.Frag) (mg : Str → Option Value) (base : Heap) (n : Nat) (args : List Nat) : Prop where
  ex : ∃ (c : Kp417.Call) (x : Str), Kp417Neutral.callOf [(n : Int) :: args.map fun (a : Nat) => (a : Int)] = some c ∧ hLook n = some x ∧ Cal P w K mg base (L2.CX P w) 20 x (spAny K args c) ∧ plainC c = true ∧ c ≠ .reset ∧ ∀ a, c = .createSetting a → n = 24
  nl : LST.contains n = false
  tk : takes n = args.length
  nz : n ≠ 0
  cr : (n = 24 ↔ ∃ a c, args = [a] ∧ Kp417Neutral.callOf [(n : Int) :: args.map fun (a : Nat) => (a : Int)] = some c ∧ c = .createSetting a)
theorem lk_1 (T : Tx K mg) (a b : Nat) : Lk P w K mg base 1 [a, b] := ⟨⟨(.addPolicy a b), _, rfl, rfl, hd_1 T a b, rfl, (fun z => by cases z), fun a z => by first | rfl | cases z⟩, rfl, rfl, by decide, ⟨fun z => absurd z (by decide), fun ⟨a, c, e, f, g⟩ => by subst g; cases f⟩⟩
theorem lk_2 (T : Tx K mg) (a : Nat) : Lk P w K mg base 2 [a] := ⟨⟨(.addRationalPolicy a), _, rfl, rfl, hd_2 T a, rfl, (fun z => by cases z), fun a z => by first | rfl | cases z⟩, rfl, rfl, by decide, ⟨fun z => absurd z (by decide), fun ⟨a, c, e, f, g⟩ => by subst g; cases f⟩⟩
theorem lk_3 (T : Tx K mg) (a : Nat) : Lk P w K mg base 3 [a] := ⟨⟨(.removePolicy a), _, rfl, rfl, hd_3 T a, rfl, (fun z => by cases z), fun a z => by first | rfl | cases z⟩, rfl, rfl, by decide, ⟨fun z => absurd z (by decide), fun ⟨a, c, e, f, g⟩ => by subst g; cases f⟩⟩
theorem lk_4 (T : Tx K mg) (a : Nat) : Lk P w K mg base 4 [a] := ⟨⟨(.getPolicy a), _, rfl, rfl, hd_4 T a, rfl, (fun z => by cases z), fun a z => by first | rfl | cases z⟩, rfl, rfl, by decide, ⟨fun z => absurd z (by decide), fun ⟨a, c, e, f, g⟩ => by subst g; cases f⟩⟩
theorem lk_5 (T : Tx K mg) (a b : Nat) : Lk P w K mg base 5 [a, b] := ⟨⟨(.recordTest a b), _, rfl, rfl, hd_5 T a b, rfl, (fun z => by cases z), fun a z => by first | rfl | cases z⟩, rfl, rfl, by decide, ⟨fun z => absurd z (by decide), fun ⟨a, c, e, f, g⟩ => by subst g; cases f⟩⟩
theorem lk_6 (T : Tx K mg) (a : Nat) : Lk P w K mg base 6 [a] := ⟨⟨(.recordProduction a), _, rfl, rfl, hd_6 T a, rfl, (fun z => by cases z), fun a z => by first | rfl | cases z⟩, rfl, rfl, by decide, ⟨fun z => absurd z (by decide), fun ⟨a, c, e, f, g⟩ => by subst g; cases f⟩⟩
theorem lk_7 (T : Tx K mg) : Lk P w K mg base 7 [] := ⟨⟨(.undoRecord), _, rfl, rfl, hd_7 T, rfl, (fun z => by cases z), fun a z => by first | rfl | cases z⟩, rfl, rfl, by decide, ⟨fun z => absurd z (by decide), fun ⟨a, c, e, f, g⟩ => by subst g; cases f⟩⟩
theorem lk_8 (T : Tx K mg) : Lk P w K mg base 8 [] := ⟨⟨(.getLog), _, rfl, rfl, hd_8 T, rfl, (fun z => by cases z), fun a z => by first | rfl | cases z⟩, rfl, rfl, by decide, ⟨fun z => absurd z (by decide), fun ⟨a, c, e, f, g⟩ => by subst g; cases f⟩⟩
theorem lk_9 (T : Tx K mg) : Lk P w K mg base 9 [] := ⟨⟨(.candidates), _, rfl, rfl, hd_9 T, rfl, (fun z => by cases z), fun a z => by first | rfl | cases z⟩, rfl, rfl, by decide, ⟨fun z => absurd z (by decide), fun ⟨a, c, e, f, g⟩ => by subst g; cases f⟩⟩
theorem lk_10 (T : Tx K mg) (a : Nat) : Lk P w K mg base 10 [a] := ⟨⟨(.belief a), _, rfl, rfl, hd_10 T a, rfl, (fun z => by cases z), fun a z => by first | rfl | cases z⟩, rfl, rfl, by decide, ⟨fun z => absurd z (by decide), fun ⟨a, c, e, f, g⟩ => by subst g; cases f⟩⟩
theorem lk_11 (T : Tx K mg) : Lk P w K mg base 11 [] := ⟨⟨(.honestBelief), _, rfl, rfl, hd_11 T, rfl, (fun z => by cases z), fun a z => by first | rfl | cases z⟩, rfl, rfl, by decide, ⟨fun z => absurd z (by decide), fun ⟨a, c, e, f, g⟩ => by subst g; cases f⟩⟩
theorem lk_12 (T : Tx K mg) (a : Nat) : Lk P w K mg base 12 [a] := ⟨⟨(.suspects a), _, rfl, rfl, hd_12 T a, rfl, (fun z => by cases z), fun a z => by first | rfl | cases z⟩, rfl, rfl, by decide, ⟨fun z => absurd z (by decide), fun ⟨a, c, e, f, g⟩ => by subst g; cases f⟩⟩
theorem lk_13 (T : Tx K mg) : Lk P w K mg base 13 [] := ⟨⟨(.nextHarmProbability), _, rfl, rfl, hd_13 T, rfl, (fun z => by cases z), fun a z => by first | rfl | cases z⟩, rfl, rfl, by decide, ⟨fun z => absurd z (by decide), fun ⟨a, c, e, f, g⟩ => by subst g; cases f⟩⟩
theorem lk_14 (T : Tx K mg) : Lk P w K mg base 14 [] := ⟨⟨(.worstCandidate), _, rfl, rfl, hd_14 T, rfl, (fun z => by cases z), fun a z => by first | rfl | cases z⟩, rfl, rfl, by decide, ⟨fun z => absurd z (by decide), fun ⟨a, c, e, f, g⟩ => by subst g; cases f⟩⟩
theorem lk_15 (T : Tx K mg) (a : Nat) : Lk P w K mg base 15 [a] := ⟨⟨(.isDetectable a), _, rfl, rfl, hd_15 T a, rfl, (fun z => by cases z), fun a z => by first | rfl | cases z⟩, rfl, rfl, by decide, ⟨fun z => absurd z (by decide), fun ⟨a, c, e, f, g⟩ => by subst g; cases f⟩⟩
theorem lk_16 (T : Tx K mg) (a b : Nat) : Lk P w K mg base 16 [a, b] := ⟨⟨(.policyDetectionProbability a b), _, rfl, rfl, hd_16 T a b, rfl, (fun z => by cases z), fun a z => by first | rfl | cases z⟩, rfl, rfl, by decide, ⟨fun z => absurd z (by decide), fun ⟨a, c, e, f, g⟩ => by subst g; cases f⟩⟩
theorem lk_17 (T : Tx K mg) (a b : Nat) : Lk P w K mg base 17 [a, b] := ⟨⟨(.testsNeeded a b), _, rfl, rfl, hd_17 T a b, rfl, (fun z => by cases z), fun a z => by first | rfl | cases z⟩, rfl, rfl, by decide, ⟨fun z => absurd z (by decide), fun ⟨a, c, e, f, g⟩ => by subst g; cases f⟩⟩
theorem lk_18 (T : Tx K mg) (a b : Nat) : Lk P w K mg base 18 [a, b] := ⟨⟨(.areDistinguishable a b), _, rfl, rfl, hd_18 T a b, rfl, (fun z => by cases z), fun a z => by first | rfl | cases z⟩, rfl, rfl, by decide, ⟨fun z => absurd z (by decide), fun ⟨a, c, e, f, g⟩ => by subst g; cases f⟩⟩
theorem lk_19 (T : Tx K mg) (a b : Nat) : Lk P w K mg base 19 [a, b] := ⟨⟨(.permit a b), _, rfl, rfl, hd_19 T a b, rfl, (fun z => by cases z), fun a z => by first | rfl | cases z⟩, rfl, rfl, by decide, ⟨fun z => absurd z (by decide), fun ⟨a, c, e, f, g⟩ => by subst g; cases f⟩⟩
theorem lk_20 (T : Tx K mg) : Lk P w K mg base 20 [] := ⟨⟨(.revokePermit), _, rfl, rfl, hd_20 T, rfl, (fun z => by cases z), fun a z => by first | rfl | cases z⟩, rfl, rfl, by decide, ⟨fun z => absurd z (by decide), fun ⟨a, c, e, f, g⟩ => by subst g; cases f⟩⟩
theorem lk_21 (T : Tx K mg) : Lk P w K mg base 21 [] := ⟨⟨(.permitStatus), _, rfl, rfl, hd_21 T, rfl, (fun z => by cases z), fun a z => by first | rfl | cases z⟩, rfl, rfl, by decide, ⟨fun z => absurd z (by decide), fun ⟨a, c, e, f, g⟩ => by subst g; cases f⟩⟩
theorem lk_22 (T : Tx K mg) (a b : Nat) : Lk P w K mg base 22 [a, b] := ⟨⟨(.candidatesAfterTest a b), _, rfl, rfl, hd_22 T a b, rfl, (fun z => by cases z), fun a z => by first | rfl | cases z⟩, rfl, rfl, by decide, ⟨fun z => absurd z (by decide), fun ⟨a, c, e, f, g⟩ => by subst g; cases f⟩⟩
theorem lk_23 (T : Tx K mg) : Lk P w K mg base 23 [] := ⟨⟨(.counts), _, rfl, rfl, hd_23 T, rfl, (fun z => by cases z), fun a z => by first | rfl | cases z⟩, rfl, rfl, by decide, ⟨fun z => absurd z (by decide), fun ⟨a, c, e, f, g⟩ => by subst g; cases f⟩⟩
theorem lk_24 (T : Tx K mg) (a : Nat) : Lk P w K mg base 24 [a] := ⟨⟨(.createSetting a), _, rfl, rfl, hd_24 T a, rfl, (fun z => by cases z), fun a z => by first | rfl | cases z⟩, rfl, rfl, by decide, ⟨fun _ => ⟨a, _, rfl, rfl, rfl⟩, fun _ => rfl⟩⟩
theorem lk_27 (T : Tx K mg) (a b : Nat) : Lk P w K mg base 27 [a, b] := ⟨⟨(.setPrior a b), _, rfl, rfl, hd_27 T a b, rfl, (fun z => by cases z), fun a z => by first | rfl | cases z⟩, rfl, rfl, by decide, ⟨fun z => absurd z (by decide), fun ⟨a, c, e, f, g⟩ => by subst g; cases f⟩⟩
theorem lk_28 (T : Tx K mg) (a b : Nat) : Lk P w K mg base 28 [a, b] := ⟨⟨(.setStakes a b), _, rfl, rfl, hd_28 T a b, rfl, (fun z => by cases z), fun a z => by first | rfl | cases z⟩, rfl, rfl, by decide, ⟨fun z => absurd z (by decide), fun ⟨a, c, e, f, g⟩ => by subst g; cases f⟩⟩
theorem lk_29 (T : Tx K mg) (a b : Nat) : Lk P w K mg base 29 [a, b] := ⟨⟨(.setPrices a b), _, rfl, rfl, hd_29 T a b, rfl, (fun z => by cases z), fun a z => by first | rfl | cases z⟩, rfl, rfl, by decide, ⟨fun z => absurd z (by decide), fun ⟨a, c, e, f, g⟩ => by subst g; cases f⟩⟩
theorem lk_30 (T : Tx K mg) (a : Nat) : Lk P w K mg base 30 [a] := ⟨⟨(.cheatingValue a), _, rfl, rfl, hd_30 T a, rfl, (fun z => by cases z), fun a z => by first | rfl | cases z⟩, rfl, rfl, by decide, ⟨fun z => absurd z (by decide), fun ⟨a, c, e, f, g⟩ => by subst g; cases f⟩⟩
theorem lk_31 (T : Tx K mg) : Lk P w K mg base 31 [] := ⟨⟨(.cheatingSignals), _, rfl, rfl, hd_31 T, rfl, (fun z => by cases z), fun a z => by first | rfl | cases z⟩, rfl, rfl, by decide, ⟨fun z => absurd z (by decide), fun ⟨a, c, e, f, g⟩ => by subst g; cases f⟩⟩
theorem lk_32 (T : Tx K mg) : Lk P w K mg base 32 [] := ⟨⟨(.expectedProfit), _, rfl, rfl, hd_32 T, rfl, (fun z => by cases z), fun a z => by first | rfl | cases z⟩, rfl, rfl, by decide, ⟨fun z => absurd z (by decide), fun ⟨a, c, e, f, g⟩ => by subst g; cases f⟩⟩
theorem lk_33 (T : Tx K mg) : Lk P w K mg base 33 [] := ⟨⟨(.detectionProbability), _, rfl, rfl, hd_33 T, rfl, (fun z => by cases z), fun a z => by first | rfl | cases z⟩, rfl, rfl, by decide, ⟨fun z => absurd z (by decide), fun ⟨a, c, e, f, g⟩ => by subst g; cases f⟩⟩
theorem lk_34 (T : Tx K mg) : Lk P w K mg base 34 [] := ⟨⟨(.harmProbability), _, rfl, rfl, hd_34 T, rfl, (fun z => by cases z), fun a z => by first | rfl | cases z⟩, rfl, rfl, by decide, ⟨fun z => absurd z (by decide), fun ⟨a, c, e, f, g⟩ => by subst g; cases f⟩⟩
theorem lk_35 (T : Tx K mg) : Lk P w K mg base 35 [] := ⟨⟨(.totalCost), _, rfl, rfl, hd_35 T, rfl, (fun z => by cases z), fun a z => by first | rfl | cases z⟩, rfl, rfl, by decide, ⟨fun z => absurd z (by decide), fun ⟨a, c, e, f, g⟩ => by subst g; cases f⟩⟩
theorem lk_36 (T : Tx K mg) (a : Nat) : Lk P w K mg base 36 [a] := ⟨⟨(.deterrentPriorAt a), _, rfl, rfl, hd_36 T a, rfl, (fun z => by cases z), fun a z => by first | rfl | cases z⟩, rfl, rfl, by decide, ⟨fun z => absurd z (by decide), fun ⟨a, c, e, f, g⟩ => by subst g; cases f⟩⟩
theorem lk_37 (T : Tx K mg) : Lk P w K mg base 37 [] := ⟨⟨(.deterrentPrior), _, rfl, rfl, hd_37 T, rfl, (fun z => by cases z), fun a z => by first | rfl | cases z⟩, rfl, rfl, by decide, ⟨fun z => absurd z (by decide), fun ⟨a, c, e, f, g⟩ => by subst g; cases f⟩⟩
theorem lk_40 (T : Tx K mg) : Lk P w K mg base 40 [] := ⟨⟨(.cheapestPrior), _, rfl, rfl, hd_40 T, rfl, (fun z => by cases z), fun a z => by first | rfl | cases z⟩, rfl, rfl, by decide, ⟨fun z => absurd z (by decide), fun ⟨a, c, e, f, g⟩ => by subst g; cases f⟩⟩
theorem lk_41 (T : Tx K mg) (a b : Nat) : Lk P w K mg base 41 [a, b] := ⟨⟨(.cheatingSignalsForPrior a b), _, rfl, rfl, hd_41 T a b, rfl, (fun z => by cases z), fun a z => by first | rfl | cases z⟩, rfl, rfl, by decide, ⟨fun z => absurd z (by decide), fun ⟨a, c, e, f, g⟩ => by subst g; cases f⟩⟩
theorem lk_42 (T : Tx K mg) (a b : Nat) : Lk P w K mg base 42 [a, b] := ⟨⟨(.cheatingSignalsForStakes a b), _, rfl, rfl, hd_42 T a b, rfl, (fun z => by cases z), fun a z => by first | rfl | cases z⟩, rfl, rfl, by decide, ⟨fun z => absurd z (by decide), fun ⟨a, c, e, f, g⟩ => by subst g; cases f⟩⟩
theorem lk_43 (T : Tx K mg) : Lk P w K mg base 43 [] := ⟨⟨(.getSettings), _, rfl, rfl, hd_43 T, rfl, (fun z => by cases z), fun a z => by first | rfl | cases z⟩, rfl, rfl, by decide, ⟨fun z => absurd z (by decide), fun ⟨a, c, e, f, g⟩ => by subst g; cases f⟩⟩
end
end PW
set_option Elab.async false
set_option linter.all false
set_option maxRecDepth 100000
set_option maxHeartbeats 4000000
/-! The tables of the calls; the function of a call. -/
namespace PW
open PySem PySem.Spec PyProof.Rows L2
open Kp417 (Monitor Policy Permit run query single policyAt)
/-! ### a table of the module: numbers to defs -/
def EntsI (K : PySem.W.Frag) (mg : Str → Option Value) : List DictEntry → List (Nat × Str) → Prop
  | [], [] => True
  | e :: es, p :: l => ((∃ t, e.key = .int (p.1 : Int) t) ∧ e.hash = hashInt (p.1 : Int) ∧ e.val = .ref (gad K p.2) ∧ mg p.2 = some (.ref (gad K p.2))) ∧ EntsI K mg es l
  | _, _ => False
structure KDI (K : PySem.W.Frag) (mg : Str → Option Value) (d : Addr) (l : List (Nat × Str)) : Prop where
  low : (d == sysModules) = false
  ex : ∃ es n, K.lookup d = some ⟨.type "dict", none, .dict es n, #[]⟩ ∧ EntsI K mg es.toList l
theorem EntsI.find {K : PySem.W.Frag} {mg : Str → Option Value} (n : Nat) : ∀ {es : List DictEntry} {l : List (Nat × Str)}, EntsI K mg es l → (es.find? fun e => Value.isInt (n : Int) e.key).map (fun e => e.val) = (l.lookup n).map fun x => Value.ref (gad K x)
  | [], [], _ => rfl
  | e :: es, (k, x) :: l, h => by
    obtain ⟨⟨⟨t, hk⟩, _, hv, _⟩, hr⟩ := h
    have q : Value.isInt (n : Int) e.key = (k == n) := by
      rw [hk]
      show ((k : Int) == (n : Int)) = (k == n)
      by_cases z : k = n
      · subst z; simp
      · rw [beq_eq_false_iff_ne.mpr z]
        exact beq_eq_false_iff_ne.mpr (by omega)
    have q2 : (n == k) = (k == n) := by
      by_cases z : k = n
      · subst z; rfl
      · rw [beq_eq_false_iff_ne.mpr z, beq_eq_false_iff_ne.mpr (Ne.symm z)]
    rw [List.find?_cons, List.lookup_cons, q, q2]
    cases k == n with
    | true => show some e.val = some _; rw [hv]
    | false => exact EntsI.find n hr
  | [], _ :: _, h => h.elim
  | _ :: _, [], h => h.elim
theorem EntsI.keys {K : PySem.W.Frag} {mg : Str → Option Value} {P : Program} {w : World} : ∀ {es : List DictEntry} {l : List (Nat × Str)}, EntsI K mg es l → ∀ e ∈ es, ∃ k, (intKind P w).is k e.key = true ∧ e.hash = (intKind P w).hash k
  | [], _, _, e, he => by cases he
  | e0 :: es, (k, x) :: l, h, e, he => by
    obtain ⟨⟨⟨t, hk⟩, hh, _⟩, hr⟩ := h
    rcases List.mem_cons.mp he with z | z
    · subst z
      exact ⟨(k : Int), by rw [hk]; show ((k : Int) == (k : Int)) = true; simp, hh⟩
    · exact EntsI.keys hr e z
  | _ :: _, [], h, _, _ => h.elim
theorem EntsI.name {K : PySem.W.Frag} {mg : Str → Option Value} (n : Nat) {x : Str} : ∀ {es : List DictEntry} {l : List (Nat × Str)}, EntsI K mg es l → l.lookup n = some x → mg x = some (.ref (gad K x))
  | [], [], _, h => by cases h
  | e :: es, (k, y) :: l, h, hl => by
    rw [List.lookup_cons] at hl
    cases z : n == k with
    | true =>
      rw [z] at hl
      obtain rfl : y = x := Option.some.inj hl
      exact h.1.2.2.2
    | false =>
      rw [z] at hl
      exact EntsI.name n h.2 hl
  | [], _ :: _, h, _ => h.elim
  | _ :: _, [], h, _ => h.elim
section
variable {X : Cx} {d : Addr} {l : List (Nat × Str)}
theorem KDI.map {h : Heap} {prog : Program} {w : World} {K : PySem.W.Frag} {mg : Str → Option Value} (D : KDI K mg d l) (hk : K.In h) : h.MapOf (intKind prog w) d (fun z => match z with | .ofNat n => (l.lookup n).map fun x => Value.ref (gad K x) | .negSucc m => findBy Value.isInt (D.ex.choose) (.negSucc m)) := by
  have e1 := D.ex.choose_spec
  generalize D.ex.choose = es at e1 ⊢
  obtain ⟨n, hl, hE⟩ := e1
  refine ⟨_, es, n, hk _ _ hl, ⟨rfl, rfl, rfl⟩, rfl, fun e he => EntsI.keys hE e (Array.mem_toList_iff.mpr he), fun z => ?_⟩
  cases z with
  | ofNat k =>
    show findBy Value.isInt es (k : Int) = _
    unfold findBy
    have := EntsI.find k hE
    obtain ⟨es⟩ := es
    rw [List.find?_toArray]
    exact this
  | negSucc m => rfl
/-- n in TABLE -/
theorem op_in_kdi (D : KDI X.K X.mg d l) : OpR X (compareOp .In) (fun x y H Q => ∃ n : Nat, x = .int (n : Int) ∧ y = .ref d ∧ Q (.bl (l.lookup n).isSome) H) := by
  intro pins s σ H x y v u Q I rx ry h
  obtain ⟨n, rfl, rfl, q⟩ := h
  obtain ⟨t, rfl⟩ := rx
  cases ry
  refine wpAny_in_of (knd := intKind X.prog X.w) (k := (n : Int)) (intKind_is X.prog X.w _ t) D.low (D.map I.kIn) ⟨.bl (l.lookup n).isSome, H, I.tok _, ?_, q⟩
  show Value.bool ((l.lookup n).map fun x => Value.ref (gad X.K x)).isSome = Value.bool (l.lookup n).isSome
  rw [Option.isSome_map]
/-- TABLE[n] -/
theorem ix_kdi (D : KDI X.K X.mg d l) : IxR X (fun x y H Q => ∃ (n : Nat) (nm : Str), x = .ref d ∧ y = .int (n : Int) ∧ l.lookup n = some nm ∧ Q (.ref (gad X.K nm)) H) := by
  intro value slice pins s σ H x y v u Q I rx ry h hs
  obtain ⟨n, nm, rfl, rfl, e, q⟩ := h
  obtain rfl : v = Value.ref d := rx
  obtain ⟨t, rfl⟩ := ry
  have hm := D.map (prog := X.prog) (w := X.w) I.kIn
  refine tail_any hm.typeIs slot_dict_getitem.lookup (wpAny_getItem_of (knd := intKind X.prog X.w) (k := (n : Int)) (v := .ref (gad X.K nm)) (intKind_is X.prog X.w _ t) hm ?_ ⟨.ref (gad X.K nm), H, I.tok _, rfl, q⟩) hs
  show (l.lookup n).map (fun x => Value.ref (gad X.K x)) = _
  rw [e]
  rfl
end
theorem pe_gref {X : Cx} {x : Str} {pos : Pos} {a : Addr} (h : X.mg x = some (.ref a)) (hg : Gl X x := by rfl) (hd : (x == ("__debug__" : Str)) = false := by decide) : PE X (.Name x pos) (tC (.ref a)) := pe_glob (v := .ref a) hg h rfl hd
structure Tk (K : PySem.W.Frag) (mg : Str → Option Value) : Prop where
  g_POLICY_CALLS : mg "POLICY_CALLS" = some (.ref (gad K "POLICY_CALLS"))
  k_POLICY_CALLS : KDI K mg (gad K "POLICY_CALLS") tb_POLICY_CALLS
  g_LOG_CALLS : mg "LOG_CALLS" = some (.ref (gad K "LOG_CALLS"))
  k_LOG_CALLS : KDI K mg (gad K "LOG_CALLS") tb_LOG_CALLS
  g_BELIEF_CALLS : mg "BELIEF_CALLS" = some (.ref (gad K "BELIEF_CALLS"))
  k_BELIEF_CALLS : KDI K mg (gad K "BELIEF_CALLS") tb_BELIEF_CALLS
  g_DETECTION_CALLS : mg "DETECTION_CALLS" = some (.ref (gad K "DETECTION_CALLS"))
  k_DETECTION_CALLS : KDI K mg (gad K "DETECTION_CALLS") tb_DETECTION_CALLS
  g_PERMIT_CALLS : mg "PERMIT_CALLS" = some (.ref (gad K "PERMIT_CALLS"))
  k_PERMIT_CALLS : KDI K mg (gad K "PERMIT_CALLS") tb_PERMIT_CALLS
  g_RATIONAL_CALLS : mg "RATIONAL_CALLS" = some (.ref (gad K "RATIONAL_CALLS"))
  k_RATIONAL_CALLS : KDI K mg (gad K "RATIONAL_CALLS") tb_RATIONAL_CALLS
  g_DETERRENCE_CALLS : mg "DETERRENCE_CALLS" = some (.ref (gad K "DETERRENCE_CALLS"))
  k_DETERRENCE_CALLS : KDI K mg (gad K "DETERRENCE_CALLS") tb_DETERRENCE_CALLS
  g_SETTING_CALLS : mg "SETTING_CALLS" = some (.ref (gad K "SETTING_CALLS"))
  k_SETTING_CALLS : KDI K mg (gad K "SETTING_CALLS") tb_SETTING_CALLS
theorem look_go {l : List (Nat × Str)} {n : Nat} {r : Option Str} {nm : Str} (h : (match l.lookup n with | some x => some x | none => r) = some nm) : (l.lookup n = some nm) ∨ (l.lookup n = none ∧ r = some nm) := by
  cases e : l.lookup n with
  | some x => rw [e] at h; exact .inl h
  | none => rw [e] at h; exact .inr ⟨rfl, h⟩
theorem hLook_name {K : PySem.W.Frag} {mg : Str → Option Value} (D : Tk K mg) {n : Nat} {nm : Str} (h : hLook n = some nm) : mg nm = some (.ref (gad K nm)) := by
  have go : ∀ {d : Addr} {l : List (Nat × Str)}, KDI K mg d l → l.lookup n = some nm → mg nm = some (.ref (gad K nm)) := fun k e => by
    obtain ⟨es, _, _, hE⟩ := k.ex
    exact EntsI.name n hE e
  unfold hLook at h
  rcases look_go h with e | ⟨_, h⟩
  · exact go D.k_POLICY_CALLS e
  rcases look_go h with e | ⟨_, h⟩
  · exact go D.k_LOG_CALLS e
  rcases look_go h with e | ⟨_, h⟩
  · exact go D.k_BELIEF_CALLS e
  rcases look_go h with e | ⟨_, h⟩
  · exact go D.k_DETECTION_CALLS e
  rcases look_go h with e | ⟨_, h⟩
  · exact go D.k_PERMIT_CALLS e
  rcases look_go h with e | ⟨_, h⟩
  · exact go D.k_RATIONAL_CALLS e
  rcases look_go h with e | ⟨_, h⟩
  · exact go D.k_DETERRENCE_CALLS e
  exact go D.k_SETTING_CALLS h
theorem if_t {c : Bool} {A B : Prop} (hc : c = true) (h : A) : if c = true then A else B := by rw [if_pos hc]; exact h
theorem if_f {c : Bool} {A B : Prop} (hc : c = false) (h : B) : if c = true then A else B := by rw [hc, if_neg Bool.false_ne_true]; exact h
section
variable {P : Program} {w : World} {K : PySem.W.Frag} {mg : Str → Option Value} {base : Heap}
def sp_handler_of (K : PySem.W.Frag) : Sp := fun vs H Q E =>
  ∃ (n : Nat) (nm : Str), vs = [.int (n : Int)] ∧ hLook n = some nm ∧ Q (.ref (gad K nm)) H
theorem ok_handler_of (T : Tx K mg) (D : Tk K mg) : Cal P w K mg base CX0 1 "handler_of" (sp_handler_of K) := by
  refine (T.d_handler_of).ok0 sc_handler_of bd_handler_of (fun vs H Q E h => ?_) (fun f cdv A outer s H vs Q E hr h => ?_)
  · obtain ⟨_, _, rfl, _⟩ := h; rfl
  refine ⟨_, (pss_cons (ps_if (pt_cmpR (op_in_kdi D.k_POLICY_CALLS) (pv 0) (pe_gref D.g_POLICY_CALLS) rfl) (pss_one (ps_ret (pe_ix (ix_kdi D.k_POLICY_CALLS) (pe_gref D.g_POLICY_CALLS) (pv 0) (fun _ _ => rfl)))) pss_nil)
      (pss_cons (ps_if (pt_cmpR (op_in_kdi D.k_LOG_CALLS) (pv 0) (pe_gref D.g_LOG_CALLS) rfl) (pss_one (ps_ret (pe_ix (ix_kdi D.k_LOG_CALLS) (pe_gref D.g_LOG_CALLS) (pv 0) (fun _ _ => rfl)))) pss_nil)
      (pss_cons (ps_if (pt_cmpR (op_in_kdi D.k_BELIEF_CALLS) (pv 0) (pe_gref D.g_BELIEF_CALLS) rfl) (pss_one (ps_ret (pe_ix (ix_kdi D.k_BELIEF_CALLS) (pe_gref D.g_BELIEF_CALLS) (pv 0) (fun _ _ => rfl)))) pss_nil)
      (pss_cons (ps_if (pt_cmpR (op_in_kdi D.k_DETECTION_CALLS) (pv 0) (pe_gref D.g_DETECTION_CALLS) rfl) (pss_one (ps_ret (pe_ix (ix_kdi D.k_DETECTION_CALLS) (pe_gref D.g_DETECTION_CALLS) (pv 0) (fun _ _ => rfl)))) pss_nil)
      (pss_cons (ps_if (pt_cmpR (op_in_kdi D.k_PERMIT_CALLS) (pv 0) (pe_gref D.g_PERMIT_CALLS) rfl) (pss_one (ps_ret (pe_ix (ix_kdi D.k_PERMIT_CALLS) (pe_gref D.g_PERMIT_CALLS) (pv 0) (fun _ _ => rfl)))) pss_nil)
      (pss_cons (ps_if (pt_cmpR (op_in_kdi D.k_RATIONAL_CALLS) (pv 0) (pe_gref D.g_RATIONAL_CALLS) rfl) (pss_one (ps_ret (pe_ix (ix_kdi D.k_RATIONAL_CALLS) (pe_gref D.g_RATIONAL_CALLS) (pv 0) (fun _ _ => rfl)))) pss_nil)
      (pss_cons (ps_if (pt_cmpR (op_in_kdi D.k_DETERRENCE_CALLS) (pv 0) (pe_gref D.g_DETERRENCE_CALLS) rfl) (pss_one (ps_ret (pe_ix (ix_kdi D.k_DETERRENCE_CALLS) (pe_gref D.g_DETERRENCE_CALLS) (pv 0) (fun _ _ => rfl)))) pss_nil)
      (pss_one (ps_ret (pe_ix (ix_kdi D.k_SETTING_CALLS) (pe_gref D.g_SETTING_CALLS) (pv 0) (fun _ _ => rfl))))))))))), ?_⟩
  obtain ⟨n, nm, rfl, h, k⟩ := h
  unfold hLook at h
  have st : ∀ {x : Str} {l : List (Nat × Str)}, l.lookup n = some x → (l.lookup n).isSome = true := fun e => by rw [e]; rfl
  have sf : ∀ {l : List (Nat × Str)}, l.lookup n = none → (l.lookup n).isSome = false := fun e => by rw [e]; rfl
  refine ⟨_, rfl, n, rfl, rfl, _, rfl, ?_⟩
  rcases look_go h with e | ⟨e, h⟩
  · exact if_t (st e) ⟨_, rfl, n, nm, rfl, rfl, e, k⟩
  refine if_f (sf e) ?_
  refine ⟨_, rfl, n, rfl, rfl, _, rfl, ?_⟩
  rcases look_go h with e | ⟨e, h⟩
  · exact if_t (st e) ⟨_, rfl, n, nm, rfl, rfl, e, k⟩
  refine if_f (sf e) ?_
  refine ⟨_, rfl, n, rfl, rfl, _, rfl, ?_⟩
  rcases look_go h with e | ⟨e, h⟩
  · exact if_t (st e) ⟨_, rfl, n, nm, rfl, rfl, e, k⟩
  refine if_f (sf e) ?_
  refine ⟨_, rfl, n, rfl, rfl, _, rfl, ?_⟩
  rcases look_go h with e | ⟨e, h⟩
  · exact if_t (st e) ⟨_, rfl, n, nm, rfl, rfl, e, k⟩
  refine if_f (sf e) ?_
  refine ⟨_, rfl, n, rfl, rfl, _, rfl, ?_⟩
  rcases look_go h with e | ⟨e, h⟩
  · exact if_t (st e) ⟨_, rfl, n, nm, rfl, rfl, e, k⟩
  refine if_f (sf e) ?_
  refine ⟨_, rfl, n, rfl, rfl, _, rfl, ?_⟩
  rcases look_go h with e | ⟨e, h⟩
  · exact if_t (st e) ⟨_, rfl, n, nm, rfl, rfl, e, k⟩
  refine if_f (sf e) ?_
  refine ⟨_, rfl, n, rfl, rfl, _, rfl, ?_⟩
  rcases look_go h with e | ⟨e, h⟩
  · exact if_t (st e) ⟨_, rfl, n, nm, rfl, rfl, e, k⟩
  refine if_f (sf e) ?_
  exact ⟨_, rfl, n, nm, rfl, rfl, h, k⟩
end
end PW
set_option Elab.async false
set_option linter.all false
set_option maxRecDepth 100000
set_option maxHeartbeats 4000000
/-! What a call of the document does to the state: a refusal changes nothing and has no more numbers; no call without a list changes a weight. -/
namespace PW
open PySem PySem.Spec PyProof.Rows L2
open Kp417 (Monitor Policy Permit run query single policyAt)
theorem neg416 (s : Kp416.Setting) (c : Kp416.Call) (h : (Kp416.step (some s) c).2.num < 0) : (Kp416.step (some s) c).2.nums = [] := by
  have nn : ∀ {a : Kp416.Ans}, 0 ≤ a.num → a.num < 0 → a.nums = [] := fun h1 h2 => absurd h2 (by omega)
  revert h
  cases c with
  | create n => unfold Kp416.step; dsimp only; split <;> exact fun _ => rfl
  | setTestWeights l => unfold Kp416.step; dsimp only; split <;> exact fun _ => rfl
  | setProductionWeights l => unfold Kp416.step; dsimp only; split <;> exact fun _ => rfl
  | setPrior a b => unfold Kp416.step; dsimp only; split; exact nn (Int.le_refl 0); exact fun _ => rfl
  | setStakes a b => unfold Kp416.step; dsimp only; split; exact nn (Int.le_refl 0); exact fun _ => rfl
  | setPrices a b => unfold Kp416.step; dsimp only; split; exact nn (Int.le_refl 0); exact fun _ => rfl
  | cheatingValue a => unfold Kp416.step; dsimp only; split; exact nn (Int.le_refl 0); exact fun _ => rfl
  | cheatingSignals => exact nn (Int.natCast_nonneg _)
  | expectedProfit => exact nn (Int.le_refl 0)
  | expectedProfitOf a => unfold Kp416.step; dsimp only; split; exact fun _ => rfl; exact nn (Int.le_refl 0)
  | detectionProbability => exact nn (Int.le_refl 0)
  | harmProbability => exact nn (Int.le_refl 0)
  | totalCost => exact nn (Int.le_refl 0)
  | deterrentPriorAt a =>
    unfold Kp416.step
    dsimp only
    split
    · unfold Kp416.optionalFraction
      split <;> first | exact fun _ => rfl | exact nn (Int.le_refl 0)
    · exact fun _ => rfl
  | deterrentPrior =>
    unfold Kp416.step Kp416.optionalFraction
    dsimp only
    split <;> first | exact fun _ => rfl | exact nn (Int.le_refl 0)
  | previewMerge l =>
    unfold Kp416.step
    dsimp only
    split
    · exact fun _ => rfl
    · split <;> first | exact fun _ => rfl | exact nn (Int.le_refl 0)
  | mergeSignals l => unfold Kp416.step; dsimp only; split; exact nn (Int.natCast_nonneg _); exact fun _ => rfl
  | cheapestPrior => exact nn (Int.le_refl 0)
  | cheatingSignalsForPrior a b => unfold Kp416.step; dsimp only; split; exact nn (Int.natCast_nonneg _); exact fun _ => rfl
  | cheatingSignalsForStakes a b => unfold Kp416.step; dsimp only; split; exact nn (Int.natCast_nonneg _); exact fun _ => rfl
  | getSettings => exact nn (Int.natCast_nonneg _)
def NegOk (o : Kp417.Outcome) : Prop := o.2.num < 0 → o.2.nums = [] ∧ o.1 = none
theorem neg_s (z : Int) : NegOk (query (single z)) := fun _ => ⟨rfl, rfl⟩
theorem neg_n {o : Kp417.Outcome} (h : 0 ≤ o.2.num) : NegOk o := fun z => absurd z (by omega)
theorem neg_set (h : Monitor) (c : Kp416.Call) : NegOk (Kp417.runSetting h c) := by
  unfold Kp417.runSetting
  dsimp only
  split
  · rename_i z
    exact fun _ => ⟨neg416 h.setting c z, rfl⟩
  · rename_i z
    split
    · split
      · exact neg_s _
      · exact neg_n (by show 0 ≤ (Kp416.step (some h.setting) _).2.num; omega)
    · split
      · exact neg_s _
      · exact neg_n (by show 0 ≤ (Kp416.step (some h.setting) _).2.num; omega)
    · exact neg_n (by show 0 ≤ (Kp416.step (some h.setting) c).2.num; omega)
theorem neg_pol (h : Monitor) (q : Policy) : NegOk (Kp417.addPolicy h q) := by
  unfold Kp417.addPolicy
  split
  · exact neg_s _
  split
  · exact neg_s _
  split
  · exact neg_s _
  · exact neg_n (Int.natCast_nonneg _)
theorem neg_run (h : Monitor) (c : Kp417.Call) : NegOk (run h c) := by
  cases c <;> unfold Kp417.run <;> dsimp only
  all_goals repeat' (first | with_reducible exact neg_s _ | with_reducible exact neg_set h _ | with_reducible exact neg_pol h _ | split)
  all_goals (try unfold Kp417.boolResult)
  all_goals (try split)
  all_goals first | exact neg_n (Int.natCast_nonneg _) | exact neg_n (Int.le_refl 0) | exact neg_n (by decide)
/-- the weights of a monitor -/
abbrev SameW (s t : Kp416.Setting) : Prop := t.model.testWeights = s.model.testWeights ∧ t.model.productionWeights = s.model.productionWeights
def quiet : Kp416.Call → Bool
  | .create _ | .setTestWeights _ | .setProductionWeights _ | .mergeSignals _ => false
  | _ => true
theorem w416 (s : Kp416.Setting) (c : Kp416.Call) (hc : quiet c = true) : ∃ t, (Kp416.step (some s) c).1 = some t ∧ SameW s t := by
  cases c <;> first | cases hc | exact ⟨_, rfl, rfl, rfl⟩ | skip
  all_goals (unfold Kp416.step; dsimp only; first | exact ⟨_, rfl, rfl, rfl⟩ | (split <;> exact ⟨_, rfl, rfl, rfl⟩))
theorem w_set (h : Monitor) (c : Kp416.Call) (hc : quiet c = true) : SameW h.setting ((Kp417.runSetting h c).1.getD h).setting := by
  obtain ⟨t, e, w⟩ := w416 h.setting c hc
  unfold Kp417.runSetting
  dsimp only
  rw [e]
  repeat' split
  all_goals first | exact ⟨rfl, rfl⟩ | exact w
theorem w_pol (h : Monitor) (q : Policy) : SameW h.setting ((Kp417.addPolicy h q).1.getD h).setting := by
  unfold Kp417.addPolicy
  repeat' split
  all_goals exact ⟨rfl, rfl⟩
theorem w_run (h : Monitor) (c : Kp417.Call) (hc : plainC c = true) : SameW h.setting ((Kp417.run h c).1.getD h).setting := by
  have q : ∀ a, SameW h.setting ((query a).1.getD h).setting := fun _ => ⟨rfl, rfl⟩
  cases c <;> first | cases hc | skip
  all_goals (unfold Kp417.run; dsimp only)
  all_goals repeat' (first | with_reducible exact q _ | with_reducible exact w_set h _ rfl | with_reducible exact w_pol h _ | split | exact ⟨rfl, rfl⟩)
/-- all weights are 1 -/
def Ones (h : Monitor) : Prop := (∀ z ∈ h.setting.model.testWeights, z = 1) ∧ ∀ z ∈ h.setting.model.productionWeights, z = 1
def OnesSt : Kp417.State → Prop
  | some (some h) => Ones h
  | _ => True
theorem ones_step (st : Kp417.State) (c : Kp417.Call) (hc : plainC c = true) (o : OnesSt st) : OnesSt (Kp417.step st c).1 := by
  by_cases hr : c = .reset
  · subst hr
    cases st <;> trivial
  match st, o with
  | none, _ => cases c <;> trivial
  | some none, _ =>
    cases c with
    | createSetting n =>
      rw [cre_none]
      split
      · trivial
      · exact ⟨fun z hz => List.eq_of_mem_replicate hz, fun z hz => List.eq_of_mem_replicate hz⟩
    | _ => trivial
  | some (some h), o =>
    rw [step_run h c hr]
    obtain ⟨a, b⟩ := w_run h c hc
    show Ones _
    unfold Ones
    rw [a, b]
    exact o
theorem neg_step (st : Kp417.State) (c : Kp417.Call) (h : (Kp417.step st c).2.num < 0) : (Kp417.step st c).2.nums = [] ∧ (Kp417.step st c).1 = st := by
  by_cases hr : c = .reset
  · subst hr
    cases st <;> exact absurd (show (0 : Int) < 0 from h) (by decide)
  match st with
  | none => cases c <;> first | exact ⟨rfl, rfl⟩ | exact absurd rfl hr
  | some none =>
    cases c with
    | createSetting n =>
      rw [cre_none] at h ⊢
      split at h
      · rename_i z; rw [if_pos z]; exact ⟨rfl, rfl⟩
      · exact absurd (show (0 : Int) < 0 from h) (by decide)
    | reset => exact absurd rfl hr
    | _ => exact ⟨rfl, rfl⟩
  | some (some g) =>
    rw [step_run g c hr] at h ⊢
    obtain ⟨a, b⟩ := neg_run g c h
    refine ⟨a, ?_⟩
    show some (some ((Kp417.run g c).1.getD g)) = _
    rw [b]
    rfl
end PW
set_option Elab.async false
set_option linter.all false
set_option maxRecDepth 100000
set_option maxHeartbeats 4000000
/-! One call: carried out, or refused. -/
namespace PW
open PySem PySem.Spec PyProof.Rows L2
open Kp417 (Monitor Policy Permit query single policyAt)
/-! ### a call of a slot that holds a def -/
structure HeldX (P : Program) (w : World) (K : PySem.W.Frag) (mg : Str → Option Value) (base : Heap) (k : Nat) (f : Addr) (sp : Sp) : Prop where
  ex : ∃ (fd : FuncData) (ps : List Str), FnOk P w K mg base (L2.CX P w) k f fd ps sp ∧ PySem.W.keepIn K (.ref f) = true ∧ Binds K fd ps []
theorem Cal.held {P : Program} {w : World} {K : PySem.W.Frag} {mg : Str → Option Value} {base : Heap} {k : Nat} {x : Str} {sp : Sp} {f : Addr} (C : Cal P w K mg base (L2.CX P w) k x sp) (h : mg x = some (.ref f)) : HeldX P w K mg base k f sp := by
  obtain ⟨f', fd, ps, F, g, kp, b⟩ := C.ex
  rw [h] at g
  cases g
  exact ⟨fd, ps, F, kp, b⟩
def tCallLX (P : Program) (w : World) (K : PySem.W.Frag) (mg : Str → Option Value) (base : Heap) (k i : Nat) (E : XK) (t : TA) : TE := fun σ H Q => ∃ f sp, σ[i]? = some (some (.ref f)) ∧ HeldX P w K mg base k f sp ∧ t σ H fun vs H1 => sp vs H1 Q E
theorem pe_callLX {X : Cx} {k i : Nat} {E : XK} {x : Str} {p pos : Pos} {e : Expr} {es : List Expr} {t : TA} (hr : Room k X.A) (hx : Passes (L2.CX X.prog X.w) X E) (ha : PA X (e :: es) t) (hN : X.N[i]? = some x) (hv : Vis X.env.scope x)
    (hdb : (x == ("__debug__" : Str)) = false := by decide) (hcd : (x == ("__classdict__" : Str)) = false := by decide)
    (he : starEach (e :: es) X.env = (false, eval e X.env) :: starEach es X.env := by rfl) (hpl : (backTo pos (starEach es X.env)).any (·.1) = false := by rfl) : PE X (.Call (.Name x p) (e :: es) [] pos) (tCallLX X.prog X.w X.K X.mg X.base k i E t) := by
  refine ⟨fun pins s σ H Q I h => ?_⟩
  obtain ⟨f, sp, hs, hh, ht⟩ := h
  obtain ⟨fd, ps, F, hk, hb⟩ := hh.ex
  refine (pe_callL (i := i) (f := f) (sp := sp) (dvs := []) (E := E) (p := p) (pos := pos) F hr hN hv hk hb .nil hx ha hdb hcd he hpl).run pins s σ H Q I ⟨hs, ?_⟩
  have e0 : (fun (vs : List V) (H1 : Hp) => sp (vs ++ []) H1 Q E) = fun vs H1 => sp vs H1 Q E := by
    funext vs H1
    rw [List.append_nil]
  show t σ H (fun vs H1 => sp (vs ++ []) H1 Q E)
  rw [e0]
  exact ht
def sp_carry_out (P : Program) (w : World) (mg : Str → Option Value) (base : Heap) (K : PySem.W.Frag) : Sp := fun vs H Q E =>
  ∃ (f m g : Addr) (args : List Nat) (sp : Sp), vs = [.ref f, .ref m, .ref g] ∧ H g = some (.lst (natL args)) ∧ args.length ≤ 2 ∧ HeldX P w K mg base 20 f sp ∧ sp (.ref m :: natL args) H Q E
def spReady (st : Kp417.State) (n : Nat) : Prop := (∃ h, st = some (some h)) ∨ (st = some none ∧ n = 24)
section
variable {P : Program} {w : World} {K : PySem.W.Frag} {mg : Str → Option Value} {base : Heap}
theorem ok_carry_out (T : Tx K mg) : Cal P w K mg base (L2.CX P w) 21 "carry_out" (sp_carry_out P w mg base K) := by
  refine (T.d_carry_out).okX sc_carry_out bd_carry_out (fun vs H Q E h => ?_) (fun f cdv A outer s H vs Q E hr h => ?_)
  · obtain ⟨_, _, _, _, _, rfl, _⟩ := h; rfl
  refine ⟨_, (pss_cons (ps_if (pt_cmpR eqI (pe_callB lenL (by rfl) T.n_len bt_len (pa_cons (pv 2) pa_nil)) pe_int (nomark _)) (pss_one (ps_ret (pe_callLX (k := 20) hr (hN := (by rfl)) (hv := Or.inl rfl) (i := 0) (passes_call (E := E) (W := fun cls d _ H => E cls d H) (takes_of rfl rfl rfl rfl) (fun _ _ _ _ h => h)) (pa_cons (pv 1) pa_nil)))) pss_nil)
      (pss_cons (ps_if (pt_cmpR eqI (pe_callB lenL (by rfl) T.n_len bt_len (pa_cons (pv 2) pa_nil)) pe_int (nomark _)) (pss_one (ps_ret (pe_callLX (k := 20) hr (hN := (by rfl)) (hv := Or.inl rfl) (i := 0) (passes_call (E := E) (W := fun cls d _ H => E cls d H) (takes_of rfl rfl rfl rfl) (fun _ _ _ _ h => h)) (pa_cons (pv 1) (pa_cons (pe_ix ixL (pv 2) pe_int (fun _ _ => rfl)) pa_nil))))) pss_nil)
      (pss_one (ps_ret (pe_callLX (k := 20) hr (hN := (by rfl)) (hv := Or.inl rfl) (i := 0) (passes_call (E := E) (W := fun cls d _ H => E cls d H) (takes_of rfl rfl rfl rfl) (fun _ _ _ _ h => h)) (pa_cons (pv 1) (pa_cons (pe_ix ixL (pv 2) pe_int (fun _ _ => rfl)) (pa_cons (pe_ix ixL (pv 2) pe_int (fun _ _ => rfl)) pa_nil)))))))), ?_⟩
  obtain ⟨f, m, g, args, sp, rfl, hg, hl, hh, k⟩ := h
  have el : (natL args).length = args.length := List.length_map ..
  refine ⟨_, rfl, _, _, rfl, hg, _, _, rfl, rfl, _, rfl, ?_⟩
  match args, hl with
  | [], _ => exact iteT ⟨f, sp, rfl, hh, _, rfl, k⟩
  | [a], _ =>
    refine iteF ⟨_, rfl, _, _, rfl, hg, _, _, rfl, rfl, _, rfl, iteT ⟨f, sp, rfl, hh, _, rfl, _, rfl, g, _, 0, _, rfl, rfl, hg, rfl, k⟩⟩
  | [a, b], _ =>
    refine iteF ⟨_, rfl, _, _, rfl, hg, _, _, rfl, rfl, _, rfl, iteF ⟨f, sp, rfl, hh, _, rfl, _, rfl, g, _, 0, _, rfl, rfl, hg, rfl, _, rfl, g, _, 1, _, rfl, rfl, hg, rfl, k⟩⟩
def sp_require_ready (K : PySem.W.Frag) : Sp := fun vs H Q E =>
  ∃ (v : V) (st : Kp417.State) (fp : List Addr) (n : Nat), vs = [v, .int n] ∧ StR K H v st fp ∧ (¬ spReady st n → Rs K 11 H E) ∧ (spReady st n → Q .non H)
theorem ok_require_ready (T : Tx K mg) : Cal P w K mg base (L2.CX P w) 3 "require_ready" (sp_require_ready K) := by
  refine (T.d_require_ready).okX sc_require_ready bd_require_ready (fun vs H Q E h => ?_) (fun f cdv A outer s H vs Q E hr h => ?_)
  · obtain ⟨_, _, _, _, rfl, _⟩ := h; rfl
  refine ⟨_, (pss_cons (ps_if (pt_cmpR op_isN (pv 0) pe_non (nomark _)) (pss_one (ps_raiseR rfl T.ref T.r_NoSetting hr (W := fun cls d _ H => E cls d H) (takes_of rfl rfl rfl rfl))) pss_nil)
      (pss_one (ps_if (PW.pt (pw_and (pt_cmpR op_isN (pe_fldC T.c_Monitor T.a_Monitor_setting (pv 0)) pe_non (nomark _)) (pw_and1 (pt_cmpR neI (pv 1) (pe_gint T.i_CREATE_SETTING) (nomark _))))) (pss_one (ps_raiseR rfl T.ref T.r_NoSetting hr (W := fun cls d _ H => E cls d H) (takes_of rfl rfl rfl rfl))) pss_nil))), ?_⟩
  obtain ⟨v, st, fp, n, rfl, r, k1, k2⟩ := h
  match st, r with
  | none, r =>
    obtain ⟨rfl, _⟩ := r
    refine ⟨_, rfl, rfl, _, rfl, iteT ?_⟩
    exact rs_go "NoSetting" (k1 (by rintro (⟨h, e⟩ | ⟨e, _⟩) <;> cases e)) rf_NoSetting
  | some none, r =>
    obtain ⟨m, pa, rfl, r, _⟩ := r
    obtain ⟨dm, la, h1, h2, h3, n1⟩ := r.ex
    refine ⟨_, rfl, rfl, _, rfl, iteF ?_⟩
    refine ⟨_, rfl, _, _, _, _, rfl, h1, rfl, rfl, _, rfl, iteT ?_⟩
    refine ⟨_, rfl, _, _, rfl, rfl, _, rfl, ?_⟩
    by_cases c : n = 24
    · subst c
      exact iteF (k2 (.inr ⟨rfl, rfl⟩))
    · refine if_t (by show (!decide ((n : Int) = 24)) = true; rw [decide_eq_false (by omega)]; rfl) ?_
      exact rs_go "NoSetting" (k1 (by rintro (⟨h, e⟩ | ⟨_, e⟩); cases e; exact c e)) rf_NoSetting
  | some (some h), r =>
    obtain ⟨m, sa, pa, rfl, r, _, _⟩ := r
    obtain ⟨dm, la, dx, tw, pw, pv, ps, es, h1, h2, h3, h4, h5, h6, h7, h8, h9, n1, n2, n3⟩ := r.ex
    refine ⟨_, rfl, rfl, _, rfl, iteF ?_⟩
    refine ⟨_, rfl, _, _, _, _, rfl, h1, rfl, rfl, _, rfl, ?_⟩
    exact iteF (iteF (k2 (.inl ⟨h, rfl⟩)))
end
end PW
set_option Elab.async false
set_option linter.all false
set_option maxRecDepth 100000
set_option maxHeartbeats 4000000
/-! One call's answer. -/
namespace PW
open PySem PySem.Spec PyProof.Rows L2
open Kp417 (Monitor Policy Permit query single policyAt)
theorem StR.same {K : PySem.W.Frag} {H H' : Hp} {v : V} {st : Kp417.State} {fp : List Addr} (r : StR K H v st fp) (s : Same H H') : StR K H' v st fp := by
  match st, r with
  | none, r => exact r
  | some none, r =>
    obtain ⟨m, pa, e, r, f⟩ := r
    exact ⟨m, pa, e, r.same s, f⟩
  | some (some h), r =>
    obtain ⟨m, sa, pa, e, r, g, f⟩ := r
    exact ⟨m, sa, pa, e, r.same s, g, f⟩
theorem unready {st : Kp417.State} {n : Nat} {c : Kp417.Call} (h : ∀ a, c = .createSetting a → n = 24) (hc : c ≠ .reset) (nr : ¬ spReady st n) : Kp417.step st c = (st, single (-11)) := by
  match st, nr with
  | none, _ => cases c <;> first | rfl | exact absurd rfl hc
  | some none, nr =>
    cases c with
    | createSetting a =>
      exact absurd (.inr ⟨rfl, h a rfl⟩) nr
    | reset => exact absurd rfl hc
    | _ => rfl
  | some (some g), nr => exact absurd (.inl ⟨g, rfl⟩) nr
theorem ref_sub {K : PySem.W.Frag} {mg : Str → Option Value} (T : Tx K mg) {n : Nat} {C : Addr} (h : IsRef K n C) : ∃ fJ x, PySem.RefX.SubTxt K mg (gad K "Refusal") x n C fJ := by
  obtain ⟨x, hx, rfl⟩ := h
  unfold refTab at hx
  simp only [List.mem_cons, List.not_mem_nil, or_false, Prod.mk.injEq] at hx
  rcases hx with ⟨rfl, rfl⟩ | ⟨rfl, rfl⟩ | ⟨rfl, rfl⟩ | ⟨rfl, rfl⟩ | ⟨rfl, rfl⟩ | ⟨rfl, rfl⟩ | ⟨rfl, rfl⟩ | ⟨rfl, rfl⟩ | ⟨rfl, rfl⟩ | ⟨rfl, rfl⟩
  · exact ⟨_, _, T.r_NoSetting⟩
  · exact ⟨_, _, T.r_SettingExists⟩
  · exact ⟨_, _, T.r_NotThere⟩
  · exact ⟨_, _, T.r_OutsideLimits⟩
  · exact ⟨_, _, T.r_LogNotEmpty⟩
  · exact ⟨_, _, T.r_SameCheatSet⟩
  · exact ⟨_, _, T.r_Full⟩
  · exact ⟨_, _, T.r_NoValue⟩
  · exact ⟨_, _, T.r_HarmTooHigh⟩
  · exact ⟨_, _, T.r_NothingToUndo⟩
theorem pe_calS {X : Cx} {k : Nat} {x : Str} {sp : Sp} {E : L2.St → XK} {p pos : Pos} {e : Expr} {es : List Expr} {t : TA} (C : Cal X.prog X.w X.K X.mg X.base (L2.CX X.prog X.w) k x sp) (hr : Room k X.A) (hx : ∀ σ, PassesAt (L2.CX X.prog X.w) X σ (E σ)) (ha : PA X (e :: es) t) (hg : Gl X x := by rfl) (hdb : (x == ("__debug__" : Str)) = false := by decide)
    (he : starEach (e :: es) X.env = (false, eval e X.env) :: starEach es X.env := by rfl) (hpl : (backTo pos (starEach es X.env)).any (·.1) = false := by rfl) : PE X (.Call (.Name x p) (e :: es) [] pos) (tCallS sp E t) := by
  obtain ⟨f, fd, ps, F, g, kp, b⟩ := C.ex
  exact pe_callS F hr hg g kp b hx ha hdb he hpl
def sp_answer_of (P : Program) (w : World) (mg : Str → Option Value) (base : Heap) (K : PySem.W.Frag) : Sp := fun vs H Q E =>
  ∃ (v : V) (st : Kp417.State) (fp : List Addr) (n : Nat) (g : Addr) (args : List Nat) (c : Kp417.Call), vs = [v, .int n, .ref g] ∧ StR K H v st fp ∧ H g = some (.lst (natL args)) ∧ Lk P w K mg base n args ∧
    Kp417Neutral.callOf [(n : Int) :: args.map fun (a : Nat) => (a : Int)] = some c ∧ ∀ p H' fp', Frm H H' fp fp' → StR K H' v (Kp417.step st c).1 fp' → H p = none → H' p = some (.lst (((Kp417.step st c).2.num :: (Kp417.step st c).2.nums).map V.int)) → Q (.ref p) H'
section
variable {P : Program} {w : World} {K : PySem.W.Frag} {mg : Str → Option Value} {base : Heap}
theorem ok_answer_of (T : Tx K mg) (D : Tk K mg) : Cal P w K mg base CX0 22 "answer_of" (sp_answer_of P w mg base K) := by
  refine (T.d_answer_of).ok0 sc_answer_of bd_answer_of (fun vs H Q E h => ?_) (fun f cdv A outer s H vs Q E hr h => ?_)
  · obtain ⟨_, _, _, _, _, _, _, rfl, _⟩ := h; rfl
  refine ⟨_, (pss_one (ps_try_as (i := 3) (Wout := fun _ _ _ _ => False) rfl rfl sc_answer_of.nd rfl rfl ⟨rfl, by decide, Or.inl T.ref.gR⟩ takes0
  (fun W pn xe tk _ => pss_cons (ps_expr (by exact (pe_calS (E := WE W) (ok_require_ready (P := P) (w := w) (base := base) T) (hr.mono (by decide)) (fun σ => passAt tk σ) (by exact (pa_cons (pv 0) (pa_cons (pv 1) pa_nil))))))
    (pss_one (ps_ret (by exact (pe_calS (E := WE W) (k := 21) (ok_carry_out (P := P) (w := w) (base := base) T) hr (fun σ => passAt tk σ) (by exact (pa_cons (pe_cal (ok_handler_of T D) (hr.mono (by decide)) pass0 (pa_cons (pv 1) pa_nil)) (pa_cons (pv 0) (pa_cons (pv 2) pa_nil)))))))))
  (fun a oe cls d pn hz hf => pss_one (ps_ret (pe_lst (pa_cons (by exact (pe_code (CR := gad K "Refusal") hz hf (pv 3))) pa_nil)))))), ?_⟩
  obtain ⟨v, st, fp, n, g, args, c, rfl, r, hg, lk, hc, k⟩ := h
  obtain ⟨c', x, hc', hx, cal, pl, nr, cs⟩ := lk.ex
  obtain rfl : c = c' := Option.some.inj (hc.symm.trans hc')
  -- a refusal, caught: its number alone
  have out : ∀ (m : Nat) (H' : Hp) (p : Addr), (Kp417.step st c).2.num = -(m : Int) → (Kp417.step st c).2.num < 0 → Same H H' → H' p = none → Q (.ref p) (upd H' p (.lst [.int (-(m : Int))])) := fun m H' p e1 e2 s np => by
    obtain ⟨a, b⟩ := neg_step st c e2
    have s2 := s.trans (Same.new (o := .lst [.int (-(m : Int))]) np)
    refine k p _ fp ⟨fun b o e _ => s2 b o e, fun b hb => .inl hb⟩ (by rw [b]; exact r.same s2) (s.free np) ?_
    rw [a, e1, upd_same]
    rfl
  refine ⟨_, rfl, _, rfl, v, st, fp, n, rfl, r, fun no => ?_, fun yes => ?_⟩
  · intro C d H' hC s hd
    obtain ⟨fJ, y, S⟩ := ref_sub T hC
    have e := unready cs nr no
    refine ⟨true, S.te, fun _ a0 _ => ?_, fun q => Bool.noConfusion q⟩
    refine ⟨_, rfl, rfl, ⟨C, fJ, y, 11, rfl, S⟩, d, _, rfl, hd, szl, fun p np => ?_⟩
    exact out 11 H' p (by rw [e]; rfl) (by rw [e]; show (-11 : Int) < 0; decide) s np
  · have rd : Rdy st c := by
      rcases yes with y | ⟨y, z⟩
      · exact .inl y
      · obtain ⟨a, c', _, e2, e3⟩ := lk.cr.mp z
        rw [hc] at e2
        exact .inr ⟨y, a, (Option.some.inj e2).trans e3⟩
    obtain ⟨m, rfl⟩ : ∃ m, v = .ref m := by
      rcases yes with ⟨g, rfl⟩ | ⟨rfl, _⟩
      · obtain ⟨m, _, _, e, _⟩ := r; exact ⟨m, e⟩
      · obtain ⟨m, _, e, _⟩ := r; exact ⟨m, e⟩
    refine ⟨_, rfl, n, x, rfl, hx, _, rfl, _, rfl, gad K x, m, g, args, spAny K args c, rfl, hg, ?_, cal.held (hLook_name D hx), m, st, fp, rfl, r, rd, ?_⟩
    · rw [← lk.tk]
      unfold takes
      repeat' split
      all_goals decide
    · unfold PostS
      by_cases z : (Kp417.step st c).2.num < 0
      · rw [if_pos z]
        intro C d H' hC s hd
        obtain ⟨fJ, y, S⟩ := ref_sub T hC
        refine ⟨true, S.te, fun _ a0 _ => ?_, fun q => Bool.noConfusion q⟩
        refine ⟨_, rfl, rfl, ⟨C, fJ, y, _, rfl, S⟩, d, _, rfl, hd, szl, fun p np => ?_⟩
        exact out _ H' p (by omega) z s np
      · rw [if_neg z]
        exact fun p H' fp' f r' np e => k p H' fp' f r' np e
end
end PW
set_option Elab.async false
set_option linter.all false
set_option maxRecDepth 100000
set_option maxHeartbeats 4000000
/-! The calls, split. -/
namespace PW
open PySem PySem.Spec PyProof.Rows L2
open Kp417 (Monitor Policy Permit query single policyAt)
/-- xs[n], len(xs): any list -/
theorem ixS {X : Cx} : IxR X (fun x y H Q => ∃ p xs n v, x = .ref p ∧ y = .int ((n : Nat) : Int) ∧ SqL X.K H p xs ∧ xs[n]? = some v ∧ Q v H) := IxR.weak ix_list fun x y H Q ⟨p, xs, n, v, h1, h2, h3, h4, h5⟩ =>
  ⟨p, xs, _, v, h1, h2, h3, atI_nat h4, h5⟩
theorem lenS {X : Cx} : CallR X (.builtin "len") (fun xs H Q => ∃ p ys, xs = [.ref p] ∧ SqL X.K H p ys ∧ Q (.int ys.length) H) := CallR.weak call_len_seq fun xs H Q ⟨p, ys, h1, h2, h3⟩ => ⟨p, ys, h1, .inl h2, h3⟩
def flatC (cs : List (Nat × List Nat)) : List Nat := cs.flatMap fun c => c.1 :: c.2
def posC (cs : List (Nat × List Nat)) (i : Nat) : Nat := (flatC (cs.take i)).length
/-- tuples of the number and the list of what is given to it, all behind H -/
def CalL (H H' : Hp) (r : Addr) (ts : List Addr) (cs : List (Nat × List Nat)) : Prop := ts.length = cs.length ∧ ∀ (i : Nat) (t : Addr) (c : Nat × List Nat), ts[i]? = some t → cs[i]? = some c → ∃ g, H t = none ∧ H g = none ∧ g ≠ r ∧ H' t = some (.tup [.int (c.1 : Int), .ref g]) ∧ H' g = some (.lst (natL c.2))
theorem flat_cut {cs : List (Nat × List Nat)} {i : Nat} {c : Nat × List Nat} (h : cs[i]? = some c) : flatC cs = flatC (cs.take i) ++ (c.1 :: c.2 ++ flatC (cs.drop (i + 1))) := by
  have e : cs = cs.take i ++ (c :: cs.drop (i + 1)) := by
    have l : i < cs.length := (List.getElem?_eq_some_iff.mp h).1
    have z : cs.drop i = c :: cs.drop (i + 1) := by
      rw [List.drop_eq_getElem_cons l, (List.getElem?_eq_some_iff.mp h).2]
    rw [← z, List.take_append_drop]
  have e2 : flatC cs = flatC (cs.take i ++ (c :: cs.drop (i + 1))) := congrArg flatC e
  rw [e2]
  unfold flatC
  rw [List.flatMap_append, List.flatMap_cons]
theorem take_snoc {α : Type} {l : List α} {i : Nat} {x : α} (h : l[i]? = some x) : l.take (i + 1) = l.take i ++ [x] := by
  rw [List.take_succ, h]
  rfl
theorem pos_next {cs : List (Nat × List Nat)} {i : Nat} {c : Nat × List Nat} (h : cs[i]? = some c) : posC cs (i + 1) = posC cs i + 1 + c.2.length := by
  unfold posC
  rw [take_snoc h]
  unfold flatC
  rw [List.flatMap_append, List.length_append]
  simp
  omega
theorem at_pos {cs : List (Nat × List Nat)} {i : Nat} {c : Nat × List Nat} (h : cs[i]? = some c) : (natL (flatC cs))[posC cs i]? = some (.int (c.1 : Int)) := by
  unfold natL
  unfold posC
  rw [List.getElem?_map, flat_cut h, List.getElem?_append_right (Nat.le_refl _), Nat.sub_self]
  rfl
theorem cut_pos {cs : List (Nat × List Nat)} {i : Nat} {c : Nat × List Nat} (h : cs[i]? = some c) : cutV (natL (flatC cs)) (some ((posC cs i + 1 : Nat) : Int)) (some ((posC cs i + 1 + c.2.length : Nat) : Int)) = natL c.2 := by
  have el : (natL (flatC cs)).length = posC cs i + (1 + c.2.length + (flatC (cs.drop (i + 1))).length) := by
    unfold natL
    rw [List.length_map, flat_cut h]
    unfold posC
    rw [List.length_append, List.length_append, List.length_cons]
    omega
  unfold cutV
  rw [HT.sIx_nat, HT.sIx_nat, el, Nat.min_eq_left (by omega), Nat.min_eq_left (by omega)]
  have e : posC cs i + 1 + c.2.length - (posC cs i + 1) = c.2.length := by omega
  rw [e]
  unfold natL
  rw [← List.map_drop, ← List.map_take, flat_cut h]
  have e2 : (flatC (cs.take i) ++ (c.1 :: c.2 ++ flatC (cs.drop (i + 1)))).drop (posC cs i + 1) = c.2 ++ flatC (cs.drop (i + 1)) := by
    unfold posC
    rw [← List.drop_drop, List.drop_left]
    rfl
  rw [e2, List.take_left]
theorem pos_lt {cs : List (Nat × List Nat)} {i : Nat} (hi : i ≤ cs.length) : posC cs i < (natL (flatC cs)).length ↔ i < cs.length := by
  constructor
  · intro h
    by_cases e : i = cs.length
    · subst e
      unfold posC natL at h
      rw [List.take_length, List.length_map] at h
      omega
    · omega
  · intro h
    have := at_pos (cs := cs) (i := i) (c := cs[i]) (List.getElem?_eq_getElem h)
    exact (List.getElem?_eq_some_iff.mp this).1
theorem split_fin {H H' : Hp} {r t g : Addr} {ts : List Addr} {cs : List (Nat × List Nat)} {i : Nat} {c : Nat × List Nat} (hc : cs[i]? = some c) (hr0 : H r = none) (hr : H' r = some (.lst (ts.map V.ref))) (cl : CalL H H' r ts (cs.take i)) (s : Same H H')
    (g0 : H g = none) (hg : H' g = some (.lst (natL c.2))) (gr : g ≠ r) (nt : H' t = none) :
    ∃ ts' : List Addr, upd (upd H' t (.tup [.int (c.1 : Int), .ref g])) r (.lst (ts.map V.ref ++ [.ref t])) r = some (.lst (ts'.map V.ref)) ∧ CalL H (upd (upd H' t (.tup [.int (c.1 : Int), .ref g])) r (.lst (ts.map V.ref ++ [.ref t]))) r ts' (cs.take (i + 1)) ∧
      Same H (upd (upd H' t (.tup [.int (c.1 : Int), .ref g])) r (.lst (ts.map V.ref ++ [.ref t]))) := by
  have tr : t ≠ r := fun z => by rw [z, hr] at nt; cases nt
  have s1 : Same H' (upd H' t (.tup [.int (c.1 : Int), .ref g])) := Same.new nt
  have kp : ∀ b o, b ≠ r → H' b = some o → upd (upd H' t (.tup [.int (c.1 : Int), .ref g])) r (.lst (ts.map V.ref ++ [.ref t])) b = some o := fun b o nb e => by
    rw [upd_ne nb]
    exact s1 b o e
  have t0 : H t = none := s.free nt
  refine ⟨ts ++ [t], ?_, ⟨?_, fun j t' c' a b => ?_⟩, fun b o e => kp b o (ne_of_none e hr0) (s b o e)⟩
  · rw [upd_same, List.map_append]
    rfl
  · rw [take_snoc hc, List.length_append, List.length_append, cl.1]
    rfl
  · rw [take_snoc hc] at b
    by_cases hj : j < ts.length
    · rw [List.getElem?_append_left hj] at a
      rw [List.getElem?_append_left (by rw [← cl.1]; exact hj)] at b
      obtain ⟨g', e1, e2, e5, e3, e4⟩ := cl.2 j t' c' a b
      exact ⟨g', e1, e2, e5, kp _ _ (ne_of e3 hr (fun z => by cases z)) e3, kp _ _ e5 e4⟩
    · rw [List.getElem?_append_right (by omega)] at a
      rw [List.getElem?_append_right (by rw [← cl.1]; omega), ← cl.1] at b
      have hj0 : j - ts.length = 0 := by
        by_cases z : j - ts.length = 0
        · exact z
        · rw [List.getElem?_eq_none (by show 1 ≤ j - ts.length; omega)] at a
          cases a
      rw [hj0] at a b
      obtain rfl : t = t' := Option.some.inj a
      obtain rfl : c = c' := Option.some.inj b
      refine ⟨g, t0, g0, gr, ?_, kp _ _ gr hg⟩
      rw [upd_ne tr, upd_same]
section
variable {P : Program} {w : World} {K : PySem.W.Frag} {mg : Str → Option Value} {base : Heap}
def sp_split_calls (K : PySem.W.Frag) : Sp := fun vs H Q E =>
  ∃ (a : Addr) (cs : List (Nat × List Nat)), vs = [.ref a] ∧ SqL K H a (natL (flatC cs)) ∧ (∀ c ∈ cs, LST.contains c.1 = false ∧ takes c.1 = c.2.length) ∧ cs.length ≤ 80 ∧
    ∀ H' r ts, Same H H' → H r = none → H' r = some (.lst (ts.map V.ref)) → CalL H H' r ts cs → Q (.ref r) H'
theorem ok_split_calls (T : Tx K mg) : Cal P w K mg base CX0 1 "split_calls" (sp_split_calls K) := by
  refine (T.d_split_calls).ok0 sc_split_calls bd_split_calls (fun vs H Q E h => ?_) (fun f cdv A outer s H vs Q E hr h => ?_)
  · obtain ⟨_, _, rfl, _⟩ := h; rfl
  refine ⟨_, (pss_cons (ps_set (i := 1) sc_split_calls.nd rfl (Or.inl rfl) (pe_lst pa_nil))
      (pss_cons (ps_set (i := 2) sc_split_calls.nd rfl (Or.inl rfl) pe_int)
      (pss_cons (ps_while PassesOwn.never (pt_cmpR op_lt (pv 2) (pe_callB lenS (by rfl) T.n_len bt_len (pa_cons (pv 0) pa_nil)) (nomark _)) (pss_cons (ps_set (i := 3) sc_split_calls.nd rfl (Or.inl rfl) (pe_ix ixS (pv 0) (pv 2) (fun _ _ => rfl)))
      (pss_cons (ps_set (i := 4) sc_split_calls.nd rfl (Or.inl rfl) (pe_op op_add (pv 2) pe_int))
      (pss_cons (ps_set (i := 2) sc_split_calls.nd rfl (Or.inl rfl) (pv 4))
      (pss_cons (ps_set (i := 5) sc_split_calls.nd rfl (Or.inl rfl) (pe_lst pa_nil))
      (pss_cons (ps_if (pt_cmpR op_in_seq (pv 3) (pe_gref T.g_TAKES_ONE_LIST) rfl) (pss_cons (ps_set (i := 2) sc_split_calls.nd rfl (Or.inl rfl) (pe_op op_add (pe_op op_add (pv 4) pe_int) (pe_ix ixS (pv 0) (pv 4) (fun _ _ => rfl))))
      (pss_one (ps_set (i := 5) sc_split_calls.nd rfl (Or.inl rfl) (pe_lst (pa_cons (pe_slice sl_list (pv 0) (po_some (pe_op op_add (pv 4) pe_int)) (po_some (pv 2))) pa_nil))))) (pss_one (ps_if (pt_cmpR op_in_seq (pv 3) (pe_gref T.g_TAKES_TWO_NUMBERS) rfl) (pss_cons (ps_set (i := 2) sc_split_calls.nd rfl (Or.inl rfl) (pe_op op_add (pv 4) pe_int))
      (pss_one (ps_set (i := 5) sc_split_calls.nd rfl (Or.inl rfl) (pe_slice sl_list (pv 0) (po_some (pv 4)) (po_some (pv 2)))))) (pss_one (ps_if (pt_cmpR op_in_seq (pv 3) (pe_gref T.g_TAKES_ONE_NUMBER) rfl) (pss_cons (ps_set (i := 2) sc_split_calls.nd rfl (Or.inl rfl) (pe_op op_add (pv 4) pe_int))
      (pss_one (ps_set (i := 5) sc_split_calls.nd rfl (Or.inl rfl) (pe_slice sl_list (pv 0) (po_some (pv 4)) (po_some (pv 2)))))) pss_nil)))))
      (pss_one (ps_expr (pe_bm PySem.F.plainAttrs_list PySem.F.slot_list_append PySem.F.type_list_append mt_append (pv 1) (pa_cons (pe_tup (pa_cons (pv 3) (pa_cons (pv 5) pa_nil))) pa_nil))))))))))
      (pss_one (ps_ret (pv 1)))))), ?_⟩
  obtain ⟨a, cs, rfl, hS, hcs, h80, k⟩ := h
  refine ⟨szl, fun r nr => ⟨fun m σ H' => ∃ i ts x y z, m = cs.length - i ∧ i ≤ cs.length ∧ σ = [some (.ref a), some (.ref r), some (.int (posC cs i : Nat)), x, y, z] ∧ H' r = some (.lst (ts.map V.ref)) ∧ CalL H H' r ts (cs.take i) ∧ Same H H',
    ⟨cs.length, 0, [], none, none, none, rfl, Nat.zero_le _, rfl, upd_same, ⟨rfl, fun i t c a _ => by simp at a⟩, Same.new nr⟩, ?_⟩⟩
  rintro m σ H' ⟨i, ts, x, y, z, em, hi, rfl, hr, cl, s⟩
  have hS' := s.seq hS
  refine ⟨_, rfl, _, rfl, a, _, rfl, hS', _, _, rfl, rfl, _, rfl, ?_⟩
  by_cases hl : i < cs.length
  · refine if_t (decide_eq_true (by have := (pos_lt hi).mpr hl; omega)) ?_
    obtain ⟨c, hc⟩ : ∃ c, cs[i]? = some c := ⟨_, List.getElem?_eq_getElem hl⟩
    obtain ⟨c1, c2⟩ := hcs c (List.mem_of_getElem? hc)
    refine ⟨fun σ' H2 => ∃ ts' x y z, σ' = [some (.ref a), some (.ref r), some (.int (posC cs (i + 1) : Nat)), x, y, z] ∧ H2 r = some (.lst (ts'.map V.ref)) ∧ CalL H H2 r ts' (cs.take (i + 1)) ∧ Same H H2, fun σ' H2 q => ?_, ?_⟩
    · obtain ⟨ts', x, y, z, e, q⟩ := q
      exact ⟨cs.length - (i + 1), by omega, i + 1, ts', x, y, z, rfl, hl, e, q⟩
    have h16 : (ts.map V.ref).length < sizeLine := by
      rw [List.length_map, cl.1, List.length_take]
      exact small1000 (by omega)
    refine ⟨_, rfl, _, rfl, a, _, _, _, rfl, rfl, hS', at_pos hc, ?_⟩
    refine ⟨_, rfl, _, _, rfl, rfl, _, rfl, szl, fun g0 ng0 => ?_⟩
    have s0 : Same H' (upd H' g0 (.lst [])) := Same.new ng0
    have e0 : ((posC cs i : Nat) : Int) + 1 = ((posC cs i + 1 : Nat) : Int) := by omega
    have g0r : g0 ≠ r := fun z => by rw [z, hr] at ng0; cases ng0
    dsimp only
    rw [e0]
    generalize hG : upd H' g0 (HO.lst []) = G at s0 ⊢
    have s01 := s.trans s0
    have hSG := s01.seq hS
    have hrG := s0 _ _ hr
    have clG : CalL H G r ts (cs.take i) := ⟨cl.1, fun j t' c' u v => by
      obtain ⟨g', e1, e2, e5, e3, e4⟩ := cl.2 j t' c' u v
      exact ⟨g', e1, e2, e5, s0 _ _ e3, s0 _ _ e4⟩⟩
    have hgG : G g0 = some (.lst []) := by rw [← hG, upd_same]
    refine ⟨_, rfl, gad K "TAKES_ONE_LIST", natL LST, rfl, .inr (T.t_TAKES_ONE_LIST _), rfl, natL_flat _, _, rfl, ?_⟩
    refine if_f (by rw [if_neg Bool.false_ne_true, inV_nat]; exact c1) ?_
    refine ⟨_, rfl, gad K "TAKES_TWO_NUMBERS", natL TWO, rfl, .inr (T.t_TAKES_TWO_NUMBERS _), rfl, natL_flat _, _, rfl, ?_⟩
    rw [if_neg Bool.false_ne_true, inV_nat]
    have pn := pos_next hc
    have cut := cut_pos hc
    have k2 : ∀ (g : Addr) (H2 : Hp), Same G H2 → H g = none → H2 g = some (.lst (natL c.2)) → g ≠ r → ∀ t, H2 t = none → ∃ ts' x' y' z', [some (V.ref a), some (V.ref r), some (V.int ((posC cs (i + 1) : Nat) : Int)), some (V.int (c.1 : Int)), some (V.int ((posC cs i + 1 : Nat) : Int)), some (V.ref g)] = [some (V.ref a), some (V.ref r), some (V.int ((posC cs (i + 1) : Nat) : Int)), x', y', z'] ∧ upd (upd H2 t (.tup [.int (c.1 : Int), .ref g])) r (.lst (ts.map V.ref ++ [.ref t])) r = some (.lst (ts'.map V.ref)) ∧ CalL H (upd (upd H2 t (.tup [.int (c.1 : Int), .ref g])) r (.lst (ts.map V.ref ++ [.ref t]))) r ts' (cs.take (i + 1)) ∧
      Same H (upd (upd H2 t (.tup [.int (c.1 : Int), .ref g])) r (.lst (ts.map V.ref ++ [.ref t]))) := fun g H2 s2 ng hg gr t nt => by
      obtain ⟨ts', u1, u2, u3⟩ := split_fin hc nr (s2 _ _ hrG) ⟨clG.1, fun j t' c' u v => by
        obtain ⟨g', e1, e2, e5, e3, e4⟩ := clG.2 j t' c' u v
        exact ⟨g', e1, e2, e5, s2 _ _ e3, s2 _ _ e4⟩⟩ (s01.trans s2) ng hg gr nt
      exact ⟨ts', _, _, _, rfl, u1, u2, u3⟩
    unfold takes at c2
    cases c3 : TWO.contains c.1 with
    | true =>
      rw [c3] at c2
      have c2 : 2 = c.2.length := c2
      refine iteT ?_
      refine ⟨_, rfl, _, _, rfl, rfl, ?_⟩
      refine ⟨_, rfl, _, rfl, _, rfl, _, rfl, _, rfl, _, _, rfl, hSG, fun g ng => ?_⟩
      have e1 : ((posC cs i + 1 : Nat) : Int) + 2 = ((posC cs i + 1 + c.2.length : Nat) : Int) := by omega
      dsimp only
      rw [e1, cut, ← pn]
      have gr : g ≠ r := fun z => by rw [z, hrG] at ng; cases ng
      have hr2 := (Same.new (o := .lst (natL c.2)) ng) _ _ hrG
      refine ⟨_, rfl, .inl ⟨rfl, _, SqL.of hr2⟩, _, rfl, _, rfl, szl, fun t nt => ⟨r, _, _, rfl, rfl, ?_, h16, ?_⟩⟩
      · exact (Same.new nt) _ _ hr2
      · exact k2 g _ (Same.new ng) (s01.free ng) upd_same gr t nt
    | false =>
      rw [c3] at c2
      refine iteF ?_
      refine ⟨_, rfl, gad K "TAKES_ONE_NUMBER", natL ONE, rfl, .inr (T.t_TAKES_ONE_NUMBER _), rfl, natL_flat _, _, rfl, ?_⟩
      rw [if_neg Bool.false_ne_true, inV_nat]
      cases c4 : ONE.contains c.1 with
      | true =>
        rw [c4] at c2
        have c2 : 1 = c.2.length := c2
        refine iteT ?_
        refine ⟨_, rfl, _, _, rfl, rfl, ?_⟩
        refine ⟨_, rfl, _, rfl, _, rfl, _, rfl, _, rfl, _, _, rfl, hSG, fun g ng => ?_⟩
        have e1 : ((posC cs i + 1 : Nat) : Int) + 1 = ((posC cs i + 1 + c.2.length : Nat) : Int) := by omega
        dsimp only
        rw [e1, cut, ← pn]
        have gr : g ≠ r := fun z => by rw [z, hrG] at ng; cases ng
        have hr2 := (Same.new (o := .lst (natL c.2)) ng) _ _ hrG
        refine ⟨_, rfl, .inl ⟨rfl, _, SqL.of hr2⟩, _, rfl, _, rfl, szl, fun t nt => ⟨r, _, _, rfl, rfl, ?_, h16, ?_⟩⟩
        · exact (Same.new nt) _ _ hr2
        · exact k2 g _ (Same.new ng) (s01.free ng) upd_same gr t nt
      | false =>
        rw [c4] at c2
        have c2 : 0 = c.2.length := c2
        have e2 : c.2 = [] := List.eq_nil_of_length_eq_zero c2.symm
        refine iteF ?_
        have e1 : posC cs i + 1 = posC cs (i + 1) := by omega
        refine ⟨_, rfl, .inl ⟨rfl, _, SqL.of hrG⟩, _, rfl, _, rfl, szl, fun t nt => ⟨r, _, _, rfl, rfl, ?_, h16, ?_⟩⟩
        · exact (Same.new nt) _ _ hrG
        · have z := k2 g0 G (Same.refl G) (s.free ng0) (by rw [e2]; exact hgG) g0r t nt
          rw [e1] at z ⊢
          exact z
  · refine if_f (decide_eq_false (by have := pos_lt (cs := cs) hi; omega)) ?_
    have ei : i = cs.length := by omega
    subst ei
    rw [List.take_length] at cl
    exact ⟨_, rfl, k H' r ts s nr hr cl⟩
end
end PW
set_option Elab.async false
set_option linter.all false
set_option maxRecDepth 100000
set_option maxHeartbeats 4000000
/-! The answers of one request. -/
namespace PW
open PySem PySem.Spec PyProof.Rows L2
open Kp417 (Monitor Policy Permit query single policyAt)
/-- all but the list r (and what isn't a list) is kept -/
theorem StR.put {K : PySem.W.Frag} {H G : Hp} {v : V} {st : Kp417.State} {fp : List Addr} {r : Addr} {acc : List Int} (h : StR K H v st fp) (o : OnesSt st) (hr : H r = some (.lst (acc.map V.int))) (hz : st ≠ none → ∃ z ∈ acc, z ≠ 1) (k : ∀ b u, b ≠ r → H b = some u → G b = some u) : StR K G v st fp := by
  have nl : ∀ b u, H b = some u → (∀ xs, u ≠ .lst xs) → G b = some u := fun b u e n => k b u (fun z => by
    subst z
    rw [hr] at e
    exact n _ (Option.some.inj e).symm) e
  -- a list that isn't r's
  have li : ∀ b xs, H b = some (.lst xs) → xs ≠ acc.map V.int → G b = some (.lst xs) := fun b xs e n => k b _ (fun z => by
    subst z
    rw [hr] at e
    exact n (HO.lst.inj (Option.some.inj e)).symm) e
  have refs : ∀ ps : List Addr, (∃ z ∈ acc, z ≠ 1) → ps.map V.ref ≠ acc.map V.int := fun ps ⟨z, hz, _⟩ e => by
    cases acc with
    | nil => cases hz
    | cons a l => cases ps with
      | nil => cases e
      | cons p q => exact absurd (List.cons.inj e).1 (fun z => by cases z)
  have nats : ∀ ws : List Nat, (∀ z ∈ ws, z = 1) → (∃ z ∈ acc, z ≠ 1) → natL ws ≠ acc.map V.int := fun ws hw ⟨z, hz, n1⟩ e => by
    have hm : V.int z ∈ acc.map V.int := List.mem_map_of_mem hz
    rw [← e] at hm
    obtain ⟨w, hw1, hw2⟩ := List.mem_map.mp hm
    have : (w : Int) = z := V.int.inj hw2
    exact n1 (by rw [← this, hw w hw1]; rfl)
  match st, h, o, hz with
  | none, h, _, _ => exact h
  | some none, h, _, hz =>
    have hz := hz (fun z => by cases z)
    obtain ⟨m, pa, e, r, f⟩ := h
    obtain ⟨dm, la, h1, h2, h3, n⟩ := r.ex
    exact ⟨m, pa, e, ⟨dm, la, nl _ _ h1 (fun _ z => by cases z), li _ _ h2 (refs [] hz), li _ _ h3 (refs [] hz), n⟩, f⟩
  | some (some h), hh, o, hz =>
    have hz := hz (fun z => by cases z)
    obtain ⟨m, sa, pa, e, r, g, f⟩ := hh
    obtain ⟨dm, la, dx, tw, pw, pv, ps, es, h1, h2, h3, h4, h5, h6, h7, h8, h9, n1, n2, n3⟩ := r.ex
    refine ⟨m, sa, pa, e, ⟨dm, la, dx, tw, pw, pv, ps, es, nl _ _ h1 (fun _ z => by cases z), nl _ _ h2 (fun _ z => by cases z), li _ _ h3 (nats _ o.1 hz), li _ _ h4 (nats _ o.2 hz), li _ _ h5 (refs _ hz), ⟨h6.1, fun i p q a b => ?_⟩, li _ _ h7 (refs _ hz), ⟨h8.1, fun i p q a b => nl _ _ (h8.2 i p q a b) (fun _ z => by cases z)⟩, ?_, n1, n2, n3⟩, g, f⟩
    · obtain ⟨d, e⟩ := h6.2 i p q a b
      exact ⟨d, nl _ _ e (fun _ z => by cases z)⟩
    · cases hp : h.permit with
      | none =>
        rw [hp] at h9
        exact h9
      | some p =>
        rw [hp] at h9
        obtain ⟨a, e1, e2⟩ := h9
        exact ⟨a, e1, nl _ _ e2 (fun _ z => by cases z)⟩
def rawC (c : Nat × List Nat) : List (List Int) := [(c.1 : Int) :: c.2.map fun (a : Nat) => (a : Int)]
def stC (cs : List (Nat × List Nat)) : Kp417.State := cs.foldl (fun s c => (Kp417Neutral.step s (rawC c)).1) Kp417.start
def accC (cs : List (Nat × List Nat)) : List Int := PyFlat.told (PyFlat.played Kp417Neutral.step Kp417Neutral.start (cs.map rawC))
theorem played_app {S : Type} (step : S → List (List Int) → S × List Int) : ∀ (l : List (List (List Int))) (s : S) (c : List (List Int)), PyFlat.played step s (l ++ [c]) = PyFlat.played step s l ++ [(step (l.foldl (fun s c => (step s c).1) s) c).2]
  | [], s, c => rfl
  | a :: l, s, c => by
    show (step s a).2 :: PyFlat.played step (step s a).1 (l ++ [c]) = _
    rw [played_app step l]
    rfl
theorem stC_next (cs : List (Nat × List Nat)) (c : Nat × List Nat) : stC (cs ++ [c]) = (Kp417Neutral.step (stC cs) (rawC c)).1 := by
  unfold stC
  rw [List.foldl_append]
  rfl
theorem accC_next (cs : List (Nat × List Nat)) (c : Nat × List Nat) : accC (cs ++ [c]) = accC cs ++ (((Kp417Neutral.step (stC cs) (rawC c)).2.length : Int) :: (Kp417Neutral.step (stC cs) (rawC c)).2) := by
  unfold accC
  rw [List.map_append, List.map_cons, List.map_nil, played_app]
  have e : (cs.map rawC).foldl (fun s c => (Kp417Neutral.step s c).1) Kp417Neutral.start = stC cs := by
    unfold stC
    rw [List.foldl_map]
    rfl
  rw [e]
  unfold PyFlat.told
  rw [List.flatMap_append]
  simp
theorem accC_le (cs : List (Nat × List Nat)) (i : Nat) : (accC (cs.take i)).length ≤ (accC cs).length := by
  have go : ∀ (xs ys : List (Nat × List Nat)), (accC xs).length ≤ (accC (xs ++ ys)).length := by
    intro xs ys
    induction ys generalizing xs with
    | nil => rw [List.append_nil]; exact Nat.le_refl _
    | cons y ys ih =>
      have z := ih (xs ++ [y])
      rw [List.append_assoc] at z
      refine Nat.le_trans ?_ z
      rw [accC_next, List.length_append]
      omega
  have := go (cs.take i) (cs.drop i)
  rwa [List.take_append_drop] at this
/-- the state and the answers so far, in the heap; H0: behind the split -/
structure Sof (K : PySem.W.Frag) (H0 H : Hp) (r : Addr) (v : V) (cs : List (Nat × List Nat)) : Prop where
  ex : ∃ fp, StR K H v (stC cs) fp ∧ (∀ b o, H0 b = some o → b ∉ fp) ∧ (∀ b o, b ≠ r → H0 b = some o → H b = some o)
  r : H r = some (.lst ((accC cs).map V.int))
  o : OnesSt (stC cs)
  z : stC cs ≠ none → ∃ z ∈ accC cs, z ≠ 1
theorem nstep {s : Kp417.State} {r : List (List Int)} {x : Kp417.Call} (h : Kp417Neutral.callOf r = some x) : Kp417Neutral.step s r = ((Kp417.step s x).1, (Kp417.step s x).2.num :: (Kp417.step s x).2.nums) := by
  unfold Kp417Neutral.step
  rw [h]
theorem sof_next {K : PySem.W.Frag} {H0 H1 : Hp} {r : Addr} {v' : V} {fp' : List Addr} {cs : List (Nat × List Nat)} {i : Nat} {c : Nat × List Nat} (hc : cs[i]? = some c) (ans : List Int) (ea : (Kp417Neutral.step (stC (cs.take i)) (rawC c)).2 = ans)
    (A : ∀ G : Hp, (∀ b u, b ≠ r → H1 b = some u → G b = some u) → StR K G v' (Kp417Neutral.step (stC (cs.take i)) (rawC c)).1 fp') (B : ∀ b o, H0 b = some o → b ∉ fp') (C : ∀ b o, b ≠ r → H0 b = some o → H1 b = some o)
    (o : OnesSt (Kp417Neutral.step (stC (cs.take i)) (rawC c)).1) (z : (Kp417Neutral.step (stC (cs.take i)) (rawC c)).1 ≠ none → ∃ z ∈ accC (cs.take i) ++ ((ans.length : Int) :: ans), z ≠ 1) :
    Sof K H0 (upd (upd H1 r (.lst ((accC (cs.take i)).map V.int ++ [.int ((ans.map V.int).length : Nat)]))) r (.lst (((accC (cs.take i)).map V.int ++ [.int ((ans.map V.int).length : Nat)]) ++ ans.map V.int))) r v' (cs.take (i + 1)) := by
  have kp : ∀ b u, b ≠ r → H1 b = some u → upd (upd H1 r (.lst ((accC (cs.take i)).map V.int ++ [.int ((ans.map V.int).length : Nat)]))) r (.lst (((accC (cs.take i)).map V.int ++ [.int ((ans.map V.int).length : Nat)]) ++ ans.map V.int)) b = some u := fun b u n e => by
    rw [upd_ne n, upd_ne n]
    exact e
  have es := stC_next (cs.take i) c
  have en := accC_next (cs.take i) c
  rw [← take_snoc hc] at es en
  rw [ea] at en
  rw [← es] at A o z
  rw [← en] at z
  refine ⟨⟨fp', A _ kp, B, fun b u n e => kp b u n (C b u n e)⟩, ?_, o, z⟩
  rw [upd_same, en, List.map_append, List.map_cons, List.length_map, List.append_assoc]
  rfl
section
variable {P : Program} {w : World} {K : PySem.W.Frag} {mg : Str → Option Value} {base : Heap}
def sp_answers (P : Program) (w : World) (mg : Str → Option Value) (base : Heap) (K : PySem.W.Frag) : Sp := fun vs H Q E =>
  ∃ (a : Addr) (cs : List (Nat × List Nat)), vs = [.ref a] ∧ SqL K H a (natL (flatC cs)) ∧ cs.length ≤ 80 ∧ (∀ c ∈ cs, c = (0, []) ∨ Lk P w K mg base c.1 c.2) ∧ (accC cs).length ≤ 10000000 ∧
    ∀ H' p, H' p = some (.lst ((accC cs).map V.int)) → Q (.ref p) H'
theorem fn_answers (T : Tx K mg) (D : Tk K mg) {f : Addr} {fd : FuncData} (F : Fun K "answers" "answers" s_answers f fd) : FnOk P w K mg base CX0 23 f fd ["calls"] (sp_answers P w mg base K) := by
  refine F.ok sc_answers (fun vs H Q E h => ?_) (fun cdv A outer s H vs Q E hr h => ?_)
  · obtain ⟨_, _, rfl, _⟩ := h; rfl
  refine ⟨_, (pss_cons (ps_set (i := 1) sc_answers.nd rfl (Or.inl rfl) pe_non)
      (pss_cons (ps_set (i := 2) sc_answers.nd rfl (Or.inl rfl) (pe_lst pa_nil))
      (pss_cons (ps_for PassesOwn.never rfl (pi_list (pe_cal (ok_split_calls T) (hr.mono (by decide)) pass0 (pa_cons (pv 0) pa_nil))) (pg_tup rfl (pgs_cons (pg_name (i := 3) sc_answers.nd rfl (Or.inl rfl)) (pgs_cons (pg_name (i := 4) sc_answers.nd rfl (Or.inl rfl)) pgs_nil))) (pss_cons (ps_if (pt_cmpR eqI (pv 3) (pe_gint T.i_RESET) (nomark _)) (pss_cons (ps_set (i := 1) sc_answers.nd rfl (Or.inl rfl) (pe_mk0 (mk_Monitor T) (hr.mono (by decide))))
      (pss_one (ps_set (i := 5) sc_answers.nd rfl (Or.inl rfl) (pe_lst (pa_cons pe_int pa_nil))))) (pss_one (ps_set (i := 5) sc_answers.nd rfl (Or.inl rfl) (pe_cal (ok_answer_of T D) (hr.mono (by decide)) pass0 (pa_cons (pv 1) (pa_cons (pv 3) (pa_cons (pv 4) pa_nil)))))))
      (pss_cons (ps_expr (pe_bm PySem.F.plainAttrs_list PySem.F.slot_list_append PySem.F.type_list_append mt_append (pv 2) (pa_cons (pe_callB lenL (by rfl) T.n_len bt_len (pa_cons (pv 5) pa_nil)) pa_nil)))
      (pss_one (ps_expr (pe_bm PySem.F.plainAttrs_list PySem.F.slot_list_extend PySem.F.type_list_extend mt_extend (pv 2) (pa_cons (pv 5) pa_nil)))))))
      (pss_one (ps_ret (pv 2)))))), ?_⟩
  obtain ⟨a, cs, rfl, hS, h80, hcs, hlen, k⟩ := h
  refine ⟨szl, fun r nr => ?_⟩
  have s1 := Same.new (o := .lst []) nr
  have hr0 : upd H r (.lst []) r = some (.lst []) := upd_same
  refine ⟨_, rfl, a, cs, rfl, s1.seq hS, fun c hc => ?_, h80, fun H0 lc ts s0 nlc hlc cl => ?_⟩
  · rcases hcs c hc with e | l
    · rw [e]; exact ⟨rfl, rfl⟩
    · exact ⟨l.nl, l.tk⟩
  have lr : lc ≠ r := fun z => by rw [z, hr0] at nlc; cases nlc
  refine ⟨lc, rfl, ⟨_, SqL.of hlc⟩, for_list (K := K) (a := lc) (xs := ts.map V.ref) (fun i σ H' => ∃ v x y z, σ = [some (.ref a), some v, some (.ref r), x, y, z] ∧ Sof K H0 H' r v (cs.take i))
    ⟨.non, none, none, none, rfl, ⟨[], ⟨rfl, rfl⟩, (fun _ _ _ z => by cases z), fun b o _ e => e⟩, s0 _ _ hr0, trivial, fun z => absurd rfl z⟩ (fun i σ H' _ ⟨v, x, y, z, _, S⟩ => by
      obtain ⟨fp, _, _, kp⟩ := S.ex
      exact SqL.of (kp _ _ lr hlc)) ?_ ?_⟩
  · rintro i y σ H' hi ⟨v, x1, x2, x3, rfl, S⟩
    rw [List.getElem?_map] at hi
    obtain ⟨t, ht, rfl⟩ := Option.map_eq_some_iff.mp hi
    have hil : i < cs.length := by rw [← cl.1]; exact (List.getElem?_eq_some_iff.mp ht).1
    obtain ⟨c, hc⟩ : ∃ c, cs[i]? = some c := ⟨_, List.getElem?_eq_getElem hil⟩
    obtain ⟨g, nt, ng, _, e1, e2⟩ := cl.2 i t c ht hc
    have tr : t ≠ r := fun z => by rw [z, hr0] at nt; cases nt
    have gr : g ≠ r := fun z => by rw [z, hr0] at ng; cases ng
    obtain ⟨fp, R, nfp, kp⟩ := S.ex
    have rfp : r ∉ fp := nfp _ _ (s0 _ _ hr0)
    have ht' := kp _ _ tr e1
    have hg' := kp _ _ gr e2
    have hle : (accC (cs.take (i + 1))).length ≤ 10000000 := Nat.le_trans (accC_le cs (i + 1)) hlen
    have en := accC_next (cs.take i) c
    rw [← take_snoc hc] at en
    refine ⟨_, _, rfl, SqT.of ht', rfl, _, _, rfl, _, _, rfl, rfl, ?_⟩
    refine ⟨_, rfl, _, _, rfl, rfl, _, rfl, ?_⟩
    rcases hcs c (List.mem_of_getElem? hc) with ec | lk
    · subst ec
      have est : Kp417Neutral.step (stC (cs.take i)) (rawC (0, [])) = (some none, [0]) := by
        have q : Kp417.step (stC (cs.take i)) .reset = (some none, single 0) := by
          cases stC (cs.take i) <;> rfl
        rw [nstep (x := .reset) rfl, q]
        rfl
      refine iteT ?_
      refine fun x dx nx nd ne => ⟨x, dx, rfl, upd_same, fun H1 pa la kpx fpa fla n1 e1 e2 e3 => ⟨rfl, ?_⟩⟩
      have sm := made_same nx nd kpx
      refine ⟨szl, fun p np => ?_⟩
      have sp := Same.new (o := .lst [V.int 0]) np
      have s2 := sm.trans sp
      have hr2 := s2 _ _ S.r
      have pr : p ≠ r := fun z => by
        rw [z, sm _ _ S.r] at np
        cases np
      have old : ∀ {b : Addr} {o : HO}, H' b = some o → b ≠ x ∧ b ≠ pa ∧ b ≠ la := fun {b o} e => by
        have hx : b ≠ x := ne_of_none e nx
        have e' : upd (upd H' dx (.own x)) x (.ins (gad K "Monitor") dx []) b = some o := by
          rw [upd_ne hx, upd_ne (ne_of_none e nd)]
          exact e
        exact ⟨hx, ne_of_none e' fpa, ne_of_none e' fla⟩
      obtain ⟨rx, rp, rl⟩ := old S.r
      rw [est] at en
      have en2 := congrArg List.length en
      rw [List.length_append] at en2
      have hA : (accC (cs.take i)).length + 2 ≤ 10000000 := by
        simp at en2
        omega
      refine ⟨_, rfl, .inl ⟨rfl, _, SqL.of hr2⟩, _, rfl, p, _, rfl, upd_same, r, _, _, rfl, rfl, hr2, ?_, ?_⟩
      · rw [List.length_map, sizeLine_eq]
        omega
      have hp3 : upd (upd H1 p (.lst [V.int 0])) r (.lst ((accC (cs.take i)).map V.int ++ [.int (([0] : List Int).map V.int).length])) p = some (.lst (([0] : List Int).map V.int)) := by
        rw [upd_ne pr, upd_same]
        rfl
      refine ⟨_, rfl, .inl ⟨rfl, _, SqL.of upd_same⟩, _, rfl, r, p, _, _, rfl, rfl, upd_same, hp3, ?_, ?_⟩
      · rw [List.length_append, List.length_map, sizeLine_eq]
        show (accC (cs.take i)).length + 1 + 1 ≤ 16777216
        omega
      refine ⟨_, _, _, _, rfl, ?_⟩
      refine sof_next (fp' := [x, pa]) hc [0] (by rw [est]) (fun G kG => ?_) (fun b o e => ?_) (fun b o n e => s2 _ _ (kp b o n e)) (by rw [est]; trivial) (fun _ => ⟨0, by simp, by decide⟩)
      · rw [est]
        exact ⟨x, pa, rfl, ⟨dx, la, kG _ _ (Ne.symm rx) (sp _ _ e1), kG _ _ (Ne.symm rp) (sp _ _ e2), kG _ _ (Ne.symm rl) (sp _ _ e3), n1⟩, rfl⟩
      · by_cases br : b = r
        · subst br
          simp only [List.mem_cons, List.not_mem_nil, or_false, not_or]
          exact ⟨rx, rp⟩
        · obtain ⟨bx, bp, _⟩ := old (kp b o br e)
          simp only [List.mem_cons, List.not_mem_nil, or_false, not_or]
          exact ⟨bx, bp⟩
    · obtain ⟨c0, nm, hc0, _, _, pl, nrst, _⟩ := lk.ex
      have est : Kp417Neutral.step (stC (cs.take i)) (rawC c) = ((Kp417.step (stC (cs.take i)) c0).1, (Kp417.step (stC (cs.take i)) c0).2.num :: (Kp417.step (stC (cs.take i)) c0).2.nums) := nstep hc0
      have nz := lk.nz
      refine if_f (by show decide ((c.1 : Int) = 0) = false; exact decide_eq_false (by omega)) ?_
      refine ⟨_, rfl, _, rfl, _, rfl, v, stC (cs.take i), fp, c.1, g, c.2, c0, rfl, R, hg', lk, hc0, fun p H1 fp' fr R' np ep => ?_⟩
      have hr2 := fr.1 _ _ S.r rfp
      have pr : p ≠ r := fun z => by
        rw [z, S.r] at np
        cases np
      have o' := ones_step (stC (cs.take i)) c0 pl S.o
      have z' : (Kp417.step (stC (cs.take i)) c0).1 ≠ none → ∃ z ∈ accC (cs.take i), z ≠ 1 := fun h => S.z fun q => by
        rw [q] at h
        exact h (by cases c0 <;> first | rfl | exact absurd rfl nrst)
      rw [est] at en
      generalize hans : (Kp417.step (stC (cs.take i)) c0).2.num :: (Kp417.step (stC (cs.take i)) c0).2.nums = ans at *
      have en2 := congrArg List.length en
      rw [List.length_append, List.length_cons] at en2
      dsimp only at en2
      have hA : (accC (cs.take i)).length + (ans.length + 1) ≤ 10000000 := by omega
      refine ⟨_, rfl, .inl ⟨rfl, _, SqL.of hr2⟩, _, rfl, p, _, rfl, ep, r, _, _, rfl, rfl, hr2, ?_, ?_⟩
      · rw [List.length_map, sizeLine_eq]
        omega
      have hp3 : upd H1 r (.lst ((accC (cs.take i)).map V.int ++ [.int ((ans.map V.int).length : Nat)])) p = some (.lst (ans.map V.int)) := by
        rw [upd_ne pr]
        exact ep
      refine ⟨_, rfl, .inl ⟨rfl, _, SqL.of upd_same⟩, _, rfl, r, p, _, _, rfl, rfl, upd_same, hp3, ?_, ?_⟩
      · rw [List.length_append, List.length_map, List.length_map, sizeLine_eq]
        show (accC (cs.take i)).length + 1 + ans.length ≤ 16777216
        omega
      refine ⟨_, _, _, _, rfl, ?_⟩
      refine sof_next (fp' := fp') hc ans (by rw [est]) (fun G kG => ?_) (fun b o e => ?_) (fun b o n e => fr.1 _ _ (kp b o n e) (nfp b o e)) (by rw [est]; exact o') (fun h => ?_)
      · rw [est]
        by_cases q : (Kp417.step (stC (cs.take i)) c0).1 = none
        · rw [q] at R' ⊢
          exact R'
        · exact R'.put o' hr2 z' kG
      · intro hb
        rcases fr.2 b hb with q | q
        · exact nfp b o e q
        · by_cases br : b = r
          · rw [br, S.r] at q
            cases q
          · rw [kp b o br e] at q
            cases q
      · rw [est] at h
        obtain ⟨z, hz, n1⟩ := z' h
        exact ⟨z, List.mem_append_left _ hz, n1⟩
  · rintro σ H' ⟨v, x, y, z, rfl, S⟩
    have hr := S.r
    rw [List.length_map, cl.1, List.take_length] at hr
    exact ⟨_, rfl, k H' r hr⟩
end
end PW
set_option Elab.async false
set_option linter.all false
set_option maxRecDepth 100000
set_option maxHeartbeats 4000000
/-! What is asked: calls without a list. -/
namespace PW
open PySem PySem.Spec PyProof.Rows L2
def KnC (c : Nat × List Nat) : Prop := c.1 < 44 ∧ LST.contains c.1 = false ∧ takes c.1 = c.2.length
theorem shape_none {p : Int} (h : ¬ (0 ≤ p ∧ p < 44)) : PyKp417.shape p = none := by
  have ne : ∀ k : Int, 0 ≤ k → k < 44 → p ≠ k := fun k a b e => h (by omega)
  unfold PyKp417.shape
  repeat rw [if_neg (ne _ (by decide) (by decide))]
theorem shape_some : ∀ m < 44, PyKp417.shape ((m : Nat) : Int) = some (if LST.contains m then (0, 1) else (takes m, 0)) := by decide +kernel
theorem lst_is : ∀ m < 44, LST.contains m = true → m = 25 ∨ m = 26 ∨ m = 38 ∨ m = 39 := by decide +kernel
theorem nat_of {x : Int} (h : Kp417Neutral.natural x = true) : ∃ a : Nat, x = (a : Int) := by
  unfold Kp417Neutral.natural at h
  simp only [Bool.and_eq_true, decide_eq_true_eq] at h
  exact ⟨x.toNat, by omega⟩
theorem list_no (m : Nat) (hm : m < 44) (hl : LST.contains m = true) (r : List Int) : Kp417Neutral.asked1 (PyKp417.whole [[(m : Int)], r]) = false := by
  rcases lst_is m hm hl with e | e | e | e <;> subst e <;> rfl
theorem whole0 : ∀ m < 44, takes m = 0 → LST.contains m = false → PyKp417.whole [[((m : Nat) : Int)]] = [[(m : Int)]] := by decide +kernel
theorem mem1 : ∀ m < 44, takes m = 1 → m = 2 ∨ m = 3 ∨ m = 4 ∨ m = 6 ∨ m = 10 ∨ m = 12 ∨ m = 15 ∨ m = 24 ∨ m = 30 ∨ m = 36 := by decide +kernel
theorem mem2 : ∀ m < 44, takes m = 2 → m = 1 ∨ m = 5 ∨ m = 16 ∨ m = 17 ∨ m = 18 ∨ m = 19 ∨ m = 22 ∨ m = 27 ∨ m = 28 ∨ m = 29 ∨ m = 41 ∨ m = 42 := by decide +kernel
theorem takes_le : ∀ m, takes m ≤ 2 := fun m => by
  unfold takes
  repeat' split
  all_goals decide
theorem whole1 (m : Nat) (hm : m < 44) (ht : takes m = 1) (x : Int) : PyKp417.whole [[(m : Int), x]] = [[(m : Int), x]] ∧ Kp417Neutral.asked1 [[(m : Int), x]] = Kp417Neutral.natural x := by
  rcases mem1 m hm ht with e | e | e | e | e | e | e | e | e | e <;> subst e <;> exact ⟨rfl, rfl⟩
theorem whole2 (m : Nat) (hm : m < 44) (ht : takes m = 2) (x y : Int) : PyKp417.whole [[(m : Int), x, y]] = [[(m : Int), x, y]] ∧ Kp417Neutral.asked1 [[(m : Int), x, y]] = (Kp417Neutral.natural x && Kp417Neutral.natural y) := by
  rcases mem2 m hm ht with e | e | e | e | e | e | e | e | e | e | e | e <;> subst e <;> exact ⟨rfl, rfl⟩
theorem one_call (m : Nat) (hm : m < 44) (hl : LST.contains m = false) (args : List Int) (ha : args.length = takes m) (h : Kp417Neutral.asked1 (PyKp417.whole [(m : Int) :: args]) = true) :
    ∃ c : Nat × List Nat, PyKp417.whole [(m : Int) :: args] = rawC c ∧ ((m : Int) :: args) = (c.1 :: c.2).map (fun (a : Nat) => (a : Int)) ∧ KnC c := by
  match args, ha with
  | [], ha => exact ⟨(m, []), whole0 m hm ha.symm hl, rfl, hm, hl, ha.symm⟩
  | [x], ha =>
    obtain ⟨e1, e2⟩ := whole1 m hm ha.symm x
    rw [e1, e2] at h
    obtain ⟨a, rfl⟩ := nat_of h
    exact ⟨(m, [a]), e1, rfl, hm, hl, ha.symm⟩
  | [x, y], ha =>
    obtain ⟨e1, e2⟩ := whole2 m hm ha.symm x y
    rw [e1, e2, Bool.and_eq_true] at h
    obtain ⟨a, rfl⟩ := nat_of h.1
    obtain ⟨b, rfl⟩ := nat_of h.2
    exact ⟨(m, [a, b]), e1, rfl, hm, hl, ha.symm⟩
  | x :: y :: z :: r, ha =>
    have := takes_le m
    simp at ha
    omega
theorem calls_split : ∀ (f : Nat) (l : List Int) (raw : List (List (List Int))), PyFlat.calls PyKp417.shape f l = some raw → (∀ c ∈ raw, Kp417Neutral.asked1 (PyKp417.whole c) = true) →
    ∃ cs : List (Nat × List Nat), raw.map PyKp417.whole = cs.map rawC ∧ l = (flatC cs).map (fun (a : Nat) => (a : Int)) ∧ ∀ c ∈ cs, KnC c := by
  intro f
  induction f with
  | zero =>
    intro l raw h _
    cases l with
    | nil =>
      obtain rfl : [] = raw := Option.some.inj h
      exact ⟨[], rfl, rfl, fun c hc => by cases hc⟩
    | cons p r => cases h
  | succ f ih =>
    intro l raw h ha
    cases l with
    | nil =>
      obtain rfl : [] = raw := Option.some.inj h
      exact ⟨[], rfl, rfl, fun c hc => by cases hc⟩
    | cons p r =>
      unfold PyFlat.calls at h
      cases hc : PyFlat.call PyKp417.shape (p :: r) with
      | none => rw [hc] at h; cases h
      | some ct =>
        obtain ⟨c, t⟩ := ct
        rw [hc] at h
        dsimp only at h
        cases hr : PyFlat.calls PyKp417.shape f t with
        | none => rw [hr] at h; cases h
        | some cs =>
          rw [hr] at h
          obtain rfl : c :: cs = raw := Option.some.inj h
          have hac := ha c (List.mem_cons_self ..)
          obtain ⟨ds, d1, d2, d3⟩ := ih t cs hr (fun x hx => ha x (List.mem_cons_of_mem _ hx))
          unfold PyFlat.call at hc
          dsimp only at hc
          by_cases hp : 0 ≤ p ∧ p < 44
          · obtain ⟨m, rfl⟩ : ∃ m : Nat, p = (m : Int) := ⟨p.toNat, by omega⟩
            have hm : m < 44 := by omega
            rw [shape_some m hm] at hc
            cases hl : LST.contains m with
            | true =>
              exfalso
              rw [hl, if_pos rfl] at hc
              dsimp only at hc
              rw [if_neg (Nat.not_lt_zero _)] at hc
              cases hq : PyFlat.rows 1 (r.drop 0) with
              | none => rw [hq] at hc; cases hc
              | some xt =>
                obtain ⟨xs, u⟩ := xt
                rw [hq] at hc
                have ec := congrArg Prod.fst (Option.some.inj hc)
                dsimp only at ec
                have hxs : ∃ x, xs = [x] := by
                  unfold PyFlat.rows at hq
                  cases hw : PyFlat.row (r.drop 0) with
                  | none => rw [hw] at hq; cases hq
                  | some yt =>
                    obtain ⟨y, t'⟩ := yt
                    rw [hw] at hq
                    have e := congrArg Prod.fst (Option.some.inj hq)
                    exact ⟨y, e.symm⟩
                obtain ⟨x, rfl⟩ := hxs
                rw [← ec] at hac
                have z := list_no m hm hl x
                have e0 : ((m : Int) :: r.take 0) = [(m : Int)] := rfl
                rw [e0, z] at hac
                cases hac
            | false =>
              rw [hl, if_neg Bool.false_ne_true] at hc
              dsimp only at hc
              by_cases hlt : r.length < takes m
              · rw [if_pos hlt] at hc; cases hc
              · rw [if_neg hlt] at hc
                have e := Option.some.inj hc
                have ec := congrArg Prod.fst e
                have et := congrArg Prod.snd e
                dsimp only at ec et
                rw [← ec] at hac
                obtain ⟨c', u1, u2, u3⟩ := one_call m hm hl (r.take (takes m)) (by rw [List.length_take]; omega) hac
                refine ⟨c' :: ds, ?_, ?_, fun x hx => ?_⟩
                · rw [List.map_cons, List.map_cons, ← ec, u1, d1]
                · have e3 : ((m : Int) :: r) = ((m : Int) :: r.take (takes m)) ++ r.drop (takes m) := by rw [List.cons_append, List.take_append_drop]
                  rw [e3, et, d2, u2, ← List.map_append]
                  rfl
                · rcases List.mem_cons.mp hx with z | z
                  · rw [z]; exact u3
                  · exact d3 x z
          · rw [shape_none hp] at hc
            cases hc
theorem asked_split {l : List Int} (h : PyKp417.answers_asked l = true) : ∃ cs : List (Nat × List Nat), l = (flatC cs).map (fun (a : Nat) => (a : Int)) ∧ cs.length ≤ 80 ∧ (∀ c ∈ cs, KnC c) ∧ (accC cs).length ≤ 10000000 ∧ PyKp417.answers l = accC cs := by
  unfold PyKp417.answers_asked at h
  cases hc : PyFlat.calls PyKp417.shape l.length l with
  | none => rw [hc] at h; cases h
  | some raw =>
    rw [hc] at h
    dsimp only at h
    simp only [Bool.and_eq_true] at h
    obtain ⟨⟨⟨⟨_, h80⟩, _⟩, hask⟩, hsh⟩ := h
    unfold Kp417Neutral.asked at hask
    simp only [Bool.and_eq_true] at hask
    have hall := hask.2.2
    rw [List.all_map, List.all_eq_true] at hall
    obtain ⟨cs, e1, e2, e3⟩ := calls_split _ _ _ hc hall
    have ea : PyKp417.answers l = accC cs := by
      unfold PyKp417.answers PyKp417.calls
      rw [hc]
      show PyFlat.told (PyFlat.played Kp417Neutral.step Kp417Neutral.start (raw.map PyKp417.whole)) = _
      rw [e1]
      rfl
    refine ⟨cs, e2, ?_, e3, ?_, ea⟩
    · have z := congrArg List.length e1
      rw [List.length_map, List.length_map] at z
      rw [← z]
      exact of_decide_eq_true h80
    · rw [← ea]
      exact of_decide_eq_true hsh
/-! ### each of these calls keeps its promise -/
section
variable {P : Program} {w : World} {K : PySem.W.Frag} {mg : Str → Option Value} {base : Heap}
theorem ids : ∀ m < 44, LST.contains m = false → m = 0 ∨ m ∈ ([1, 2, 3, 4, 5, 6, 7, 8, 9, 10, 11, 12, 13, 14, 15, 16, 17, 18, 19, 20, 21, 22, 23, 24, 27, 28, 29, 30, 31, 32, 33, 34, 35, 36, 37, 40, 41, 42, 43] : List Nat) := by decide +kernel
theorem lk_all (T : Tx K mg) {c : Nat × List Nat} (h : KnC c) : c = (0, []) ∨ Lk P w K mg base c.1 c.2 := by
  obtain ⟨n, args⟩ := c
  obtain ⟨h1, h2, h3⟩ := h
  dsimp only at h1 h2 h3 ⊢
  have n0 : ∀ k, takes n = k → args.length = k := fun k e => by rw [← h3, e]
  have a0 : args.length = 0 → args = [] := List.eq_nil_of_length_eq_zero
  have a1 : args.length = 1 → ∃ a, args = [a] := fun e => List.length_eq_one_iff.mp e
  have a2 : args.length = 2 → ∃ a b, args = [a, b] := fun e => match args, e with
    | [a, b], _ => ⟨a, b, rfl⟩
  rcases ids n h1 h2 with e | e
  · subst e
    rw [a0 (n0 0 rfl)]
    exact .inl rfl
  · refine .inr ?_
    simp only [List.mem_cons, List.not_mem_nil, or_false] at e
    rcases e with e | e | e | e | e | e | e | e | e | e | e | e | e | e | e | e | e | e | e | e | e | e | e | e | e | e | e | e | e | e | e | e | e | e | e | e | e | e | e
    · subst e; obtain ⟨a, b, rfl⟩ := a2 (n0 2 rfl); exact lk_1 T a b
    · subst e; obtain ⟨a, rfl⟩ := a1 (n0 1 rfl); exact lk_2 T a
    · subst e; obtain ⟨a, rfl⟩ := a1 (n0 1 rfl); exact lk_3 T a
    · subst e; obtain ⟨a, rfl⟩ := a1 (n0 1 rfl); exact lk_4 T a
    · subst e; obtain ⟨a, b, rfl⟩ := a2 (n0 2 rfl); exact lk_5 T a b
    · subst e; obtain ⟨a, rfl⟩ := a1 (n0 1 rfl); exact lk_6 T a
    · subst e; rw [a0 (n0 0 rfl)]; exact lk_7 T
    · subst e; rw [a0 (n0 0 rfl)]; exact lk_8 T
    · subst e; rw [a0 (n0 0 rfl)]; exact lk_9 T
    · subst e; obtain ⟨a, rfl⟩ := a1 (n0 1 rfl); exact lk_10 T a
    · subst e; rw [a0 (n0 0 rfl)]; exact lk_11 T
    · subst e; obtain ⟨a, rfl⟩ := a1 (n0 1 rfl); exact lk_12 T a
    · subst e; rw [a0 (n0 0 rfl)]; exact lk_13 T
    · subst e; rw [a0 (n0 0 rfl)]; exact lk_14 T
    · subst e; obtain ⟨a, rfl⟩ := a1 (n0 1 rfl); exact lk_15 T a
    · subst e; obtain ⟨a, b, rfl⟩ := a2 (n0 2 rfl); exact lk_16 T a b
    · subst e; obtain ⟨a, b, rfl⟩ := a2 (n0 2 rfl); exact lk_17 T a b
    · subst e; obtain ⟨a, b, rfl⟩ := a2 (n0 2 rfl); exact lk_18 T a b
    · subst e; obtain ⟨a, b, rfl⟩ := a2 (n0 2 rfl); exact lk_19 T a b
    · subst e; rw [a0 (n0 0 rfl)]; exact lk_20 T
    · subst e; rw [a0 (n0 0 rfl)]; exact lk_21 T
    · subst e; obtain ⟨a, b, rfl⟩ := a2 (n0 2 rfl); exact lk_22 T a b
    · subst e; rw [a0 (n0 0 rfl)]; exact lk_23 T
    · subst e; obtain ⟨a, rfl⟩ := a1 (n0 1 rfl); exact lk_24 T a
    · subst e; obtain ⟨a, b, rfl⟩ := a2 (n0 2 rfl); exact lk_27 T a b
    · subst e; obtain ⟨a, b, rfl⟩ := a2 (n0 2 rfl); exact lk_28 T a b
    · subst e; obtain ⟨a, b, rfl⟩ := a2 (n0 2 rfl); exact lk_29 T a b
    · subst e; obtain ⟨a, rfl⟩ := a1 (n0 1 rfl); exact lk_30 T a
    · subst e; rw [a0 (n0 0 rfl)]; exact lk_31 T
    · subst e; rw [a0 (n0 0 rfl)]; exact lk_32 T
    · subst e; rw [a0 (n0 0 rfl)]; exact lk_33 T
    · subst e; rw [a0 (n0 0 rfl)]; exact lk_34 T
    · subst e; rw [a0 (n0 0 rfl)]; exact lk_35 T
    · subst e; obtain ⟨a, rfl⟩ := a1 (n0 1 rfl); exact lk_36 T a
    · subst e; rw [a0 (n0 0 rfl)]; exact lk_37 T
    · subst e; rw [a0 (n0 0 rfl)]; exact lk_40 T
    · subst e; obtain ⟨a, b, rfl⟩ := a2 (n0 2 rfl); exact lk_41 T a b
    · subst e; obtain ⟨a, b, rfl⟩ := a2 (n0 2 rfl); exact lk_42 T a b
    · subst e; rw [a0 (n0 0 rfl)]; exact lk_43 T
end
end PW
set_option Elab.async false
set_option linter.all false
set_option maxRecDepth 100000
set_option maxHeartbeats 4000000
/-! What the head's facts say: Tx, Tk. Written by tools/genhead3.py. -/
namespace PW.Hd
open PySem PySem.Spec PyProof.Rows L2 PySem.RefX
section
variable {K : PySem.W.Frag} {h : Heap} {mg : Str → Option Value}
theorem Says.gl (S : Says K) (X : K.In h) (G : h.Ns mainGlobals mg) (j : Nat) {p : Str × Addr} (hp : PW.Hd.gl[j]? = some p) : mg p.1 = some (.ref p.2) := by
  obtain ⟨c, _⟩ := He.ba S.2
  exact PySem.W.mg_of X G (He.eqO_ok (List.all_eq_true.mp c p (List.mem_of_getElem? hp)))
theorem Says.ini (S : Says K) (j : Nat) {p : Str × Addr} (hp : inis[j]? = some p) : He.ma K (He.ga K p.1) "__init__" = p.2 := by
  obtain ⟨_, c⟩ := He.ba S.2
  obtain ⟨c, _⟩ := He.ba c
  exact of_decide_eq_true (List.all_eq_true.mp c p (List.mem_of_getElem? hp))
theorem Says.fa (S : Says K) (i : Nat) {f : He.Fa} (hf : PW.Hd.fa[i]? = some f) : f.ok K = true := by
  obtain ⟨_, c⟩ := He.ba S.2
  obtain ⟨_, c⟩ := He.ba c
  obtain ⟨c, _⟩ := He.ba c
  exact List.all_eq_true.mp c f (List.mem_of_getElem? hf)
theorem Says.ex (S : Says K) : PW.Hd.ex K = true := by
  obtain ⟨_, c⟩ := He.ba S.2
  obtain ⟨_, c⟩ := He.ba c
  exact (He.ba c).2
theorem Says.df (S : Says K) (X : K.In h) (G : h.Ns mainGlobals mg) (i j : Nat) (d : FA) (hd : fn[i]? = some d) (hg : PW.Hd.gl[j]? = some (d.name, d.at_)) (q : d.qual = d.name) : Df K mg d.name d.st := by
  obtain ⟨fd, F⟩ := S.1 d (List.mem_of_getElem? hd)
  rw [q] at F
  exact ⟨d.at_, fd, F, S.gl X G j hg⟩
theorem Says.dfm (S : Says K) (X : K.In h) (G : h.Ns mainGlobals mg) (i j a b : Nat) (x : Str) (d : FA) (hd : fn[i]? = some d) (hn : d.name = "__init__") (hi : inis[j]? = some (x, d.at_)) (hg : PW.Hd.fa[a]? = some (.glo x)) (hm : PW.Hd.fa[b]? = some (.mkr x)) : DfM K mg x d.qual d.st := by
  obtain ⟨fd, F⟩ := S.1 d (List.mem_of_getElem? hd)
  rw [hn] at F
  have e : He.ma K (He.ga K x) "__init__" = d.at_ := S.ini j hi
  have m := He.mkr_ok (S.fa b hm)
  rw [e] at m
  exact ⟨d.at_, fd, F, He.glo_ok X G (S.fa a hg), m⟩
theorem Says.sub (S : Says K) (X : K.In h) (G : h.Ns mainGlobals mg) (i j a : Nat) (x : Str) (d : FA) (n : Nat) {p1 q1 q2 q3 q4 q5 q6 q7 : Pos} (hs : x ∈ subs) (hd : fn[i]? = some d) (hn : d.name = "__init__") (hi : inis[j]? = some (x, d.at_)) (hg : PW.Hd.fa[a]? = some (.glo x))
    (e1 : defArgs d.st = jA p1) (e2 : defBody d.st = jB n q1 q2 q3 q4 q5 q6 q7) (e3 : defScope d.st = jS) (J : JOk n q1 q2 q3 q4 q5 q6 q7) : SubTxt K mg (gad K "Refusal") x n (gad K x) (He.ma K (gad K x) "__init__") := by
  obtain ⟨fd, F⟩ := S.1 d (List.mem_of_getElem? hd)
  obtain ⟨oc, od, kV, doc, pm, an, cdv, ct, osl, rfl, lk, cd⟩ := F.ex
  rw [hn, e1, e2, e3] at lk
  have e : He.ma K (He.ga K x) "__init__" = d.at_ := S.ini j hi
  rw [← e] at lk
  have c : subB K x = true := List.all_eq_true.mp (He.ba (He.ba S.ex).2).1 x hs
  obtain ⟨c1, c⟩ := He.ba c
  obtain ⟨c2, c⟩ := He.ba c
  obtain ⟨c3, c⟩ := He.ba c
  obtain ⟨c4, c⟩ := He.ba c
  obtain ⟨c5, c⟩ := He.ba c
  obtain ⟨c6, c⟩ := He.ba c
  obtain ⟨c7, c⟩ := He.ba c
  obtain ⟨c8, c⟩ := He.ba c
  obtain ⟨c9, c⟩ := He.ba c
  obtain ⟨c10, c⟩ := He.ba c
  obtain ⟨c11, c⟩ := He.ba c
  obtain ⟨c12, c13⟩ := He.ba c
  refine { gC := He.glo_ok X G (S.fa a hg), ini := c1, mro := ?_, sa := He.eqO_ok c3, ga := He.eqO_ok c4, gg := He.eqO_ok c5, noN := He.eqO_ok c6, iC := He.eqO_ok c7, tJ := eq_of_beq c8, kC := c9, exC := of_decide_eq_true c10, tyC := of_decide_eq_true c11, hdC := c12, te := of_decide_eq_true c13, fn := ⟨d.qual, kV, oc, od, doc, pm, an, cdv, ct, osl, p1, q1, q2, q3, q4, q5, q6, q7, lk, cd, J⟩ }
  cases q : PySem.W.clsIn K (He.ga K x) with
  | none => rw [q] at c2; cases c2
  | some cl =>
    rw [q] at c2
    obtain ⟨m1, m2⟩ := He.ba c2
    exact ⟨cl, rfl, m1, m2⟩
theorem Says.base (S : Says K) (X : K.In h) (G : h.Ns mainGlobals mg) (i j a : Nat) (d : FA) {p1 p2 q1 q2 q3 q4 : Pos} (hd : fn[i]? = some d) (hn : d.name = "__init__") (hq : d.qual = "Refusal.__init__") (hi : inis[j]? = some (("Refusal" : Str), d.at_)) (hg : PW.Hd.fa[a]? = some (.glo "Refusal"))
    (e1 : defArgs d.st = rA p1 p2) (e2 : defBody d.st = rB q1 q2 q3 q4) (e3 : defScope d.st = rS) : BaseTxt K mg (gad K "Refusal") (He.ma K (gad K "Refusal") "__init__") := by
  obtain ⟨fd, F⟩ := S.1 d (List.mem_of_getElem? hd)
  obtain ⟨oc, od, kV, doc, pm, an, cdv, ct, osl, rfl, lk, cd⟩ := F.ex
  rw [hn, hq, e1, e2, e3] at lk
  rw [hq] at cd
  have e : He.ma K (He.ga K "Refusal") "__init__" = d.at_ := S.ini j hi
  rw [← e] at lk
  have c : baseB K = true := (He.ba S.ex).1
  obtain ⟨c1, c⟩ := He.ba c
  obtain ⟨c2, c⟩ := He.ba c
  obtain ⟨c3, c4⟩ := He.ba c
  refine { gR := He.glo_ok X G (S.fa a hg), rd := c1, sg := He.eqO_ok c2, fc := ?_, kf := c4, fn := ⟨kV, oc, od, doc, pm, an, cdv, ct, osl, p1, p2, q1, q2, q3, q4, lk, cd⟩ }
  split at c3
  · rename_i a' q
    rw [of_decide_eq_true c3] at q
    exact q
  · cases c3
theorem ents_of (X : K.In h) (G : h.Ns mainGlobals mg) : ∀ (l : List (Nat × Str)) (es : List DictEntry), entB K l es = true → EntsI K mg es l
  | [], [], _ => trivial
  | (k, x) :: r, e :: es, c => by
    obtain ⟨c1, c2⟩ := He.ba c
    refine ⟨?_, ents_of X G r es c2⟩
    obtain ⟨hs, ky, vl⟩ := e
    cases ky <;> first | cases c1 | skip
    cases vl <;> first | cases c1 | skip
    obtain ⟨d1, c1⟩ := He.ba c1
    obtain ⟨d2, c1⟩ := He.ba c1
    obtain ⟨d3, d4⟩ := He.ba c1
    have d1 := of_decide_eq_true d1
    have d2 := of_decide_eq_true d2
    have d3 := of_decide_eq_true d3
    subst d1 d2
    exact ⟨⟨_, rfl⟩, d3, rfl, He.glo_ok X G d4⟩
  | [], _ :: _, c => by cases c
  | _ :: _, [], c => by cases c
theorem kdi_of (X : K.In h) (G : h.Ns mainGlobals mg) {x : Str} {l : List (Nat × Str)} (c : dctB K x l = true) : KDI K mg (gad K x) l := by
  unfold dctB at c
  cases q : K.lookup (He.ga K x) with
  | none => rw [q] at c; cases c
  | some ob =>
    obtain ⟨oc, od, dt, sl⟩ := ob
    rw [q] at c
    cases oc <;> cases od <;> cases dt <;> first | cases c | skip
    obtain ⟨c1, c⟩ := He.ba c
    obtain ⟨c2, c⟩ := He.ba c
    obtain ⟨c3, c4⟩ := He.ba c
    have c1 := of_decide_eq_true c1
    subst c1
    have c2 : sl = #[] := Array.isEmpty_iff.mp c2
    subst c2
    exact ⟨by simpa using c3, _, _, q, ents_of X G l _ c4⟩
theorem Says.tx (S : Says K) (X : K.In h) (G : h.Ns mainGlobals mg) : Tx K mg where
  d_common_divisor := S.df X G 0 0 ⟨21, 20, "common_divisor", "common_divisor", topS 1⟩ rfl rfl rfl
  d_ratio := S.df X G 1 1 ⟨28, 27, "ratio", "ratio", topS 2⟩ rfl rfl rfl
  d_plus := S.df X G 2 2 ⟨35, 34, "plus", "plus", topS 3⟩ rfl rfl rfl
  d_minus := S.df X G 3 3 ⟨42, 41, "minus", "minus", topS 4⟩ rfl rfl rfl
  d_times := S.df X G 4 4 ⟨49, 48, "times", "times", topS 5⟩ rfl rfl rfl
  d_quotient := S.df X G 5 5 ⟨56, 55, "quotient", "quotient", topS 6⟩ rfl rfl rfl
  d_total := S.df X G 6 6 ⟨63, 62, "total", "total", topS 7⟩ rfl rfl rfl
  d_power := S.df X G 7 7 ⟨70, 69, "power", "power", topS 8⟩ rfl rfl rfl
  d_at_most := S.df X G 8 8 ⟨77, 76, "at_most", "at_most", topS 9⟩ rfl rfl rfl
  d_cheats_at := S.df X G 9 9 ⟨84, 83, "cheats_at", "cheats_at", topS 11⟩ rfl rfl rfl
  d_share_of := S.df X G 10 10 ⟨91, 90, "share_of", "share_of", topS 12⟩ rfl rfl rfl
  d_share_of_set := S.df X G 11 11 ⟨96, 95, "share_of_set", "share_of_set", topS 13⟩ rfl rfl rfl
  d_prior_of := S.df X G 12 12 ⟨103, 102, "prior_of", "prior_of", topS 14⟩ rfl rfl rfl
  d_joint_test := S.df X G 13 13 ⟨110, 109, "joint_test", "joint_test", topS 15⟩ rfl rfl rfl
  d_joint_production := S.df X G 14 14 ⟨117, 116, "joint_production", "joint_production", topS 16⟩ rfl rfl rfl
  d_value_at := S.df X G 15 15 ⟨124, 123, "value_at", "value_at", topS 17⟩ rfl rfl rfl
  d_paying_signals := S.df X G 16 16 ⟨129, 128, "paying_signals", "paying_signals", topS 18⟩ rfl rfl rfl
  d_rational_cheat_set := S.df X G 17 17 ⟨136, 135, "rational_cheat_set", "rational_cheat_set", topS 19⟩ rfl rfl rfl
  d_profit_of := S.df X G 18 18 ⟨141, 140, "profit_of", "profit_of", topS 20⟩ rfl rfl rfl
  d_detection_under := S.df X G 19 19 ⟨146, 145, "detection_under", "detection_under", topS 21⟩ rfl rfl rfl
  d_harm_under := S.df X G 20 20 ⟨151, 150, "harm_under", "harm_under", topS 22⟩ rfl rfl rfl
  d_cost_of := S.df X G 21 21 ⟨158, 157, "cost_of", "cost_of", topS 23⟩ rfl rfl rfl
  d_is_consistent := S.df X G 22 22 ⟨165, 164, "is_consistent", "is_consistent", topS 28⟩ rfl rfl rfl
  d_candidates_under := S.df X G 23 23 ⟨170, 169, "candidates_under", "candidates_under", topS 29⟩ rfl rfl rfl
  d_candidates_of := S.df X G 24 24 ⟨177, 176, "candidates_of", "candidates_of", topS 30⟩ rfl rfl rfl
  d_suspects_of := S.df X G 25 25 ⟨182, 181, "suspects_of", "suspects_of", topS 31⟩ rfl rfl rfl
  d_belief_in := S.df X G 26 26 ⟨187, 186, "belief_in", "belief_in", topS 32⟩ rfl rfl rfl
  d_harm_of := S.df X G 27 27 ⟨194, 193, "harm_of", "harm_of", topS 33⟩ rfl rfl rfl
  d_next_harm := S.df X G 28 28 ⟨199, 198, "next_harm", "next_harm", topS 34⟩ rfl rfl rfl
  d_detection_of := S.df X G 29 29 ⟨206, 205, "detection_of", "detection_of", topS 35⟩ rfl rfl rfl
  d_detected_by := S.df X G 30 30 ⟨213, 212, "detected_by", "detected_by", topS 36⟩ rfl rfl rfl
  d_is_allowed := S.df X G 31 31 ⟨220, 219, "is_allowed", "is_allowed", topS 37⟩ rfl rfl rfl
  d_require_policy := S.df X G 32 32 ⟨437, 436, "require_policy", "require_policy", topS 52⟩ rfl rfl rfl
  d_require_signal := S.df X G 33 33 ⟨444, 443, "require_signal", "require_signal", topS 53⟩ rfl rfl rfl
  d_require_within := S.df X G 34 34 ⟨451, 450, "require_within", "require_within", topS 54⟩ rfl rfl rfl
  d_require_fraction := S.df X G 35 35 ⟨458, 457, "require_fraction", "require_fraction", topS 55⟩ rfl rfl rfl
  d_require_stakes := S.df X G 36 36 ⟨465, 464, "require_stakes", "require_stakes", topS 56⟩ rfl rfl rfl
  d_require_empty_log := S.df X G 37 37 ⟨472, 471, "require_empty_log", "require_empty_log", topS 57⟩ rfl rfl rfl
  d_require_candidates := S.df X G 38 38 ⟨479, 478, "require_candidates", "require_candidates", topS 58⟩ rfl rfl rfl
  d_counted := S.df X G 39 39 ⟨486, 485, "counted", "counted", topS 60⟩ rfl rfl rfl
  d_candidates := S.df X G 40 40 ⟨493, 492, "candidates", "candidates", topS 62⟩ rfl rfl rfl
  d_belief := S.df X G 41 41 ⟨500, 499, "belief", "belief", topS 63⟩ rfl rfl rfl
  d_honest_belief := S.df X G 42 42 ⟨507, 506, "honest_belief", "honest_belief", topS 64⟩ rfl rfl rfl
  d_suspects := S.df X G 43 43 ⟨514, 513, "suspects", "suspects", topS 65⟩ rfl rfl rfl
  d_next_harm_probability := S.df X G 44 44 ⟨521, 520, "next_harm_probability", "next_harm_probability", topS 66⟩ rfl rfl rfl
  d_worst_candidate := S.df X G 45 45 ⟨528, 527, "worst_candidate", "worst_candidate", topS 67⟩ rfl rfl rfl
  d_is_detectable := S.df X G 46 46 ⟨536, 535, "is_detectable", "is_detectable", topS 71⟩ rfl rfl rfl
  d_policy_detection_probability := S.df X G 47 47 ⟨543, 542, "policy_detection_probability", "policy_detection_probability", topS 72⟩ rfl rfl rfl
  d_tests_needed := S.df X G 48 48 ⟨548, 547, "tests_needed", "tests_needed", topS 73⟩ rfl rfl rfl
  d_are_distinguishable := S.df X G 49 49 ⟨555, 554, "are_distinguishable", "are_distinguishable", topS 74⟩ rfl rfl rfl
  d_copy_of := S.df X G 50 50 ⟨584, 583, "copy_of", "copy_of", topS 78⟩ rfl rfl rfl
  d_with_prior := S.df X G 51 51 ⟨633, 632, "with_prior", "with_prior", topS 82⟩ rfl rfl rfl
  d_with_stakes := S.df X G 52 52 ⟨640, 639, "with_stakes", "with_stakes", topS 83⟩ rfl rfl rfl
  d_prior_against := S.df X G 53 53 ⟨661, 660, "prior_against", "prior_against", topS 87⟩ rfl rfl rfl
  d_prior_against_all := S.df X G 54 54 ⟨668, 667, "prior_against_all", "prior_against_all", topS 88⟩ rfl rfl rfl
  d_considered_priors := S.df X G 55 55 ⟨675, 674, "considered_priors", "considered_priors", topS 89⟩ rfl rfl rfl
  d_is_better := S.df X G 56 56 ⟨682, 681, "is_better", "is_better", topS 90⟩ rfl rfl rfl
  d_cheapest := S.df X G 57 57 ⟨689, 688, "cheapest", "cheapest", topS 91⟩ rfl rfl rfl
  d_require_existing := S.df X G 58 58 ⟨696, 695, "require_existing", "require_existing", topS 93⟩ rfl rfl rfl
  d_deterrent_prior_at := S.df X G 59 59 ⟨703, 702, "deterrent_prior_at", "deterrent_prior_at", topS 94⟩ rfl rfl rfl
  d_deterrent_prior := S.df X G 60 60 ⟨710, 709, "deterrent_prior", "deterrent_prior", topS 95⟩ rfl rfl rfl
  d_cheapest_prior := S.df X G 61 61 ⟨717, 716, "cheapest_prior", "cheapest_prior", topS 96⟩ rfl rfl rfl
  d_require_appearing := S.df X G 62 62 ⟨746, 745, "require_appearing", "require_appearing", topS 103⟩ rfl rfl rfl
  d_require_room := S.df X G 63 63 ⟨753, 752, "require_room", "require_room", topS 104⟩ rfl rfl rfl
  d_require_possible_test := S.df X G 64 64 ⟨760, 759, "require_possible_test", "require_possible_test", topS 105⟩ rfl rfl rfl
  d_record_test := S.df X G 65 65 ⟨767, 766, "record_test", "record_test", topS 106⟩ rfl rfl rfl
  d_record_production := S.df X G 66 66 ⟨774, 773, "record_production", "record_production", topS 107⟩ rfl rfl rfl
  d_undo_record := S.df X G 67 67 ⟨781, 780, "undo_record", "undo_record", topS 108⟩ rfl rfl rfl
  d_get_log := S.df X G 68 68 ⟨788, 787, "get_log", "get_log", topS 109⟩ rfl rfl rfl
  d_candidates_after_test := S.df X G 69 69 ⟨795, 794, "candidates_after_test", "candidates_after_test", topS 110⟩ rfl rfl rfl
  d_counts := S.df X G 70 70 ⟨800, 799, "counts", "counts", topS 111⟩ rfl rfl rfl
  d_shown := S.df X G 71 71 ⟨808, 807, "shown", "shown", topS 114⟩ rfl rfl rfl
  d_permit := S.df X G 72 72 ⟨815, 814, "permit", "permit", topS 115⟩ rfl rfl rfl
  d_revoke_permit := S.df X G 73 73 ⟨822, 821, "revoke_permit", "revoke_permit", topS 116⟩ rfl rfl rfl
  d_permit_status := S.df X G 74 74 ⟨829, 828, "permit_status", "permit_status", topS 117⟩ rfl rfl rfl
  d_append_policy := S.df X G 75 75 ⟨835, 834, "append_policy", "append_policy", topS 122⟩ rfl rfl rfl
  d_add_policy := S.df X G 76 76 ⟨842, 841, "add_policy", "add_policy", topS 123⟩ rfl rfl rfl
  d_add_rational_policy := S.df X G 77 77 ⟨849, 848, "add_rational_policy", "add_rational_policy", topS 124⟩ rfl rfl rfl
  d_remove_policy := S.df X G 78 78 ⟨856, 855, "remove_policy", "remove_policy", topS 125⟩ rfl rfl rfl
  d_get_policy := S.df X G 79 79 ⟨863, 862, "get_policy", "get_policy", topS 126⟩ rfl rfl rfl
  d_cheating_value := S.df X G 80 80 ⟨871, 870, "cheating_value", "cheating_value", topS 129⟩ rfl rfl rfl
  d_cheating_signals := S.df X G 81 81 ⟨878, 877, "cheating_signals", "cheating_signals", topS 130⟩ rfl rfl rfl
  d_expected_profit := S.df X G 82 82 ⟨885, 884, "expected_profit", "expected_profit", topS 131⟩ rfl rfl rfl
  d_detection_probability := S.df X G 83 83 ⟨892, 891, "detection_probability", "detection_probability", topS 132⟩ rfl rfl rfl
  d_harm_probability := S.df X G 84 84 ⟨899, 898, "harm_probability", "harm_probability", topS 133⟩ rfl rfl rfl
  d_total_cost := S.df X G 85 85 ⟨906, 905, "total_cost", "total_cost", topS 134⟩ rfl rfl rfl
  d_cheating_signals_for_prior := S.df X G 86 86 ⟨913, 912, "cheating_signals_for_prior", "cheating_signals_for_prior", topS 135⟩ rfl rfl rfl
  d_cheating_signals_for_stakes := S.df X G 87 87 ⟨920, 919, "cheating_signals_for_stakes", "cheating_signals_for_stakes", topS 136⟩ rfl rfl rfl
  d_create_setting := S.df X G 88 88 ⟨928, 927, "create_setting", "create_setting", topS 141⟩ rfl rfl rfl
  d_set_prior := S.df X G 89 89 ⟨956, 955, "set_prior", "set_prior", topS 145⟩ rfl rfl rfl
  d_set_stakes := S.df X G 90 90 ⟨963, 962, "set_stakes", "set_stakes", topS 146⟩ rfl rfl rfl
  d_set_prices := S.df X G 91 91 ⟨970, 969, "set_prices", "set_prices", topS 147⟩ rfl rfl rfl
  d_get_settings := S.df X G 92 92 ⟨977, 976, "get_settings", "get_settings", topS 148⟩ rfl rfl rfl
  d_split_calls := S.df X G 93 93 ⟨988, 987, "split_calls", "split_calls", topS 156⟩ rfl rfl rfl
  d_handler_of := S.df X G 94 94 ⟨995, 994, "handler_of", "handler_of", topS 157⟩ rfl rfl rfl
  d_carry_out := S.df X G 95 95 ⟨1002, 1001, "carry_out", "carry_out", topS 158⟩ rfl rfl rfl
  d_require_ready := S.df X G 96 96 ⟨1009, 1008, "require_ready", "require_ready", topS 159⟩ rfl rfl rfl
  d_answer_of := S.df X G 97 97 ⟨1016, 1015, "answer_of", "answer_of", topS 160⟩ rfl rfl rfl
  d_answers := S.df X G 98 98 ⟨1023, 1022, "answers", "answers", topS 161⟩ rfl rfl rfl
  n_abs := He.free_ok X G (S.fa 25 rfl)
  n_len := He.free_ok X G (S.fa 26 rfl)
  n_sum := He.free_ok X G (S.fa 27 rfl)
  n_all := He.free_ok X G (S.fa 28 rfl)
  n_list := He.free_ok X G (S.fa 29 rfl)
  n_range := He.free_ok X G (S.fa 30 rfl)
  n_enumerate := He.free_ok X G (S.fa 31 rfl)
  i_BEHAVED := He.int_ok X G (S.fa 32 rfl)
  i_CHEATED := He.int_ok X G (S.fa 33 rfl)
  i_PRODUCTION := He.int_ok X G (S.fa 34 rfl)
  i_MOST_STAKE := He.int_ok X G (S.fa 35 rfl)
  i_MOST_TESTS := He.int_ok X G (S.fa 36 rfl)
  i_MOST_ENTRIES := He.int_ok X G (S.fa 37 rfl)
  i_MOST_POLICIES := He.int_ok X G (S.fa 38 rfl)
  i_MOST_WEIGHT_policy_calls := He.int_ok X G (S.fa 39 rfl)
  i_MOST_SIGNALS := He.int_ok X G (S.fa 40 rfl)
  i_MOST_WEIGHT_setting_calls := He.int_ok X G (S.fa 41 rfl)
  i_RESET := He.int_ok X G (S.fa 42 rfl)
  i_CREATE_SETTING := He.int_ok X G (S.fa 43 rfl)
  m_Monitor := S.dfm X G 101 2 2 45 "Monitor" ⟨619, 618, "__init__", "Monitor.__init__", inClass (topS 80) 0⟩ rfl rfl rfl rfl rfl
  c_Monitor := He.cls_ok (S.fa 44 rfl)
  a_Monitor_setting := He.noat_ok (S.fa 46 rfl)
  a_Monitor_policies := He.noat_ok (S.fa 47 rfl)
  a_Monitor_log := He.noat_ok (S.fa 48 rfl)
  a_Monitor_permit := He.noat_ok (S.fa 49 rfl)
  m_Policy := S.dfm X G 100 1 1 51 "Policy" ⟨598, 597, "__init__", "Policy.__init__", inClass (topS 79) 0⟩ rfl rfl rfl rfl rfl
  c_Policy := He.cls_ok (S.fa 50 rfl)
  a_Policy_cheat_set := He.noat_ok (S.fa 52 rfl)
  a_Policy_weight := He.noat_ok (S.fa 53 rfl)
  m_Setting := S.dfm X G 99 0 0 55 "Setting" ⟨570, 569, "__init__", "Setting.__init__", inClass (topS 77) 0⟩ rfl rfl rfl rfl rfl
  c_Setting := He.cls_ok (S.fa 54 rfl)
  a_Setting_signal_count := He.noat_ok (S.fa 56 rfl)
  a_Setting_test_weights := He.noat_ok (S.fa 57 rfl)
  a_Setting_production_weights := He.noat_ok (S.fa 58 rfl)
  a_Setting_prior_num := He.noat_ok (S.fa 59 rfl)
  a_Setting_prior_den := He.noat_ok (S.fa 60 rfl)
  a_Setting_gain := He.noat_ok (S.fa 61 rfl)
  a_Setting_loss := He.noat_ok (S.fa 62 rfl)
  a_Setting_harm_price := He.noat_ok (S.fa 63 rfl)
  a_Setting_test_price := He.noat_ok (S.fa 64 rfl)
  ref := S.base X G 102 3 3 ⟨234, 233, "__init__", "Refusal.__init__", inClass (topS 39) 0⟩ rfl rfl rfl rfl rfl rfl rfl rfl
  r_NoSetting := S.sub X G 103 4 4 "NoSetting" ⟨254, 253, "__init__", "NoSetting.__init__", inClass (topS 40) 0⟩ 11 (List.mem_of_getElem? (i := 0) rfl) rfl rfl rfl rfl rfl rfl rfl ⟨fun env => ⟨_, rfl⟩, fun env => rfl⟩
  r_SettingExists := S.sub X G 104 5 5 "SettingExists" ⟨273, 272, "__init__", "SettingExists.__init__", inClass (topS 41) 0⟩ 13 (List.mem_of_getElem? (i := 1) rfl) rfl rfl rfl rfl rfl rfl rfl ⟨fun env => ⟨_, rfl⟩, fun env => rfl⟩
  r_NotThere := S.sub X G 105 6 6 "NotThere" ⟨292, 291, "__init__", "NotThere.__init__", inClass (topS 42) 0⟩ 2 (List.mem_of_getElem? (i := 2) rfl) rfl rfl rfl rfl rfl rfl rfl ⟨fun env => ⟨_, rfl⟩, fun env => rfl⟩
  r_OutsideLimits := S.sub X G 106 7 7 "OutsideLimits" ⟨311, 310, "__init__", "OutsideLimits.__init__", inClass (topS 43) 0⟩ 22 (List.mem_of_getElem? (i := 3) rfl) rfl rfl rfl rfl rfl rfl rfl ⟨fun env => ⟨_, rfl⟩, fun env => rfl⟩
  r_LogNotEmpty := S.sub X G 107 8 8 "LogNotEmpty" ⟨330, 329, "__init__", "LogNotEmpty.__init__", inClass (topS 44) 0⟩ 16 (List.mem_of_getElem? (i := 4) rfl) rfl rfl rfl rfl rfl rfl rfl ⟨fun env => ⟨_, rfl⟩, fun env => rfl⟩
  r_SameCheatSet := S.sub X G 108 9 9 "SameCheatSet" ⟨349, 348, "__init__", "SameCheatSet.__init__", inClass (topS 45) 0⟩ 17 (List.mem_of_getElem? (i := 5) rfl) rfl rfl rfl rfl rfl rfl rfl ⟨fun env => ⟨_, rfl⟩, fun env => rfl⟩
  r_Full := S.sub X G 109 10 10 "Full" ⟨368, 367, "__init__", "Full.__init__", inClass (topS 46) 0⟩ 28 (List.mem_of_getElem? (i := 6) rfl) rfl rfl rfl rfl rfl rfl rfl ⟨fun env => ⟨_, rfl⟩, fun env => rfl⟩
  r_NoValue := S.sub X G 110 11 11 "NoValue" ⟨387, 386, "__init__", "NoValue.__init__", inClass (topS 47) 0⟩ 33 (List.mem_of_getElem? (i := 7) rfl) rfl rfl rfl rfl rfl rfl rfl ⟨fun env => ⟨_, rfl⟩, fun env => rfl⟩
  r_HarmTooHigh := S.sub X G 111 12 12 "HarmTooHigh" ⟨406, 405, "__init__", "HarmTooHigh.__init__", inClass (topS 48) 0⟩ 30 (List.mem_of_getElem? (i := 8) rfl) rfl rfl rfl rfl rfl rfl rfl ⟨fun env => ⟨_, rfl⟩, fun env => rfl⟩
  r_NothingToUndo := S.sub X G 112 13 13 "NothingToUndo" ⟨425, 424, "__init__", "NothingToUndo.__init__", inClass (topS 49) 0⟩ 6 (List.mem_of_getElem? (i := 9) rfl) rfl rfl rfl rfl rfl rfl rfl ⟨fun env => ⟨_, rfl⟩, fun env => rfl⟩
  g_TAKES_ONE_NUMBER := He.glo_ok X G (S.fa 14 rfl)
  t_TAKES_ONE_NUMBER := fun H => He.tupB_ok (He.ba (He.ba (He.ba (He.ba (He.ba S.ex).2).2).1).1).1 H
  g_TAKES_TWO_NUMBERS := He.glo_ok X G (S.fa 15 rfl)
  t_TAKES_TWO_NUMBERS := fun H => He.tupB_ok (He.ba (He.ba (He.ba (He.ba (He.ba S.ex).2).2).1).1).2 H
  g_TAKES_ONE_LIST := He.glo_ok X G (S.fa 16 rfl)
  t_TAKES_ONE_LIST := fun H => He.tupB_ok (He.ba (He.ba (He.ba (He.ba S.ex).2).2).1).2 H
theorem Says.tk (S : Says K) (X : K.In h) (G : h.Ns mainGlobals mg) : Tk K mg where
  g_BELIEF_CALLS := He.glo_ok X G (S.fa 17 rfl)
  k_BELIEF_CALLS := kdi_of X G (He.ba (He.ba (He.ba (He.ba S.ex).2).2).2).1
  g_DETECTION_CALLS := He.glo_ok X G (S.fa 18 rfl)
  k_DETECTION_CALLS := kdi_of X G (He.ba (He.ba (He.ba (He.ba (He.ba S.ex).2).2).2).2).1
  g_DETERRENCE_CALLS := He.glo_ok X G (S.fa 19 rfl)
  k_DETERRENCE_CALLS := kdi_of X G (He.ba (He.ba (He.ba (He.ba (He.ba (He.ba S.ex).2).2).2).2).2).1
  g_LOG_CALLS := He.glo_ok X G (S.fa 20 rfl)
  k_LOG_CALLS := kdi_of X G (He.ba (He.ba (He.ba (He.ba (He.ba (He.ba (He.ba S.ex).2).2).2).2).2).2).1
  g_PERMIT_CALLS := He.glo_ok X G (S.fa 21 rfl)
  k_PERMIT_CALLS := kdi_of X G (He.ba (He.ba (He.ba (He.ba (He.ba (He.ba (He.ba (He.ba S.ex).2).2).2).2).2).2).2).1
  g_POLICY_CALLS := He.glo_ok X G (S.fa 22 rfl)
  k_POLICY_CALLS := kdi_of X G (He.ba (He.ba (He.ba (He.ba (He.ba (He.ba (He.ba (He.ba (He.ba S.ex).2).2).2).2).2).2).2).2).1
  g_RATIONAL_CALLS := He.glo_ok X G (S.fa 23 rfl)
  k_RATIONAL_CALLS := kdi_of X G (He.ba (He.ba (He.ba (He.ba (He.ba (He.ba (He.ba (He.ba (He.ba (He.ba S.ex).2).2).2).2).2).2).2).2).2).1
  g_SETTING_CALLS := He.glo_ok X G (S.fa 24 rfl)
  k_SETTING_CALLS := kdi_of X G (He.ba (He.ba (He.ba (He.ba (He.ba (He.ba (He.ba (He.ba (He.ba (He.ba S.ex).2).2).2).2).2).2).2).2).2).2
end
end PW.Hd
set_option Elab.async false
set_option linter.all false
set_option maxRecDepth 100000
set_option maxHeartbeats 4000000
/-! The end. -/
namespace PW.Hd
open PySem PySem.Spec PyProof.Rows L2 PySem.W HandSHeadRun
theorem join4 {S A B C : Type} {E : Option S} {f1 : S → A} {f2 : S → B} {f3 : S → C × Bool} {f4 : S → Bool} {a : A} {b : B} {c : C} (h1 : E.map f1 = some a) (h2 : E.map f2 = some b) (h3 : E.map f3 = some (c, true)) (h4 : E.map f4 = some true) :
    E.map (fun s => (f1 s, f2 s, ((f3 s).1, (f3 s).2 && f4 s))) = some (a, b, (c, true)) := by
  cases E with
  | none => cases h1
  | some s =>
    have e1 : f1 s = a := Option.some.inj h1
    have e2 : f2 s = b := Option.some.inj h2
    have e3 : f3 s = (c, true) := Option.some.inj h3
    have e4 : f4 s = true := Option.some.inj h4
    show some (f1 s, f2 s, ((f3 s).1, (f3 s).2 && f4 s)) = _
    rw [e1, e2, e3, e4]
    rfl
theorem run_f (w : World) : RunEqS R qv hk ob 20000 loose (w.withFollow "special-get-raises" false) := by
  intro os
  have h := join4 (runL_f w os) (runS_f w os) (runX_f w os) (runA_f w os)
  exact h
theorem run_t (w : World) : RunEqS R qv hk ob 20000 loose (w.withFollow "special-get-raises" true) := by
  intro os
  have h := join4 (runL_t w os) (runS_t w os) (runX_t w os) (runA_t w os)
  exact h
theorem run (w : World) : RunEqS R qv hk ob 20000 loose w := byRow2 "special-get-raises" (P := fun w => RunEqS R qv hk ob 20000 loose w) run_f run_t w
theorem natL_ints (ns : List Nat) : natL ns = (ns.map fun (a : Nat) => (a : Int)).map V.int := by
  unfold natL
  rw [List.map_map]
  rfl
/-- answers(calls): what the document answers, where it asks -/
def spEnd (K : PySem.W.Frag) : Sp := fun vs H Q _ => ∃ (a : Addr) (l : List Int), vs = [.ref a] ∧ SqL K H a (l.map V.int) ∧ PyKp417.answers_asked l = true ∧ ∀ (H' : Hp) (p : Addr), H' p = some (.lst ((PyKp417.answers l).map V.int)) → Q (.ref p) H'
/-- the promise, over any written part that says so -/
theorem facts {P : Program} {w : World} {K : PySem.W.Frag} {h : Heap} {mg : Str → Option Value} {f : Addr} (X : K.In h) (G : h.Ns mainGlobals mg) (hfa : mg ("answers" : Str) = some (.ref f)) (S : Says K) :
    ∃ fd : FuncData, (∀ (s : Shared) (us : List Value), us.length = (["calls"] : List Str).length → BindsTo s fd ⟨us, []⟩ ((["calls"] : List Str).zip us)) ∧
      ∀ base : Heap, K.In base → base.Ns mainGlobals mg → FnOk P w K mg base CX0 23 f fd ["calls"] (spEnd K) := by
  have T := S.tx X G
  have D := S.tk X G
  obtain ⟨f', fd, F, g⟩ := T.d_answers.ex
  rw [hfa] at g
  cases g
  refine ⟨fd, fun s us hl => ?_, fun base _ _ => (fn_answers T D F).imp fun vs H Q E s => ?_⟩
  · obtain ⟨oc, od, kV, doc, pm, an, cdv, ct, osl, rfl, _, _⟩ := F.ex
    exact .of_eq (bd_answers kV doc pm an cdv ct us hl)
  · obtain ⟨a, l, rfl, hS, ha, k⟩ := s
    obtain ⟨cs, e1, e2, e3, e4, e5⟩ := asked_split ha
    rw [e5] at k
    refine ⟨a, cs, rfl, ?_, e2, fun c hc => lk_all T (e3 c hc), e4, k⟩
    rw [natL_ints, ← e1]
    exact hS
end PW.Hd
open PySem PySem.W PySem.Calls PyProof.Rows
set_option maxHeartbeats 8000000 in
theorem PySem.Challenge.cw_policywatch_s01_answers_holds : PySem.Challenge.rw_policywatch_s01_answers.Holds := by
  refine HandSHeadRun.head_spec (r := PySem.Challenge.rw_policywatch_s01_answers) (q := PW.Hd.qv) (H := PW.Hd.hk) (ob := PW.Hd.ob) (M := 20000) (loose := PW.Hd.loose) (d := HandSHeadRun.topDef PySem.Challenge.rw_policywatch_s01_answers.prog 161) (kwd := []) PW.Hd.ob_eq
    (by kernel_rfl) (fun s => by kernel_rfl) PW.Hd.run (by kernel_rfl) (by kernel_rfl) (by kernel_rfl) os_shapes PW.Hd.well (by decide +kernel) PW.Hd.bare_ ⟨[.list [.int 0]], by decide +kernel, by decide +kernel⟩ ?call
  intro w s₀ s₁ mg mb G Y
  obtain ⟨K, hK, S⟩ := Y
  refine (L2.walk_specK (r := PySem.Challenge.rw_policywatch_s01_answers) (k := 23) (K := fun _ => K) (YP := fun _ h => K.In h ∧ PW.Hd.Says K) (CX := L2.CX0) (ps := ["calls"]) (sp := PW.Hd.spEnd) PW.Hd.well (by kernel_rfl) rfl ⟨rfl, by decide, by decide⟩ (fun _ _ y => y.1) ?F ?S (fun _ _ _ _ z => z)) w s₀ s₁ mg mb G ⟨hK, S⟩
  case F =>
    intro w mg fa h y X G hmg
    refine PW.Hd.facts y.1 G ?_ y.2
    have e : (HandSHeadRun.topDef PySem.Challenge.rw_policywatch_s01_answers.prog 161).name = ("answers" : PySem.Str) := by kernel_rfl
    rw [← e]
    exact hmg
  case S =>
    intro K H xs a hO hwi hask hx
    cases hx with
    | cons h1 h2 =>
      cases h2
      cases h1 with
      | lst hs ha =>
        have e := L2.ints_dw a.1 _ ha
        subst e
        exact ⟨_, a.1, rfl, hs, hask, fun H' p hp => .lst (L2.SqL.of hp) (L2.dw_ints _)⟩
#print axioms PySem.Challenge.cw_policywatch_s01_answers_holds
